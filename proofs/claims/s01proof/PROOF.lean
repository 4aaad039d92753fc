import PyProof.Rows.All
import Wide.All
import OpenK.AllK
import Wide.FinOn
import PyProof.EqAt
import PyProof.EqKinds
import PyProof.TupleCall
import KE.BitLaws
import Open.SpecLaws
import KE.OsHead
import KE.OsGo
import KE.KLam
import KE.KSortKey
import KE.KSortTupG
import PyProof.Rows.SetFrom
import PySem.Challenge.RW_hullseams_s01_answers
section
set_option Elab.async false
set_option linter.all false
set_option maxRecDepth 100000
namespace L2
open PySem PySem.Spec PyProof.Rows
abbrev Key := Sum Int Str
def keyIs : Key → Value → Bool
  | .inl k, v => Value.isInt k v
  | .inr x, v => Value.isStrOf x v
def keyH (w : World) : Key → Int
  | .inl k => hashInt k
  | .inr x => hashStr w x
theorem keyIs_shape : ∀ {k : Key} {v : Value}, keyIs k v = true → (∃ i t, k = Sum.inl i ∧ v = Value.int i t) ∨ (∃ x t, k = Sum.inr x ∧ v = Value.str x t)
  | .inl i, v, h => by
    obtain ⟨t, e⟩ := Value.isInt_shape (k := i) (v := v) h
    exact .inl ⟨i, t, rfl, e⟩
  | .inr x, v, h => by
    obtain ⟨t, e⟩ := Value.isStrOf_shape (x := x) (v := v) h
    exact .inr ⟨x, t, rfl, e⟩
theorem keyIs_int (i : Int) (t : Tok) : keyIs (.inl i) (.int i t) = true := by simp [keyIs, Value.isInt]
theorem keyIs_str (x : Str) (t : Tok) : keyIs (.inr x) (.str x t) = true := by simp [keyIs, Value.isStrOf]
theorem key_ll (a b : Int) : decide ((Sum.inl a : Key) = Sum.inl b) = (a == b) := by
  by_cases e : a = b
  · subst e; simp
  · have h : ¬ (Sum.inl a : Key) = Sum.inl b := fun q => e (Sum.inl.inj q)
    rw [decide_eq_false h]
    exact (beq_eq_false_iff_ne.mpr e).symm
theorem key_rr (a b : Str) : decide ((Sum.inr a : Key) = Sum.inr b) = decide (a = b) := by
  by_cases e : a = b
  · subst e; simp
  · have h : ¬ (Sum.inr a : Key) = Sum.inr b := fun q => e (Sum.inr.inj q)
    rw [decide_eq_false h, decide_eq_false e]
theorem key_lr (a : Int) (b : Str) : decide ((Sum.inl a : Key) = Sum.inr b) = false := decide_eq_false (fun q => nomatch q)
theorem key_rl (a : Str) (b : Int) : decide ((Sum.inr a : Key) = Sum.inl b) = false := decide_eq_false (fun q => nomatch q)
def mixKind (prog : Program) (w : World) : PySem.KeyKind prog w Key where
  is := keyIs
  hash := keyH w
  inj := fun v a b ha hb => by
    rcases keyIs_shape ha with ⟨i, t, rfl, rfl⟩ | ⟨x, t, rfl, rfl⟩
    · rcases keyIs_shape hb with ⟨j, u, rfl, e⟩ | ⟨y, u, rfl, e⟩
      · injection e with e1 _; rw [e1]
      · exact nomatch e
    · rcases keyIs_shape hb with ⟨j, u, rfl, e⟩ | ⟨y, u, rfl, e⟩
      · exact nomatch e
      · injection e with e1 _; rw [e1]
  byValue := fun k v h => by
    rcases keyIs_shape h with ⟨i, t, rfl, rfl⟩ | ⟨x, t, rfl, rfl⟩ <;> rfl
  pyHash := fun hv h => by
    rcases keyIs_shape hv with ⟨i, t, rfl, rfl⟩ | ⟨x, t, rfl, rfl⟩
    · exact wpAny_pyHash_int h
    · exact wpAny_pyHash_str h
  eqBool := fun hu hv h => by
    rcases keyIs_shape hu with ⟨i, t, rfl, rfl⟩ | ⟨x, t, rfl, rfl⟩
    · rcases keyIs_shape hv with ⟨j, u, rfl, rfl⟩ | ⟨y, u, rfl, rfl⟩
      · rw [key_ll] at h; exact wpAny_eqBool_int h
      · rw [key_lr] at h; exact SeqAt.EqAt.int_str i t y u _ _ _ _ h
    · rcases keyIs_shape hv with ⟨j, u, rfl, rfl⟩ | ⟨y, u, rfl, rfl⟩
      · rw [key_rl] at h; exact SeqAt.EqAt.str_int x t j u _ _ _ _ h
      · rw [key_rr] at h; exact wpAny_eqBool_str h
  «strs» := fun k x t v h => by
    rcases keyIs_shape h with ⟨i, u, rfl, e⟩ | ⟨y, u, rfl, e⟩
    · exact nomatch e
    · injection e with e1 _
      subst e1
      cases v <;> rfl
theorem mixKind_int (prog : Program) (w : World) (i : Int) (t : Tok) : (mixKind prog w).is (.inl i) (.int i t) = true := keyIs_int i t
theorem mixKind_str (prog : Program) (w : World) (x : Str) (t : Tok) : (mixKind prog w).is (.inr x) (.str x t) = true := keyIs_str x t
end L2
namespace L2
open PySem PySem.Spec PyProof.Rows
inductive V where
  | non | bl (b : Bool) | int (i : Int) | str (x : Str) | byt (b : Array UInt8) | flt (b : UInt64) | ref (a : Addr) | ty (n : String)
  deriving DecidableEq
def RelV : V → Value → Prop
  | .non, u => u = Value.none
  | .bl b, u => u = Value.bool b
  | .int i, u => ∃ t, u = Value.int i t
  | .str x, u => ∃ t, u = Value.str x t
  | .byt b, u => ∃ t, u = Value.bytes b t
  | .flt b, u => ∃ t, u = Value.float b t
  | .ref a, u => u = Value.ref a
  | .ty n, u => u = Value.type n
abbrev Vals : List V → List Value → Prop := Paired RelV
theorem Vals.length {xs : List V} {us : List Value} (r : Vals xs us) : xs.length = us.length := Paired.length r
theorem Vals.get : ∀ {xs : List V} {us : List Value} {i : Nat} {x : V}, Vals xs us → xs[i]? = some x → ∃ u, us[i]? = some u ∧ RelV x u
  | _, _, _, _, .nil, e => by simp at e
  | _, _, 0, _, .cons r _, e => by simp at e; subst e; exact ⟨_, rfl, r⟩
  | _, _, i + 1, x, .cons _ t, e => by
    obtain ⟨u, h1, h2⟩ := Vals.get (i := i) (x := x) t (by simpa using e)
    exact ⟨u, by simpa using h1, h2⟩
theorem Vals.append : ∀ {xs ys : List V} {us ws : List Value}, Vals xs us → Vals ys ws → Vals (xs ++ ys) (us ++ ws)
  | _, _, _, _, .nil, s => s
  | _, _, _, _, .cons r t, s => .cons r (Vals.append t s)
theorem Vals.take : ∀ {xs : List V} {us : List Value} (n : Nat), Vals xs us → Vals (xs.take n) (us.take n)
  | _, _, 0, _ => .nil
  | _, _, _ + 1, .nil => .nil
  | _, _, n + 1, .cons r t => .cons r (Vals.take n t)
theorem Vals.drop : ∀ {xs : List V} {us : List Value} (n : Nat), Vals xs us → Vals (xs.drop n) (us.drop n)
  | _, _, 0, r => r
  | _, _, _ + 1, .nil => .nil
  | _, _, n + 1, .cons _ t => Vals.drop n t
def RelO : Option V → Option Value → Prop
  | some v, some u => RelV v u
  | none, none => True
  | _, _ => False
def KV {κ : Type} : List (κ × V) → List (κ × Value) → Prop := Paired fun (p : κ × V) (q : κ × Value) => p.1 = q.1 ∧ RelV p.2 q.2
def kV : Key → V
  | .inl i => .int i
  | .inr x => .str x
inductive HO where
  | lst (xs : List V)
  | tup (xs : List V)
  | dK (kvs : List (Key × V)) | dT (kvs : List (List Key × V))
  | set (S : Int → Bool) (n : Nat)
  | ins (C dx : Addr) (fs : List (Str × V))
  | own (x : Addr)
  | xd (fs : List (Str × V))
  | met (f x : Addr)
  | rng (lo hi : Int)
  | frz (o : Obj) (u : HO)
  | tbl (ps : Array Value)
  | ext (φ : Heap → Prop)
abbrev Hp := Addr → Option HO
def upd (H : Hp) (a : Addr) (o : HO) : Hp := fun b => if b = a then some o else H b
theorem upd_same {H : Hp} {a : Addr} {o : HO} : upd H a o a = some o := by unfold upd; rw [if_pos rfl]
theorem upd_ne {H : Hp} {a b : Addr} {o : HO} (h : b ≠ a) : upd H a o b = H b := by unfold upd; rw [if_neg h]
theorem upd_upd {H : Hp} {a : Addr} {o u : HO} : upd (upd H a o) a u = upd H a u := by
  funext b; unfold upd; split <;> rfl
theorem ne_of {H : Hp} {a b : Addr} {o u : HO} (h : H a = some o) (h' : H b = some u) (d : o ≠ u) : a ≠ b := by
  intro e; subst e; rw [h] at h'; exact d (Option.some.inj h')
theorem ne_of_none {H : Hp} {a b : Addr} {o : HO} (h : H a = some o) (h' : H b = none) : a ≠ b := by
  intro e; subst e; rw [h] at h'; cases h'
section
variable (P : Program) (w : World)
def ObjOk (H : Hp) (h : Heap) (a : Addr) : HO → Prop
  | .lst xs => xs.length ≤ sizeLine ∧ ∃ (its : List Value) (n : Nat), Vals xs its ∧ h.get? a = some { cls := .type "list", data := .seq its.toArray n }
  | .tup xs => xs.length ≤ sizeLine ∧ ∃ its : List Value, Vals xs its ∧ IsTup h a its.toArray
  | .dK kvs => kvs.length ≤ sizeLine ∧ (a == sysModules) = false ∧ ∃ vs, KV kvs vs ∧ h.DictOf (mixKind P w) a vs
  | .dT kvs => kvs.length ≤ sizeLine ∧ (a == sysModules) = false ∧ ∃ xs : List (List Key × Addr × Value),
      Paired (fun (p : List Key × V) (q : List Key × Addr × Value) => p.1 = q.1 ∧ H q.2.1 = some (.tup (p.1.map kV)) ∧ RelV p.2 q.2.2) kvs xs ∧
      ∃ o es ep, h.get? a = some o ∧ o.ExactDict ∧ o.data = .dict es ep ∧ es.toList = xs.map (entryOfKey (tupleKind (mixKind P w))) ∧ (xs.map (·.1)).Nodup
  | .set S n => h.SetOf (intKind P w) a S n
  | .ins C dx fs => H dx = some (.own a) ∧ fs.length ≤ 1000 ∧ dx ≠ a ∧ h.get? a = some (PySem.W.instObj C dx) ∧
      ∃ mA, h.Ns1 dx mA ∧ (∀ f, RelO (fs.lookup f) (mA f)) ∧ PySem.Within mA (fs.map (·.1))
  | .own _ => ∃ o, h.get? a = some o
  | .xd fs => ∃ mA, h.Ns1 a mA ∧ ∀ f, RelO (fs.lookup f) (mA f)
  | .rng lo hi => ∃ t u v, h.get? a = some { cls := .type "range", data := .fields #[.int lo t, .int hi u, .int 1 v] }
  | .frz o u => h.get? a = some o ∧ ObjOk H h a u
  | .tbl ps => h.get? a = some { cls := .none, data := .fields ps }
  | .met f x => h.get? a = some (PySem.W.methodObj (.ref f) (.ref x))
  | .ext φ => φ h ∧ (∃ o, h.get? a = some o) ∧ ∀ h1 h2 : Heap, φ h1 → (∀ o, h1.get? a = some o → h2.get? a = some o) → φ h2
def HOk (H : Hp) (h : Heap) : Prop := ∀ a o, H a = some o → ObjOk P w H h a o
end
section
variable {P : Program} {w : World} {H H' : Hp} {h h' : Heap} {a : Addr} {o : HO}
theorem ObjOk.lt (x : ObjOk P w H h a o) : a < h.objs.size := by
  cases o with
  | lst xs => obtain ⟨_, _, _, _, e⟩ := x; exact Heap.lt_size e
  | tup xs => obtain ⟨_, _, _, p⟩ := x; exact p.lt
  | dK kvs => obtain ⟨_, _, _, _, o, _, _, e, _⟩ := x; exact Heap.lt_size e
  | dT kvs => obtain ⟨_, _, _, _, o, _, _, e, _⟩ := x; exact Heap.lt_size e
  | set S n => obtain ⟨o, _, _, _, e, _⟩ := x; exact Heap.lt_size e
  | ins C dx fs => obtain ⟨_, _, _, e, _⟩ := x; exact Heap.lt_size e
  | own y => obtain ⟨_, e⟩ := x; exact Heap.lt_size e
  | xd fs => obtain ⟨_, ⟨_, _, _, e, _⟩, _⟩ := x; exact Heap.lt_size e
  | rng lo hi => obtain ⟨_, _, _, e⟩ := x; exact Heap.lt_size e
  | frz ob u => obtain ⟨e, _⟩ := x; exact Heap.lt_size e
  | tbl ps => exact Heap.lt_size (show h.get? a = some _ from x)
  | met f y => exact Heap.lt_size (show h.get? a = some _ from x)
  | ext φ => obtain ⟨_, ⟨_, e⟩, _⟩ := x; exact Heap.lt_size e
theorem Paired.mapP {α β : Type} {F G : α → β → Prop} : ∀ {l₁ : List α} {l₂ : List β}, Paired F l₁ l₂ → (∀ a b, F a b → G a b) → Paired G l₁ l₂
  | _, _, .nil, _ => .nil
  | _, _, .cons r t, f => .cons (f _ _ r) (Paired.mapP t f)
theorem ObjOk.stay (x : ObjOk P w H h a o) (k : ∀ b u, (b = a ∨ H b = some (.own a)) → h.get? b = some u → h'.get? b = some u)
    (ho : ∀ b, H b = some (.own a) → H' b = some (.own a)) (ht : ∀ b xs, H b = some (.tup xs) → H' b = some (.tup xs)) : ObjOk P w H' h' a o := by
  induction o with
  | lst xs => obtain ⟨z, its, n, r, e⟩ := x; exact ⟨z, its, n, r, k _ _ (.inl rfl) e⟩
  | tup xs => obtain ⟨z, its, r, ob, e, c⟩ := x; exact ⟨z, its, r, ob, k _ _ (.inl rfl) e, c⟩
  | dK kvs => obtain ⟨z, y, vs, r, ob, es, ep, e, c⟩ := x; exact ⟨z, y, vs, r, ob, es, ep, k _ _ (.inl rfl) e, c⟩
  | dT kvs =>
    obtain ⟨z, y, xs, r, ob, es, ep, e, c⟩ := x
    exact ⟨z, y, xs, Paired.mapP r fun p q z => ⟨z.1, ht _ _ z.2.1, z.2.2⟩, ob, es, ep, k _ _ (.inl rfl) e, c⟩
  | set S n => obtain ⟨ob, es, ep, t, e, c⟩ := x; exact ⟨ob, es, ep, t, k _ _ (.inl rfl) e, c⟩
  | ins C dx fs =>
    obtain ⟨d, z, ne, e, mA, ⟨od, es, ep, e2, c⟩, r⟩ := x
    exact ⟨ho _ d, z, ne, k _ _ (.inl rfl) e, mA, ⟨od, es, ep, k _ _ (.inr d) e2, c⟩, r⟩
  | own y => obtain ⟨ob, e⟩ := x; exact ⟨ob, k _ _ (.inl rfl) e⟩
  | xd fs => obtain ⟨mA, ⟨od, es, ep, e, c⟩, r⟩ := x; exact ⟨mA, ⟨od, es, ep, k _ _ (.inl rfl) e, c⟩, r⟩
  | rng lo hi => obtain ⟨t, u, v, e⟩ := x; exact ⟨t, u, v, k _ _ (.inl rfl) e⟩
  | frz ob u ih => obtain ⟨e, q⟩ := x; exact ⟨k _ _ (.inl rfl) e, ih q⟩
  | tbl ps =>
    have e : h.get? a = some { cls := .none, data := .fields ps } := x
    show h'.get? a = some { cls := .none, data := .fields ps }
    exact k a _ (.inl rfl) e
  | met f y =>
    have e : h.get? a = some (PySem.W.methodObj (.ref f) (.ref y)) := x
    show h'.get? a = some (PySem.W.methodObj (.ref f) (.ref y))
    exact k a _ (.inl rfl) e
  | ext φ => obtain ⟨p, ⟨o, e⟩, st⟩ := x; exact ⟨st _ _ p fun o q => k _ _ (.inl rfl) q, ⟨o, k _ _ (.inl rfl) e⟩, st⟩
theorem HOk.lt (x : HOk P w H h) (e : H a = some o) : a < h.objs.size := (x a o e).lt
theorem HOk.fresh (x : HOk P w H h) (e : h.objs.size ≤ a) : H a = none := by
  cases q : H a with
  | none => rfl
  | some u => exact absurd (Nat.lt_of_lt_of_le (x.lt q) e) (Nat.lt_irrefl _)
theorem HOk.kept (x : HOk P w H h) (k : ∀ b u, h.get? b = some u → h'.get? b = some u) : HOk P w H h' := fun a o e =>
  (x a o e).stay (fun b u _ q => k b u q) (fun _ q => q) fun _ _ q => q
theorem HOk.laid (x : HOk P w H h) (k : ∀ b u, h.get? b = some u → h'.get? b = some u) (hp : h.objs.size ≤ a) (new : ObjOk P w (upd H a o) h' a o) : HOk P w (upd H a o) h' := fun b u e => by
  have hn := x.fresh hp
  by_cases hb : b = a
  · subst hb; rw [upd_same] at e; cases e; exact new
  · rw [upd_ne hb] at e
    exact (x b u e).stay (fun c v _ q => k c v q) (fun c q => by rw [upd_ne (ne_of_none q hn)]; exact q) fun c xs q => by rw [upd_ne (ne_of_none q hn)]; exact q
end
def Rd (H : Hp) (a : Addr) (u : HO) : Prop := H a = some u ∨ ∃ o, H a = some (.frz o u)
theorem Rd.ok {P : Program} {w : World} {H : Hp} {h : Heap} {a : Addr} {u : HO} (r : Rd H a u) (x : HOk P w H h) : ObjOk P w H h a u := by
  rcases r with r | ⟨o, r⟩
  · exact x a u r
  · obtain ⟨_, q⟩ := x a _ r
    exact q
def Mut : Option HO → Prop
  | some (.lst _) => True
  | some (.dK _) => True
  | some (.dT _) => True
  | some (.set _ _) => True
  | some (.ins _ _ _) => True
  | some (.ext _) => True
  | _ => False
section
variable {P : Program} {w : World} {H : Hp} {h h' : Heap} {x e : Addr} {o' : HO}
theorem HOk.write (ok : HOk P w H h) (mu : Mut (H x)) (he : e = x ∨ H e = some (.own x)) (k : ∀ b u, b ≠ e → h.get? b = some u → h'.get? b = some u) (heo : ∃ u, h'.get? e = some u)
    (new : ObjOk P w (upd H x o') h' x o') : HOk P w (upd H x o') h' := fun b u q => by
  have nown : ∀ c y, H c = some (.own y) → c ≠ x := fun c y r z => by subst z; rw [r] at mu; exact mu
  have ntup : ∀ c xs, H c = some (.tup xs) → c ≠ x := fun c xs r z => by subst z; rw [r] at mu; exact mu
  by_cases hb : b = x
  · subst hb; rw [upd_same] at q; cases q; exact new
  · rw [upd_ne hb] at q
    by_cases hbe : b = e
    · have q' : H b = some (.own x) := by
        rcases he with z | z
        · exact absurd (hbe.trans z) hb
        · rw [hbe]; exact z
      rw [q] at q'; cases q'
      obtain ⟨v, hv⟩ := heo
      exact ⟨v, by rw [hbe]; exact hv⟩
    · refine (ok b u q).stay (fun c v hc r => k c v ?_ r) (fun c r => by rw [upd_ne (nown c b r)]; exact r) fun c xs r => by rw [upd_ne (ntup c xs r)]; exact r
      rcases hc with rfl | hc
      · exact hbe
      · rintro rfl
        rcases he with z | z
        · exact nown c b hc z
        · rw [hc] at z; cases z; exact hb rfl
end
structure Un (fs ex : List Addr) (H H' : Hp) (h h' : Heap) : Prop where
  keep : ∀ b o, h.get? b = some o → H b = none → b ∉ fs → b ∉ ex → h'.get? b = some o
  slot : ∀ b o, h.get? b = some o → H b = none → b ∈ fs → b ∉ ex → ∃ sl, h'.get? b = some { o with slots := sl }
  free : ∀ b o, h.get? b = some o → H b = none → b ∉ ex → H' b = none
  there : ∀ b o, h.get? b = some o → b ∉ ex → ∃ o', h'.get? b = some o'
  tups : ∀ b xs, H b = some (.tup xs) → H' b = some (.tup xs)
  frzs : ∀ b o u, H b = some (.frz o u) → H' b = some (.frz o u)
  tbls : ∀ b ps, H b = some (.tbl ps) → ∃ more, H' b = some (.tbl (ps ++ more))
section
variable {fs fs' ex ex' : List Addr} {H H1 H2 : Hp} {h h1 h2 h' : Heap} {a x e : Addr} {o : HO}
theorem Un.any (u : Un fs ex H H1 h h1) {b : Addr} {ob : Obj} (q : h.get? b = some ob) (n : H b = none) (hx : b ∉ ex) : ∃ sl, h1.get? b = some { ob with slots := sl } := by
  by_cases hb : b ∈ fs
  · exact u.slot b ob q n hb hx
  · exact ⟨ob.slots, u.keep b ob q n hb hx⟩
theorem Un.kept (k : ∀ b u, h.get? b = some u → h'.get? b = some u) : Un fs ex H H h h' :=
  ⟨fun b ob q _ _ _ => k b ob q, fun b ob q _ _ _ => ⟨ob.slots, k b ob q⟩, fun _ _ _ n _ => n, fun b ob q _ => ⟨ob, k b ob q⟩, fun _ _ q => q, fun _ _ _ q => q, fun _ ps q => ⟨#[], by rw [q]; simp⟩⟩
theorem Un.refl : Un fs ex H H h h := Un.kept fun _ _ q => q
theorem Un.laid (k : ∀ b u, h.get? b = some u → h'.get? b = some u) (hp : h.objs.size ≤ a) (hn : H a = none) : Un fs ex H (upd H a o) h h' where
  keep := fun b u q _ _ _ => k b u q
  slot := fun b u q _ _ _ => ⟨u.slots, k b u q⟩
  free := fun b u q n _ => by rw [upd_ne (Nat.ne_of_lt (Nat.lt_of_lt_of_le (Heap.lt_size q) hp))]; exact n
  there := fun b u q _ => ⟨u, k b u q⟩
  tups := fun b xs q => by rw [upd_ne (ne_of_none q hn)]; exact q
  frzs := fun b u xs q => by rw [upd_ne (ne_of_none q hn)]; exact q
  tbls := fun b ps q => ⟨#[], by rw [upd_ne (ne_of_none q hn), q]; simp⟩
theorem Un.write (mu : Mut (H x)) (he : e = x ∨ H e = some (.own x)) (k : ∀ b u, b ≠ e → h.get? b = some u → h'.get? b = some u) (heo : ∃ u, h'.get? e = some u) : Un fs ex H (upd H x o) h h' := by
  have hx : ∀ b, H b = none → b ≠ x := fun b n z => by subst z; rw [n] at mu; exact mu
  have hb : ∀ b, H b = none → b ≠ e := fun b n z => by
    subst z
    rcases he with r | r
    · exact hx b n r
    · rw [n] at r; cases r
  have hm : ∀ b u, H b = some u → ¬ Mut (some u) → b ≠ x := fun b u q nm z => by subst z; rw [q] at mu; exact nm mu
  refine ⟨fun b u q n _ _ => k b u (hb b n) q, fun b u q n _ _ => ⟨u.slots, k b u (hb b n) q⟩, fun b u q n _ => by rw [upd_ne (hx b n)]; exact n, fun b u q _ => ?_,
    fun b xs q => by rw [upd_ne (hm b _ q fun z => z)]; exact q, fun b u xs q => by rw [upd_ne (hm b _ q fun z => z)]; exact q, fun b ps q => ⟨#[], by rw [upd_ne (hm b _ q fun z => z), q]; simp⟩⟩
  by_cases hbe : b = e
  · subst hbe; exact heo
  · exact ⟨u, k b u hbe q⟩
end
def trk (h : Heap) (H : Hp) : List Addr := (List.range h.objs.size).filter fun a => (H a).isSome
def hidT (h : Heap) (H : Hp) : Heap := PySem.W.hideAll h (trk h H)
theorem hidT_size (h : Heap) (H : Hp) : (hidT h H).objs.size = h.objs.size := PySem.W.hideAll_size _ _
theorem hidT_get {h : Heap} {H : Hp} {b : Addr} {o : Obj} (e : h.get? b = some o) (n : H b = none) : (hidT h H).get? b = some o :=
  PySem.W.hideAll_get _ e fun hm => by
    have q : (H b).isSome = true := (List.mem_filter.mp hm).2
    rw [n] at q; simp at q
theorem of_hidT {h : Heap} {H : Hp} {b : Addr} {o : Obj} (e : (hidT h H).get? b = some o) : h.get? b = some o ∧ H b = none := by
  have e' : h.get? b = some o := PySem.W.of_hideAll (trk h H) e
  refine ⟨e', ?_⟩
  cases q : H b with
  | none => rfl
  | some x =>
    have hm : b ∈ trk h H := List.mem_filter.mpr ⟨List.mem_range.mpr (Heap.lt_size e'), by simp [q]⟩
    have z : (hidT h H).get? b = none := PySem.W.hideAll_none (trk h H) hm
    rw [z] at e; cases e
end L2
namespace L2
open PySem PySem.Spec PyProof.Rows
structure Mod (K : PySem.W.Frag) (mg : Str → Option Value) (base : Heap) : Prop where
  kin : K.In base
  glob : base.Ns mainGlobals mg
  blt : ∃ mb, base.Ns builtinsNs mb ∧ ∀ x : Str, x ≠ "__name__" → mb x = bootBuiltins x
  nolimit : base.NoLimit
structure Cx where
  prog : Program
  w : World
  K : PySem.W.Frag
  mg : Str → Option Value
  base : Heap
  A : Around
  N : List Str
  s_0 : Shared
  H_0 : Hp
  env : Env
  outer : List Env
  stack : List Env
  ex : List Addr
  fn : Str → Bool
  calm : Bool
  pn : List (Addr × Obj)
  xe : Value → Shared → Prop
def frs (l : List Env) : List Addr := l.filterMap (·.frame)
abbrev Cx.fs (X : Cx) : List Addr := frs X.outer
def Vis (sc : Scope) (x : Str) : Prop := sc.names.lookup x = some .local ∨ sc.names.lookup x = some .cell ∨ sc.names.lookup x = some .free
def Loc (sc : Scope) (x : Str) : Prop := sc.names.lookup x = some .local ∨ sc.names.lookup x = some .cell
def Look (env : Env) (h : Heap) (m : Str → Option Value) (x : Str) (u : Value) : Prop :=
  (env.kindOf x = some .local ∧ m x = some u) ∨ ((env.kindOf x = some .cell ∨ env.kindOf x = some .free) ∧ ∃ c, env.cells.lookup x = some c ∧ h.IsCell c (some u))
structure Cx.Ok (X : Cx) : Prop where
  mod : Mod X.K X.mg X.base
  kind : X.env.scope.kind = .function
  glob : X.env.globals = mainGlobals
  blt : X.env.builtins = builtinsNs
  above : X.s_0.heap.objs.size ≤ X.env.locals
  inj : ∀ x y c, X.env.cells.lookup x = some c → X.env.cells.lookup y = some c → x = y
  has : ∀ x, (X.env.kindOf x = some .cell ∨ X.env.kindOf x = some .free) → ∃ c, X.env.cells.lookup x = some c
  cab : ∀ x c, X.fn x = true → X.env.cells.lookup x = some c → X.s_0.heap.objs.size ≤ c
  hd : X.calm = true → X.A.handled = none
  frames : X.A.frames = some X.stack
  stk : X.stack = X.outer ∨ (X.stack = X.env :: X.outer ∧ X.env.frame = some X.env.locals)
  exf : ∀ b ∈ X.ex, b ≠ X.env.locals ∧ ∀ x c, X.env.cells.lookup x = some c → c ≠ b
  bs : ∀ b o, X.base.get? b = some o → X.s_0.heap.get? b = some o ∧ X.H_0 b = none
  bsz : X.base.objs.size ≤ X.s_0.heap.objs.size
  noex : ∀ b o, X.base.get? b = some o → b ∉ X.ex
  exfs : ∀ b ∈ X.ex, b ∉ X.fs
  funs : X.s_0.heap.FunFrames X.base X.outer
  frf : ∀ b ∈ X.fs, X.H_0 b = none
structure Inv (X : Cx) (pins : List (Addr × Obj)) (σ : List (Option V)) (H : Hp) (s : Shared) : Prop where
  ok : X.Ok
  os : s.os = X.s_0.os
  bare : AllBare s.gens
  base : Un X.fs X.ex X.H_0 H X.s_0.heap s.heap
  loc : ∃ m, s.heap.Ns X.env.locals m ∧ ∀ (i : Nat) (x : Str) (v : V), X.N[i]? = some x → σ[i]? = some (some v) → Vis X.env.scope x → ∃ u, RelV v u ∧ Look X.env s.heap m x u
  cell : ∀ x c, X.env.cells.lookup x = some c → ∃ v, s.heap.IsCell c v
  free : H X.env.locals = none
  freeC : ∀ x c, X.env.cells.lookup x = some c → H c = none
  pin : ∀ p ∈ X.pn ++ pins, s.heap.get? p.1 = some p.2 ∧ H p.1 = none ∧ p.1 ≠ X.env.locals ∧ p.1 ∉ X.fs ∧ ∀ v, p.2.data ≠ .cell v
  hok : HOk X.prog X.w H s.heap
  len : σ.length = X.N.length
section
variable {X : Cx} {pins : List (Addr × Obj)} {σ : List (Option V)} {H H' : Hp} {s : Shared} {h' : Heap}
theorem Cx.Ok.nofr (ok : X.Ok) {b : Addr} {o : Obj} (e : X.base.get? b = some o) : b ∉ X.fs := fun hb => by
  have := (ok.funs.mem hb).1
  rw [e] at this; cases this
theorem Inv.bs (I : Inv X pins σ H s) : ∀ b o, X.base.get? b = some o → s.heap.get? b = some o ∧ H b = none := fun b o e =>
  ⟨I.base.keep b o (I.ok.bs b o e).1 (I.ok.bs b o e).2 (I.ok.nofr e) (I.ok.noex b o e), I.base.free b o (I.ok.bs b o e).1 (I.ok.bs b o e).2 (I.ok.noex b o e)⟩
theorem Inv.bk (I : Inv X pins σ H s) : ∀ b o, X.base.get? b = some o → s.heap.get? b = some o := fun b o e => (I.bs b o e).1
theorem Inv.mod (I : Inv X pins σ H s) : Mod X.K X.mg X.base := I.ok.mod
theorem Inv.kIn (I : Inv X pins σ H s) : X.K.In s.heap := I.ok.mod.kin.keeps I.bk
theorem Inv.fr (I : Inv X pins σ H s) : ∃ m, Fr X.base X.env.locals s.heap m :=
  let ⟨m, hn, _⟩ := I.loc
  ⟨m, hn, I.bk, Nat.le_trans I.ok.bsz I.ok.above⟩
theorem Inv.lt (I : Inv X pins σ H s) : X.env.locals < s.heap.objs.size := let ⟨_, hn, _⟩ := I.loc; hn.lt
theorem Inv.sz (I : Inv X pins σ H s) : X.s_0.heap.objs.size ≤ s.heap.objs.size := Nat.le_trans I.ok.above (Nat.le_of_lt I.lt)
theorem Inv.nofs (I : Inv X pins σ H s) {a : Addr} (h : s.heap.objs.size ≤ a) : a ∉ X.fs := fun hb => by
  obtain ⟨_, o, ho, _⟩ := I.ok.funs.mem hb
  exact absurd (Nat.lt_of_lt_of_le (Heap.lt_size ho) (Nat.le_trans I.sz h)) (Nat.lt_irrefl _)
theorem Inv.cne (I : Inv X pins σ H s) : ∀ x c, X.env.cells.lookup x = some c → c ≠ X.env.locals := fun x c e z => by
  obtain ⟨v, o, ho, hd⟩ := I.cell x c e
  obtain ⟨m, ⟨o', es, ep, ho', hd', _⟩, _⟩ := I.loc
  rw [z, ho'] at ho; cases ho; rw [hd'] at hd; cases hd
theorem Inv.funs (I : Inv X pins σ H s) : s.heap.FunFrames X.base X.outer := by
  have all : ∀ (l : List Env), (∀ b ∈ frs l, b ∈ X.fs) → X.s_0.heap.FunFrames X.base l → s.heap.FunFrames X.base l := by
    intro l
    induction l with
    | nil => intro _ _; trivial
    | cons env r ih =>
      intro hs hl
      obtain ⟨hk, ⟨L, o, hf, hn, ho, hd⟩, hr⟩ := hl
      have hL : L ∈ X.fs := hs L (by unfold frs; rw [List.filterMap_cons, hf]; exact List.mem_cons_self)
      obtain ⟨sl, e⟩ := I.base.slot L o ho (I.ok.frf L hL) hL fun z => I.ok.exfs L z hL
      exact ⟨hk, ⟨L, _, hf, hn, e, hd⟩, ih (fun b hb => hs b (by unfold frs; rw [List.filterMap_cons, hf]; exact List.mem_cons_of_mem _ hb)) hr⟩
  exact all X.outer (fun _ hb => hb) I.ok.funs
theorem Inv.stack (I : Inv X pins σ H s) : s.heap.FunFrames X.base X.stack := by
  rcases I.ok.stk with e | ⟨e, hf⟩
  · rw [e]; exact I.funs
  · rw [e]
    obtain ⟨m, hn, _⟩ := I.loc
    refine .cons (by rw [I.ok.kind]; decide) hf hn ?_ I.funs
    exact Heap.get?_none_of_le (Nat.le_trans I.ok.bsz I.ok.above)
theorem Inv.stkSub (I : Inv X pins σ H s) : ∀ b ∈ frs X.stack, b ∈ X.env.locals :: X.fs := fun b hb => by
  rcases I.ok.stk with e | ⟨e, hf⟩
  · rw [e] at hb; exact List.mem_cons_of_mem _ hb
  · rw [e] at hb
    unfold frs at hb
    rw [List.filterMap_cons, hf] at hb
    exact hb
theorem Inv.stkFree (I : Inv X pins σ H s) : ∀ b ∈ frs X.stack, H b = none := fun b hb => by
  rcases List.mem_cons.mp (I.stkSub b hb) with e | hb
  · rw [e]; exact I.free
  · obtain ⟨_, o, ho, _⟩ := I.ok.funs.mem hb
    exact I.base.free b o ho (I.ok.frf b hb) fun z => I.ok.exfs b z hb
theorem Inv.step {g' : Array GenState} {t' : Nat} {d' : Drawn} {ch : List Addr} (I : Inv X pins σ H s)
    (hch : ∀ b ∈ ch, (b ∈ X.ex ∨ X.s_0.heap.objs.size ≤ b) ∧ b ≠ X.env.locals ∧ (∀ x c, X.env.cells.lookup x = some c → c ≠ b) ∧ ∀ p ∈ X.pn ++ pins, p.1 ≠ b)
    (keep : ∀ b o, b ≠ X.env.locals → b ∉ X.fs → b ∉ ch → s.heap.get? b = some o → H b = none → h'.get? b = some o)
    (slot : ∀ b o, b ≠ X.env.locals → b ∈ X.fs → b ∉ ch → s.heap.get? b = some o → H b = none → ∃ sl, h'.get? b = some { o with slots := sl }) (free : ∀ b o, b ∉ ch → s.heap.get? b = some o → H b = none → H' b = none)
    (there : ∀ b o, b ∉ ch → s.heap.get? b = some o → ∃ o', h'.get? b = some o')
    (tups : ∀ b xs, H b = some (.tup xs) → H' b = some (.tup xs)) (frzs : ∀ b o u, H b = some (.frz o u) → H' b = some (.frz o u)) (tbls : ∀ b ps, H b = some (.tbl ps) → ∃ more, H' b = some (.tbl (ps ++ more)))
    (ns : ∀ m, s.heap.Ns X.env.locals m → h'.Ns X.env.locals m) (hok : HOk X.prog X.w H' h') (hg : AllBare g') :
    Inv X pins σ H' { s with heap := h', gens := g', drawn := d', toks := t' } := by
  have neL : ∀ b o, X.s_0.heap.get? b = some o → b ≠ X.env.locals := fun b o e => Nat.ne_of_lt (Nat.lt_of_lt_of_le (Heap.lt_size e) I.ok.above)
  have neC : ∀ b o, X.s_0.heap.get? b = some o → b ∉ X.ex → b ∉ ch := fun b o e hx hb => by
    rcases (hch b hb).1 with z | z
    · exact hx z
    · exact absurd (Nat.lt_of_lt_of_le (Heap.lt_size e) z) (Nat.lt_irrefl _)
  have cellK : ∀ x c, X.env.cells.lookup x = some c → ∀ v, s.heap.IsCell c v → h'.IsCell c v := fun x c e v ⟨o, ho, hd⟩ => by
    have nch : c ∉ ch := fun z => (hch c z).2.2.1 x c e rfl
    by_cases hc : c ∈ X.fs
    · obtain ⟨sl, q⟩ := slot c o (I.cne x c e) hc nch ho (I.freeC x c e)
      exact ⟨_, q, hd⟩
    · exact ⟨o, keep c o (I.cne x c e) hc nch ho (I.freeC x c e), hd⟩
  refine ⟨I.ok, I.os, hg, ⟨fun b o e n hb hx => ?_, fun b o e n hb hx => ?_, fun b o e n hx => ?_, fun b o e hx => ?_, fun b xs e => tups b xs (I.base.tups b xs e), fun b o xs e => frzs b o xs (I.base.frzs b o xs e), fun b ps e => ?_⟩, ?_, fun x c e => ?_, ?_, fun x c e => ?_, fun p hp => ?_, hok, I.len⟩
  · exact keep b o (neL b o e) hb (neC b o e hx) (I.base.keep b o e n hb hx) (I.base.free b o e n hx)
  · obtain ⟨sl, e1⟩ := I.base.slot b o e n hb hx
    obtain ⟨sl', e2⟩ := slot b _ (neL b o e) hb (neC b o e hx) e1 (I.base.free b o e n hx)
    exact ⟨sl', e2⟩
  · obtain ⟨o', e1⟩ := I.base.there b o e hx
    exact free b o' (neC b o e hx) e1 (I.base.free b o e n hx)
  · obtain ⟨o', e1⟩ := I.base.there b o e hx
    exact there b o' (neC b o e hx) e1
  · obtain ⟨m1, e1⟩ := I.base.tbls b ps e
    obtain ⟨m2, e2⟩ := tbls b _ e1
    exact ⟨m1 ++ m2, by rw [e2, Array.append_assoc]⟩
  · obtain ⟨m, hn, hl⟩ := I.loc
    refine ⟨m, ns m hn, fun i x v e1 e2 e3 => ?_⟩
    obtain ⟨u, r, l⟩ := hl i x v e1 e2 e3
    refine ⟨u, r, ?_⟩
    rcases l with l | ⟨k, c, e, z⟩
    · exact .inl l
    · exact .inr ⟨k, c, e, cellK x c e _ z⟩
  · obtain ⟨v, z⟩ := I.cell x c e
    exact ⟨v, cellK x c e v z⟩
  · obtain ⟨m, ⟨o, _, _, ho, _⟩, _⟩ := I.loc
    exact free _ o (fun z => (hch _ z).2.1 rfl) ho I.free
  · obtain ⟨v, o, ho, hd⟩ := I.cell x c e
    exact free c o (fun z => (hch c z).2.2.1 x c e rfl) ho (I.freeC x c e)
  · obtain ⟨e, n, ne, nf, d⟩ := I.pin p hp
    have nch : p.1 ∉ ch := fun z => (hch p.1 z).2.2.2 p hp rfl
    exact ⟨keep p.1 p.2 ne nf nch e n, free p.1 p.2 nch e n, ne, nf, d⟩
theorem Inv.un {t' : Nat} (I : Inv X pins σ H s) (u : Un X.fs [] H H' s.heap h') (hok : HOk X.prog X.w H' h') : Inv X pins σ H' { s with heap := h', toks := t' } := by
  obtain ⟨m, ⟨o, es, ep, ho, r⟩, _⟩ := id I.loc
  obtain ⟨sl, hL⟩ := u.any ho I.free (by simp)
  exact I.step (g' := s.gens) (d' := s.drawn) (ch := []) (fun _ z => nomatch z) (fun b o _ hb _ e n => u.keep b o e n hb (by simp)) (fun b o _ hb _ e n => u.slot b o e n hb (by simp)) (fun b o _ e n => u.free b o e n (by simp)) (fun b o _ e => u.there b o e (by simp)) u.tups u.frzs u.tbls (fun m' hm => by
    obtain ⟨o', es', ep', ho', r'⟩ := hm
    rw [ho] at ho'; cases ho'
    exact ⟨_, es', ep', hL, r'⟩) hok I.bare
theorem Inv.call {g' : Array GenState} {t' : Nat} {d' : Drawn} {ch : List Addr} (I : Inv X pins σ H s) (u : Un (frs X.stack) ch H H' s.heap h') (hok : HOk X.prog X.w H' h') (hg : AllBare g')
    (hch : ∀ b ∈ ch, (b ∈ X.ex ∨ X.s_0.heap.objs.size ≤ b) ∧ b ≠ X.env.locals ∧ (∀ x c, X.env.cells.lookup x = some c → c ≠ b) ∧ ∀ p ∈ X.pn ++ pins, p.1 ≠ b) :
    Inv X pins σ H' { s with heap := h', gens := g', drawn := d', toks := t' } := by
  obtain ⟨m, ⟨o, es, ep, ho, r⟩, _⟩ := id I.loc
  obtain ⟨sl, hL⟩ := u.any ho I.free fun z => (hch _ z).2.1 rfl
  exact I.step (ch := ch) hch (fun b o hL hb hc e n => u.keep b o e n (fun z => (List.mem_cons.mp (I.stkSub b z)).elim hL hb) hc) (fun b o _ _ hc e n => u.any e n hc) (fun b o hc e n => u.free b o e n hc) (fun b o hc e => u.there b o e hc) u.tups u.frzs u.tbls (fun m' hm => by
    obtain ⟨o', es', ep', ho', r'⟩ := hm
    rw [ho] at ho'; cases ho'
    exact ⟨_, es', ep', hL, r'⟩) hok hg
theorem Inv.turned {t' : Nat} {it : Addr} (I : Inv X pins σ H s) (k : ∀ b o, b ≠ it → s.heap.get? b = some o → h'.get? b = some o) (hn : H it = none) (hL : it ≠ X.env.locals)
    (h1 : it ∈ X.ex ∨ X.s_0.heap.objs.size ≤ it) (h2 : ∀ x c, X.env.cells.lookup x = some c → c ≠ it) (h3 : ∀ p ∈ X.pn ++ pins, p.1 ≠ it) : Inv X pins σ H { s with heap := h', toks := t' } := by
  have nit : ∀ b u, H b = some u → b ≠ it := fun b u e z => by rw [z, hn] at e; cases e
  refine I.step (g' := s.gens) (d' := s.drawn) (ch := [it]) (fun b hb => ?_) (fun b o _ _ hc e _ => k b o (fun z => hc (by simp [z])) e) (fun b o _ _ hc e _ => ⟨o.slots, k b o (fun z => hc (by simp [z])) e⟩) (fun _ _ _ _ n => n)
    (fun b o hc e => ⟨o, k b o (fun z => hc (by simp [z])) e⟩) (fun _ _ e => e) (fun _ _ _ e => e) (fun b ps e => ⟨#[], by rw [e]; simp⟩) (fun m hm => ?_) (fun b u e => ?_) I.bare
  · have e : b = it := by simpa using hb
    subst e
    exact ⟨h1, hL, h2, h3⟩
  · obtain ⟨o, es, ep, ho, r⟩ := hm
    exact ⟨o, es, ep, k _ o (Ne.symm hL) ho, r⟩
  · refine (I.hok b u e).stay (fun c v hc q => k c v ?_ q) (fun _ q => q) fun _ _ q => q
    rcases hc with z | z
    · rw [z]; exact nit b u e
    · exact nit c _ z
theorem Inv.tok (I : Inv X pins σ H s) (t : Nat) : Inv X pins σ H { s with toks := t } := I.un (h' := s.heap) (t' := t) Un.refl I.hok
theorem Inv.kept {t' : Nat} (I : Inv X pins σ H s) (k : ∀ b u, s.heap.get? b = some u → h'.get? b = some u) : Inv X pins σ H { s with heap := h', toks := t' } := I.un (Un.kept k) (I.hok.kept k)
theorem Inv.laid {a : Addr} {o : HO} {t' : Nat} (I : Inv X pins σ H s) (k : ∀ b u, s.heap.get? b = some u → h'.get? b = some u) (hp : s.heap.objs.size ≤ a) (new : ObjOk X.prog X.w (upd H a o) h' a o) :
    Inv X pins σ (upd H a o) { s with heap := h', toks := t' } := I.un (Un.laid k hp (I.hok.fresh hp)) (I.hok.laid k hp new)
theorem Inv.write {x e : Addr} {o : HO} {t' : Nat} (I : Inv X pins σ H s) (mu : Mut (H x)) (he : e = x ∨ H e = some (.own x)) (k : ∀ b u, b ≠ e → s.heap.get? b = some u → h'.get? b = some u) (heo : ∃ u, h'.get? e = some u)
    (new : ObjOk X.prog X.w (upd H x o) h' x o) : Inv X pins σ (upd H x o) { s with heap := h', toks := t' } := I.un (Un.write mu he k heo) (I.hok.write mu he k heo new)
theorem Inv.weak {σ' : List (Option V)} (I : Inv X pins σ H s) (hl : σ'.length = σ.length) (w : ∀ (i : Nat) v, σ'[i]? = some (some v) → σ[i]? = some (some v)) : Inv X pins σ' H s :=
  ⟨I.ok, I.os, I.bare, I.base, let ⟨m, hn, hl'⟩ := I.loc; ⟨m, hn, fun i x v e1 e2 e3 => hl' i x v e1 (w i v e2) e3⟩, I.cell, I.free, I.freeC, I.pin, I.hok, hl.trans I.len⟩
theorem Inv.pins_of {pins' : List (Addr × Obj)} (I : Inv X pins σ H s) (h : ∀ p ∈ pins', s.heap.get? p.1 = some p.2 ∧ H p.1 = none ∧ p.1 ≠ X.env.locals ∧ p.1 ∉ X.fs ∧ ∀ v, p.2.data ≠ .cell v) : Inv X pins' σ H s :=
  ⟨I.ok, I.os, I.bare, I.base, I.loc, I.cell, I.free, I.freeC, fun p hp => (List.mem_append.mp hp).elim (fun z => I.pin p (List.mem_append_left _ z)) (h p), I.hok, I.len⟩
theorem nodup_ix {N : List Str} (hN : N.Nodup) {i j : Nat} {x : Str} (a : N[i]? = some x) (b : N[j]? = some x) : i = j := by
  obtain ⟨h1, e1⟩ := List.getElem?_eq_some_iff.mp a
  obtain ⟨h2, e2⟩ := List.getElem?_eq_some_iff.mp b
  exact (List.getElem_inj hN).mp (e1.trans e2.symm)
theorem store_ok2 {M : Model} {A : Around} {E : Value → Shared → Prop} {i : Nat} {x : Str} {v : V} {u : Value} {Q : Unit → Shared → Prop} (I : Inv X pins σ H s) (hN : X.N.Nodup) (hi : X.N[i]? = some x) (hx : Loc X.env.scope x) (r : RelV v u)
    (h : ∀ s', Inv X pins (σ.set i (some v)) H s' → (∃ a, Heap.SameBut a s.heap s'.heap ∧ (a = X.env.locals ∨ X.env.cells.lookup x = some a)) → Q () s') (hf : X.fn x = true ∨ X.env.scope.names.lookup x = some .local := by first | exact .inl rfl | exact .inr rfl | assumption) : wpAny M A (storeName X.env x u) Q E s := by
  obtain ⟨m, hn, hl⟩ := id I.loc
  have hcls : (X.env.scope.kind == .class || (X.env.scope.kind == .module && X.env.locals != X.env.globals)) = false := by rw [I.ok.kind]; rfl
  have hiσ : i < σ.length := by rw [I.len]; exact (List.getElem?_eq_some_iff.mp hi).1
  have cne := I.cne
  have tracked : ∀ {a : Addr} {h' : Heap}, (∃ o, s.heap.get? a = some o ∧ H a = none) → Heap.SameBut a s.heap h' → HOk X.prog X.w H h' := fun {a h'} ha hs b ob e => by
    obtain ⟨_, _, hfree⟩ := ha
    refine (I.hok b ob e).stay (fun c w' hc q => (hs.2 c ?_).trans q) (fun _ q => q) fun _ _ q => q
    rintro rfl
    rcases hc with rfl | hc
    · rw [hfree] at e; cases e
    · rw [hfree] at hc; cases hc
  rcases hx with hk | hk
  · refine wpAny_storeName_local hk hn (fun h' hn' hs => ?_) hcls
    obtain ⟨oL, _, _, hoL, _⟩ := id hn
    refine h _ ⟨I.ok, I.os, I.bare, ⟨fun b o e n hb hx => ?_, fun b o e n hb hx => ?_, I.base.free, fun b o e hx => ?_, I.base.tups, I.base.frzs, I.base.tbls⟩, ⟨_, hn', fun j y v' e1 e2 e3 => ?_⟩, fun y c e => ?_, I.free, I.freeC, fun p hp => ?_, tracked ⟨oL, hoL, I.free⟩ hs, by simpa using I.len⟩ ⟨_, hs, .inl rfl⟩
    · exact (hs.2 b (Nat.ne_of_lt (Nat.lt_of_lt_of_le (Heap.lt_size e) I.ok.above))).trans (I.base.keep b o e n hb hx)
    · obtain ⟨sl, e1⟩ := I.base.slot b o e n hb hx
      exact ⟨sl, (hs.2 b (Nat.ne_of_lt (Nat.lt_of_lt_of_le (Heap.lt_size e) I.ok.above))).trans e1⟩
    · obtain ⟨o', e1⟩ := I.base.there b o e hx
      exact ⟨o', (hs.2 b (Nat.ne_of_lt (Nat.lt_of_lt_of_le (Heap.lt_size e) I.ok.above))).trans e1⟩
    · by_cases hj : j = i
      · subst hj
        rw [hi] at e1; cases e1
        rw [List.getElem?_set_self hiσ] at e2
        cases e2
        exact ⟨u, r, .inl ⟨hk, by simp⟩⟩
      · rw [List.getElem?_set_ne (Ne.symm hj)] at e2
        obtain ⟨u', r', q⟩ := hl j y v' e1 e2 e3
        refine ⟨u', r', ?_⟩
        rcases q with ⟨k, e⟩ | ⟨k, c, e, z⟩
        · refine .inl ⟨k, ?_⟩
          have : y ≠ x := fun e => hj (nodup_ix hN e1 (e ▸ hi))
          simp [this, e]
        · exact .inr ⟨k, c, e, z.sameBut hs (cne y c e)⟩
    · obtain ⟨w', z⟩ := I.cell y c e
      exact ⟨w', z.sameBut hs (cne y c e)⟩
    · obtain ⟨e, n, ne, nf, d⟩ := I.pin p hp
      exact ⟨(hs.2 p.1 ne).trans e, n, ne, nf, d⟩
  · have hfn : X.fn x = true := by
      rcases hf with z | z
      · exact z
      · rw [z] at hk; cases hk
    obtain ⟨c, hc⟩ := I.ok.has x (.inl hk)
    obtain ⟨w', z⟩ := I.cell x c hc
    refine wpAny_storeName_cell I.ok.kind hk hc z (fun h' hc' hs => ?_)
    obtain ⟨oc, hoc, hocd⟩ := id z
    refine h { s with heap := h' } ⟨I.ok, I.os, I.bare, ⟨fun b o e n hb hx => ?_, fun b o e n hb hx => ?_, I.base.free, fun b o e hx => ?_, I.base.tups, I.base.frzs, I.base.tbls⟩, ⟨m, hn.sameBut hs (Ne.symm (cne x c hc)), fun j y v' e1 e2 e3 => ?_⟩, fun y c' e => ?_, I.free, I.freeC, fun p hp => ?_, tracked ⟨oc, hoc, I.freeC x c hc⟩ hs, by simpa using I.len⟩ ⟨c, hs, .inr hc⟩
    · exact (hs.2 b (Nat.ne_of_lt (Nat.lt_of_lt_of_le (Heap.lt_size e) (I.ok.cab x c hfn hc)))).trans (I.base.keep b o e n hb hx)
    · obtain ⟨sl, e1⟩ := I.base.slot b o e n hb hx
      exact ⟨sl, (hs.2 b (Nat.ne_of_lt (Nat.lt_of_lt_of_le (Heap.lt_size e) (I.ok.cab x c hfn hc)))).trans e1⟩
    · obtain ⟨o', e1⟩ := I.base.there b o e hx
      exact ⟨o', (hs.2 b (Nat.ne_of_lt (Nat.lt_of_lt_of_le (Heap.lt_size e) (I.ok.cab x c hfn hc)))).trans e1⟩
    · by_cases hj : j = i
      · subst hj
        rw [hi] at e1; cases e1
        rw [List.getElem?_set_self hiσ] at e2
        cases e2
        exact ⟨u, r, .inr ⟨.inl hk, c, hc, hc'⟩⟩
      · rw [List.getElem?_set_ne (Ne.symm hj)] at e2
        obtain ⟨u', r', q⟩ := hl j y v' e1 e2 e3
        refine ⟨u', r', ?_⟩
        rcases q with q | ⟨k, c', e, z'⟩
        · exact .inl q
        · refine .inr ⟨k, c', e, z'.sameBut hs ?_⟩
          rintro rfl
          exact hj (nodup_ix hN e1 (I.ok.inj _ _ _ e hc ▸ hi))
    · by_cases hcc : c' = c
      · subst hcc; exact ⟨_, hc'⟩
      · obtain ⟨w2, z2⟩ := I.cell y c' e
        exact ⟨w2, z2.sameBut hs hcc⟩
    · obtain ⟨e, n, ne, nf, d⟩ := I.pin p hp
      refine ⟨(hs.2 p.1 ?_).trans e, n, ne, nf, d⟩
      intro q
      rw [q, hoc] at e
      have q' : oc = p.2 := Option.some.inj e
      exact d w' (by rw [← q']; exact hocd)
theorem store_ok {M : Model} {A : Around} {E : Value → Shared → Prop} {i : Nat} {x : Str} {v : V} {u : Value} {Q : Unit → Shared → Prop} (I : Inv X pins σ H s) (hN : X.N.Nodup) (hi : X.N[i]? = some x) (hx : Loc X.env.scope x) (r : RelV v u)
    (h : ∀ s', Inv X pins (σ.set i (some v)) H s' → Q () s') (hf : X.fn x = true ∨ X.env.scope.names.lookup x = some .local := by first | exact .inl rfl | exact .inr rfl | assumption) : wpAny M A (storeName X.env x u) Q E s :=
  store_ok2 I hN hi hx r (fun s' I' _ => h s' I') hf
theorem Inv.call' {s' : Shared} {ch : List Addr} (I : Inv X pins σ H s) (ho : s'.os = s.os) (u : Un (frs X.stack) ch H H' s.heap s'.heap) (hok : HOk X.prog X.w H' s'.heap) (hg : AllBare s'.gens)
    (hch : ∀ b ∈ ch, (b ∈ X.ex ∨ X.s_0.heap.objs.size ≤ b) ∧ b ≠ X.env.locals ∧ (∀ x c, X.env.cells.lookup x = some c → c ≠ b) ∧ ∀ p ∈ X.pn ++ pins, p.1 ≠ b) : Inv X pins σ H' s' := by
  obtain ⟨h', g', d', t', o'⟩ := s'
  have e : o' = s.os := ho
  subst e
  exact I.call (g' := g') (t' := t') (d' := d') u hok hg hch
end
abbrev XK := Value → Option Addr → Hp → Prop
abbrev St := List (Option V)
abbrev VK := V → Hp → Prop
abbrev TE := St → Hp → VK → Prop
abbrev TT := St → Hp → (Bool → Hp → Prop) → Prop
abbrev TA := St → Hp → (List V → Hp → Prop) → Prop
structure Ends where
  nx : St → Hp → Prop
  rt : VK
  bk : St → Hp → Prop := fun _ _ => False
  ct : St → Hp → Prop := fun _ _ => False
abbrev TS := Ends → St → Hp → Prop
def EP (X : Cx) (pins : List (Addr × Obj)) (σ : St) (Q : VK) (u : Value) (s' : Shared) : Prop := ∃ v H', Inv X pins σ H' s' ∧ RelV v u ∧ Q v H'
def TP (X : Cx) (pins : List (Addr × Obj)) (σ : St) (Q : Bool → Hp → Prop) (b : Bool) (s' : Shared) : Prop := ∃ H', Inv X pins σ H' s' ∧ Q b H'
def AP (X : Cx) (pins : List (Addr × Obj)) (σ : St) (Q : List V → Hp → Prop) (us : List Value) (s' : Shared) : Prop := ∃ vs H', Inv X pins σ H' s' ∧ Vals vs us ∧ Q vs H'
def SP (X : Cx) (pins : List (Addr × Obj)) (D : Ends) (f : Flow) (s' : Shared) : Prop :=
  match f with
  | .next => ∃ σ' H', Inv X pins σ' H' s' ∧ D.nx σ' H'
  | .brk => ∃ σ' H', Inv X pins σ' H' s' ∧ D.bk σ' H'
  | .cont => ∃ σ' H', Inv X pins σ' H' s' ∧ D.ct σ' H'
  | .ret u => ∃ v σ' H', Inv X pins σ' H' s' ∧ RelV v u ∧ D.rt v H'
def PE (X : Cx) (e : Expr) (t : TE) : Prop :=
  ∀ (pins : List (Addr × Obj)) (s : Shared) (σ : St) (H : Hp) (Q : VK), Inv X pins σ H s → t σ H Q → wpAny (model X.prog X.w) X.A (eval e X.env) (EP X pins σ Q) X.xe s
def PT (X : Cx) (e : Expr) (t : TT) : Prop :=
  ∀ (pins : List (Addr × Obj)) (s : Shared) (σ : St) (H : Hp) (Q : Bool → Hp → Prop), Inv X pins σ H s → t σ H Q → wpAny (model X.prog X.w) X.A (isTrue e X.env (eval e X.env)) (TP X pins σ Q) X.xe s
def PW (X : Cx) (e : Expr) (t : TT) : Prop :=
  ∀ (whole : Sem Value) (pins : List (Addr × Obj)) (s : Shared) (σ : St) (H : Hp) (Q : Bool → Hp → Prop), Inv X pins σ H s → t σ H Q → wpAny (model X.prog X.w) X.A (isTrue e X.env whole) (TP X pins σ Q) X.xe s
theorem PW.pt {X : Cx} {e : Expr} {t : TT} (h : PW X e t) : PT X e t := h _
def PA (X : Cx) (es : List Expr) (t : TA) : Prop :=
  ∀ (pos : Pos) (pins : List (Addr × Obj)) (s : Shared) (σ : St) (H : Hp) (Q : List V → Hp → Prop), Inv X pins σ H s → t σ H Q → wpAny (model X.prog X.w) X.A (spliced (backTo pos (starEach es X.env))) (AP X pins σ Q) X.xe s
def PS (X : Cx) (st : Stmt) (t : TS) : Prop :=
  ∀ (pins : List (Addr × Obj)) (s : Shared) (σ : St) (H : Hp) (D : Ends), Inv X pins σ H s → t D σ H → wpAny (model X.prog X.w) X.A (exec st X.env) (SP X pins D) X.xe s
def PSs (X : Cx) (st : List Stmt) (t : TS) : Prop :=
  ∀ (pins : List (Addr × Obj)) (s : Shared) (σ : St) (H : Hp) (D : Ends), Inv X pins σ H s → t D σ H → wpAny (model X.prog X.w) X.A (execs st X.env) (SP X pins D) X.xe s
theorem thn {α : Type} {t : Sem α} {Q Q' : α → Shared → Prop} {M : Model} {A : Around} {E : Value → Shared → Prop} {s : Shared} (h : wpAny M A t Q E s) (hQ : ∀ a s, Q a s → Q' a s) : wpAny M A t Q' E s := wpAny_mono h hQ fun _ _ x => x
end L2
namespace L2
open PySem PySem.Spec PyProof.Rows
section
variable {X : Cx}
theorem bin {a b : Expr} {ta tb : TE} (ha : PE X a ta) (hb : PE X b tb) {pins : List (Addr × Obj)} {s : Shared} {σ : St} {H : Hp} {R : V → V → Hp → Prop} (I : Inv X pins σ H s) (h : ta σ H fun x H1 => tb σ H1 fun y H2 => R x y H2)
    {α : Type} {Q : α → Shared → Prop} {f : Value → Value → Sem α}
    (hf : ∀ v u s2 x y H2, Inv X pins σ H2 s2 → RelV x v → RelV y u → R x y H2 → wpAny (model X.prog X.w) X.A (f v u) Q X.xe s2) :
    wpAny (model X.prog X.w) X.A (eval a X.env) (fun v s₁ => wpAny (model X.prog X.w) X.A (eval b X.env) (fun u s₂ => wpAny (model X.prog X.w) X.A (f v u) Q X.xe s₂) X.xe s₁) X.xe s := by
  refine thn (ha pins s σ H _ I h) fun v s1 ⟨x, H1, I1, r1, q1⟩ => ?_
  refine thn (hb pins s1 σ H1 _ I1 q1) fun u s2 ⟨y, H2, I2, r2, q2⟩ => ?_
  exact hf v u s2 x y H2 I2 r1 r2 q2
def tVar (i : Nat) : TE := fun σ H Q => ∃ v, σ[i]? = some (some v) ∧ Q v H
def tC (v : V) : TE := fun _ H Q => Q v H
theorem pe_var {i : Nat} {x : Str} {pos : Pos} (hN : X.N[i]? = some x) (hv : Vis X.env.scope x) (hd : (x == ("__debug__" : Str)) = false := by decide) (hcd : (x == ("__classdict__" : Str)) = false := by decide) : PE X (.Name x pos) (tVar i) := by
  intro pins s σ H Q I h
  obtain ⟨v, e, h⟩ := h
  obtain ⟨m, hn, hl⟩ := I.loc
  obtain ⟨u, r, l⟩ := hl i x v hN e hv
  have fin : EP X pins σ Q u s := ⟨v, H, I, r, h⟩
  rcases l with ⟨hk, hm⟩ | ⟨hk, c, hc, hcell⟩
  · exact wpAny_Name (wpAny_loadName_local I.ok.kind hk hn hm fin) hd
  · rcases hk with hk | hk
    · exact wpAny_Name (wpAny_loadName_cell I.ok.kind hk hc hcell fin) hd
    · exact wpAny_Name (wpAny_loadName_free I.ok.kind hk hc hcell fin hcd) hd
theorem pe_int {i j pos} : PE X (.Constant (.int i) j pos) (tC (.int i)) := fun _ _ _ H _ I h => wpAny_Constant_int ⟨.int i, H, I.tok _, ⟨_, rfl⟩, h⟩
theorem pe_bl {b j pos} : PE X (.Constant (.bool b) j pos) (tC (.bl b)) := fun _ _ _ H _ I h => Constant_bool ⟨.bl b, H, I, rfl, h⟩
theorem pe_non {j pos} : PE X (.Constant .none j pos) (tC .non) := fun _ _ _ H _ I h => Constant_none ⟨.non, H, I, rfl, h⟩
def Gl (X : Cx) (x : Str) : Prop := X.env.kindOf x = some .globalImplicit
theorem ld_glob {E : Value → Shared → Prop} {pins : List (Addr × Obj)} {s : Shared} {σ : St} {H : Hp} {x : Str} {u : Value} {pos : Pos} {Q : Value → Shared → Prop} (I : Inv X pins σ H s) (hg : Gl X x) (hm : X.mg x = some u) (h : Q u s)
    (hd : (x == ("__debug__" : Str)) = false := by decide) : wpAny (model X.prog X.w) X.A (eval (.Name x pos) X.env) Q E s :=
  Calls.Name_function_global I.ok.kind hg (Calls.loadGlobal_global (by rw [I.ok.glob]; exact I.mod.glob.keeps I.bk) hm h) hd
theorem ld_blt {E : Value → Shared → Prop} {pins : List (Addr × Obj)} {s : Shared} {σ : St} {H : Hp} {x : Str} {u : Value} {pos : Pos} {Q : Value → Shared → Prop} (I : Inv X pins σ H s) (hg : Gl X x) (hm : X.mg x = none) (hv : bootBuiltins x = some u) (h : Q u s)
    (hn : x ≠ "__name__" := by decide) (hd : (x == ("__debug__" : Str)) = false := by decide) : wpAny (model X.prog X.w) X.A (eval (.Name x pos) X.env) Q E s := by
  obtain ⟨mb, h1, h2⟩ := I.mod.blt
  exact Calls.Name_function_global I.ok.kind hg (Calls.loadGlobal_builtin (by rw [I.ok.glob]; exact I.mod.glob.keeps I.bk) hm (by rw [I.ok.blt]; exact h1.keeps I.bk) ((h2 x hn).trans hv) h) hd
theorem pe_glob {x : Str} {v : V} {u : Value} {pos : Pos} (hg : Gl X x) (hm : X.mg x = some u) (r : RelV v u) (hd : (x == ("__debug__" : Str)) = false := by decide) : PE X (.Name x pos) (tC v) :=
  fun _ _ _ H _ I h => ld_glob I hg hm ⟨v, H, I, r, h⟩ hd
variable {a b : Expr} {ta tb : TE} {pos : Pos}
def PC (X : Cx) (op : CmpOp) (a b : Expr) (t : TE) : Prop :=
  ∀ (pins : List (Addr × Obj)) (s : Shared) (σ : St) (H : Hp) (Q : VK), Inv X pins σ H s → t σ H Q →
    wpAny (model X.prog X.w) X.A (eval a X.env) (fun v s₁ => wpAny (model X.prog X.w) X.A (eval b X.env) (fun u s₂ => wpAny (model X.prog X.w) X.A (compareOp op v u) (EP X pins σ Q) X.xe s₂) X.xe s₁) X.xe s
theorem nobehind (b : Expr) {op : CmpOp} (h : op ≠ .In) (h2 : op ≠ .NotIn) : behindInMarks op b = false := by
  have e1 : (op == CmpOp.In) = false := by cases op <;> first | rfl | exact absurd rfl h
  have e2 : (op == CmpOp.NotIn) = false := by cases op <;> first | rfl | exact absurd rfl h2
  cases b <;> simp [behindInMarks, e1, e2]
def tIsN (ta : TE) : TE := fun σ H Q => ta σ H fun x H1 => Q (.bl (decide (x = .non))) H1
def tNotN (ta : TE) : TE := fun σ H Q => ta σ H fun x H1 => Q (.bl (!decide (x = .non))) H1
theorem RelV.none_iff {x : V} {v : Value} (r : RelV x v) : (v == Value.none) = decide (x = .non) := by
  cases x with
  | non => cases r; rfl
  | bl _ => cases r; rfl
  | int _ => obtain ⟨t, rfl⟩ := r; rfl
  | str _ => obtain ⟨t, rfl⟩ := r; rfl
  | byt _ => obtain ⟨t, rfl⟩ := r; rfl
  | flt _ => obtain ⟨t, rfl⟩ := r; rfl
  | ref _ => cases r; rfl
  | ty _ => cases r; rfl
theorem pc_isN {j pos'} (ha : PE X a ta) : PC X .Is a (.Constant .none j pos') (tIsN ta) := by
  intro pins s σ H Q I h
  refine thn (ha pins s σ H _ I h) fun v s1 ⟨x, H1, I1, r1, q1⟩ => ?_
  exact Constant_none (is_none_gen ⟨.bl _, H1, I1, by rw [r1.none_iff]; rfl, q1⟩)
theorem pc_notN {j pos'} (ha : PE X a ta) : PC X .IsNot a (.Constant .none j pos') (tNotN ta) := by
  intro pins s σ H Q I h
  refine thn (ha pins s σ H _ I h) fun v s1 ⟨x, H1, I1, r1, q1⟩ => ?_
  exact Constant_none (isnot_none_gen ⟨.bl _, H1, I1, by rw [r1.none_iff]; rfl, q1⟩)
def tB (t : TE) : TT := fun σ H Q => t σ H fun x H1 => ∃ c, x = .bl c ∧ Q c H1
theorem pt_cmp {op : CmpOp} {t : TE} (h : PC X op a b t) (h1 : behindInMarks op b = false := by first | exact nobehind _ (by decide) (by decide) | rfl) : PT X (.Compare a [op] [b] pos) (tB t) := by
  intro pins s σ H Q I hw
  refine wpAny_isTrue_Compare1 (thn (h pins s σ H _ I hw) fun v s1 h1 => thn h1 fun u s2 h2 => thn h2 fun c s3 ⟨x, H1, I1, r1, q1⟩ => ?_) h1
  obtain ⟨d, rfl, q⟩ := q1
  cases r1
  exact wpAny_truthy_bool ⟨H1, I1, q⟩
theorem pt_val {e : Expr} {t : TE} (h : PE X e t) (he : ∀ whole, isTrue e X.env whole = (do let v ← whole; standAt e.pos; holding [v] (truthy v)) := by intro _; rfl) : PT X e (tB t) := by
  intro pins s σ H Q I hw
  refine isTrue_plain (thn (h pins s σ H _ I hw) fun v s1 ⟨x, H1, I1, r1, q1⟩ => ?_) (he _)
  obtain ⟨d, rfl, q⟩ := q1
  cases r1
  exact wpAny_truthy_bool ⟨H1, I1, q⟩
variable {tA tB' : TT} {rest : List Expr}
def tAnd (t u : TT) : TT := fun σ H Q => t σ H fun c H1 => if c = true then u σ H1 Q else Q false H1
def tOr (t u : TT) : TT := fun σ H Q => t σ H fun c H1 => if c = true then Q true H1 else u σ H1 Q
def tNot (t : TT) : TT := fun σ H Q => t σ H fun c H1 => Q (!c) H1
theorem pw_and1 (ha : PT X a tA) : PW X (.BoolOp .And [a] pos) tA := by
  intro wh pins s σ H Q I h
  refine isTrue_and (thn (ha pins s σ H Q I h) fun c s1 e => ?_)
  cases c with
  | true => exact isTrue_and_nil e
  | false => exact e
theorem pw_or1 (ha : PT X a tA) : PW X (.BoolOp .Or [a] pos) tA := by
  intro wh pins s σ H Q I h
  refine isTrue_or (thn (ha pins s σ H Q I h) fun c s1 e => ?_)
  cases c with
  | false => exact isTrue_or_nil e
  | true => exact e
theorem pw_and (ha : PT X a tA) (hb : PW X (.BoolOp .And (b :: rest) pos) tB') : PW X (.BoolOp .And (a :: b :: rest) pos) (tAnd tA tB') := by
  intro wh pins s σ H Q I h
  refine isTrue_and (thn (ha pins s σ H _ I h) fun c s1 ⟨H1, I1, q1⟩ => ?_)
  cases c with
  | true => exact hb wh pins s1 σ H1 Q I1 q1
  | false => exact ⟨H1, I1, q1⟩
theorem pw_or (ha : PT X a tA) (hb : PW X (.BoolOp .Or (b :: rest) pos) tB') : PW X (.BoolOp .Or (a :: b :: rest) pos) (tOr tA tB') := by
  intro wh pins s σ H Q I h
  refine isTrue_or (thn (ha pins s σ H _ I h) fun c s1 ⟨H1, I1, q1⟩ => ?_)
  cases c with
  | true => exact ⟨H1, I1, q1⟩
  | false => exact hb wh pins s1 σ H1 Q I1 q1
theorem pt_not (ha : PT X a tA) : PT X (.UnaryOp .Not a pos) (tNot tA) := by
  intro pins s σ H Q I h
  exact isTrue_not (ha pins s σ H (fun c H1 => Q (!c) H1) I h)
def tNotV (ta : TE) : TE := fun σ H Q => ta σ H fun x H1 => ∃ c, x = .bl c ∧ Q (.bl (!c)) H1
theorem pe_not (ha : PE X a ta) : PE X (.UnaryOp .Not a pos) (tNotV ta) := by
  intro pins s σ H Q I h
  refine UnaryOp_ (thn (ha pins s σ H _ I h) fun v s1 ⟨x, H1, I1, r1, q1⟩ => ?_)
  obtain ⟨c, rfl, q1⟩ := q1
  cases r1
  exact not_of (wpAny_truthy_bool ⟨.bl (!c), H1, I1, rfl, q1⟩)
def tIf (t : TT) (ta tb : TE) : TE := fun σ H Q => t σ H fun c H1 => if c = true then ta σ H1 Q else tb σ H1 Q
theorem pe_ifExp {c : Expr} (hc : PT X c tA) (ha : PE X a ta) (hb : PE X b tb) : PE X (.IfExp c a b pos) (tIf tA ta tb) := by
  intro pins s σ H Q I h
  refine wpAny_IfExp (thn (hc pins s σ H _ I h) fun d s1 ⟨H1, I1, q1⟩ => ?_)
  cases d with
  | true => exact ha pins s1 σ H1 Q I1 q1
  | false => exact hb pins s1 σ H1 Q I1 q1
end
end L2
namespace L2
open PySem PySem.Spec PyProof.Rows
def SqL (K : PySem.W.Frag) (H : Hp) (a : Addr) (xs : List V) : Prop :=
  Rd H a (.lst xs) ∨
    ∃ (o : Obj) (its : Array Value) (n : Nat), K.lookup a = some o ∧ o.cls = .type "list" ∧ o.dict = none ∧ o.data = .seq its n ∧ its.size ≤ sizeLine ∧ Vals xs its.toList
def SqT (K : PySem.W.Frag) (H : Hp) (a : Addr) (xs : List V) : Prop :=
  Rd H a (.tup xs) ∨
    ∃ (o : Obj) (its : Array Value) (n : Nat), K.lookup a = some o ∧ o.cls = .type "tuple" ∧ o.data = .seq its n ∧ its.size ≤ sizeLine ∧ Vals xs its.toList
def absV : Value → Option V
  | .none => some .non
  | .bool b => some (.bl b)
  | .int i _ => some (.int i)
  | .str x _ => some (.str x)
  | .bytes b _ => some (.byt b)
  | .float b _ => some (.flt b)
  | .ref a => some (.ref a)
  | .type n => some (.ty n)
  | _ => none
theorem RelV.abs {x : V} {u : Value} (r : RelV x u) : absV u = some x := by
  cases x with
  | non => cases r; rfl
  | bl _ => cases r; rfl
  | int _ => obtain ⟨t, rfl⟩ := r; rfl
  | str _ => obtain ⟨t, rfl⟩ := r; rfl
  | byt _ => obtain ⟨t, rfl⟩ := r; rfl
  | flt _ => obtain ⟨t, rfl⟩ := r; rfl
  | ref _ => cases r; rfl
  | ty _ => cases r; rfl
theorem RelV.inj {x y : V} {u : Value} (r : RelV x u) (q : RelV y u) : x = y := Option.some.inj (r.abs.symm.trans q.abs)
theorem Vals.inj : ∀ {xs ys : List V} {us : List Value}, Vals xs us → Vals ys us → xs = ys
  | _, _, _, .nil, .nil => rfl
  | _, _, _, .cons r t, .cons r' t' => by rw [r.inj r', Vals.inj t t']
section
variable {X : Cx} {pins : List (Addr × Obj)} {σ : St} {H : Hp} {s : Shared} {a : Addr} {xs ys : List V}
theorem SqL.of {K : PySem.W.Frag} (h : H a = some (.lst xs)) : SqL K H a xs := .inl (.inl h)
theorem SqT.of {K : PySem.W.Frag} (h : H a = some (.tup xs)) : SqT K H a xs := .inl (.inl h)
theorem Inv.list (I : Inv X pins σ H s) (h : SqL X.K H a xs) : ∃ its : List Value, Vals xs its ∧ PlainL s.heap a its.toArray ∧ xs.length ≤ sizeLine := by
  rcases h with h | ⟨o, its, n, hk, hc, hd, hs, hz, r⟩
  · obtain ⟨z, its, n, r, e⟩ := h.ok I.hok
    exact ⟨its, r, ⟨_, n, e, rfl, rfl, rfl⟩, z⟩
  · refine ⟨its.toList, r, ⟨o, n, I.kIn a o hk, hc, hd, by simpa using hs⟩, ?_⟩
    have e := r.length
    simp only [Array.length_toList] at e
    omega
theorem Inv.tuple (I : Inv X pins σ H s) (h : SqT X.K H a xs) : ∃ its : List Value, Vals xs its ∧ IsTup s.heap a its.toArray ∧ xs.length ≤ sizeLine := by
  rcases h with h | ⟨o, its, n, hk, hc, hs, hz, r⟩
  · obtain ⟨z, its, r, p⟩ := h.ok I.hok
    exact ⟨its, r, p, z⟩
  · refine ⟨its.toList, r, ⟨o, I.kIn a o hk, hc, n, by simpa using hs⟩, ?_⟩
    have e := r.length
    simp only [Array.length_toList] at e
    omega
theorem Inv.list_inj (I : Inv X pins σ H s) (h : SqL X.K H a xs) (h' : SqL X.K H a ys) : xs = ys := by
  obtain ⟨its, r, ⟨o, n, e, _, _, d⟩, _⟩ := I.list h
  obtain ⟨its', r', ⟨o', n', e', _, _, d'⟩, _⟩ := I.list h'
  rw [e] at e'; cases e'
  rw [d] at d'
  injection d' with d1 _
  have : its = its' := by simpa using congrArg Array.toList d1
  subst this
  exact r.inj r'
end
abbrev Cx.wish (X : Cx) (E : Value → Shared → Prop) : Cx := { X with xe := E }
abbrev Cx.nox (X : Cx) : Cx := X.wish fun _ _ => False
theorem Cx.Ok.wish {X : Cx} (ok : X.Ok) (E : Value → Shared → Prop) : (X.wish E).Ok :=
  ⟨ok.mod, ok.kind, ok.glob, ok.blt, ok.above, ok.inj, ok.has, ok.cab, ok.hd, ok.frames, ok.stk, ok.exf, ok.bs, ok.bsz, ok.noex, ok.exfs, ok.funs, ok.frf⟩
theorem Cx.Ok.unwish {X : Cx} {E : Value → Shared → Prop} (ok : (X.wish E).Ok) : X.Ok :=
  ⟨ok.mod, ok.kind, ok.glob, ok.blt, ok.above, ok.inj, ok.has, ok.cab, ok.hd, ok.frames, ok.stk, ok.exf, ok.bs, ok.bsz, ok.noex, ok.exfs, ok.funs, ok.frf⟩
section
variable {X : Cx} {pins : List (Addr × Obj)} {σ : St} {H : Hp} {s : Shared} {E : Value → Shared → Prop}
theorem Inv.wish (I : Inv X pins σ H s) (E : Value → Shared → Prop) : Inv (X.wish E) pins σ H s := ⟨I.ok.wish E, I.os, I.bare, I.base, I.loc, I.cell, I.free, I.freeC, I.pin, I.hok, I.len⟩
theorem Inv.unwish (I : Inv (X.wish E) pins σ H s) : Inv X pins σ H s := ⟨I.ok.unwish, I.os, I.bare, I.base, I.loc, I.cell, I.free, I.freeC, I.pin, I.hok, I.len⟩
theorem SP.unwish {D : Ends} {f : Flow} {s' : Shared} (h : SP (X.wish E) pins D f s') : SP X pins D f s' := by
  cases f with
  | next => obtain ⟨σ', H', I, q⟩ := h; exact ⟨σ', H', I.unwish, q⟩
  | brk => obtain ⟨σ', H', I, q⟩ := h; exact ⟨σ', H', I.unwish, q⟩
  | cont => obtain ⟨σ', H', I, q⟩ := h; exact ⟨σ', H', I.unwish, q⟩
  | ret u => obtain ⟨v, σ', H', I, r, q⟩ := h; exact ⟨v, σ', H', I.unwish, r, q⟩
theorem PSs.nox {st : List Stmt} {t : TS} (h : PSs X.nox st t) : PSs X st t := fun pins s σ H D I hw =>
  wpAny_mono (h pins s σ H D (I.wish _) hw) (fun _ _ q => q.unwish) fun _ _ z => False.elim z
end
section
variable {X : Cx} {st : Stmt} {rest : List Stmt} {t u : TS} {e : Expr} {te : TE} {pos : Pos}
def tNext : TS := fun D σ H => D.nx σ H
def tSeq (t u : TS) : TS := fun D σ H => t { D with nx := u D } σ H
theorem pss_nil : PSs X [] tNext := fun _ _ σ H _ I h => wpAny_execs_nil ⟨σ, H, I, h⟩
theorem pss_cons (h1 : PS X st t) (h2 : PSs X rest u) : PSs X (st :: rest) (tSeq t u) := by
  intro pins s σ H D I h
  refine wpAny_execs_cons (thn (h1 pins s σ H { D with nx := u D } I h) fun f s1 q => ?_)
  cases f with
  | next =>
    obtain ⟨σ', H', I', q⟩ := q
    exact h2 pins s1 σ' H' D I' q
  | ret v => exact q
  | brk => exact q
  | cont => exact q
theorem pss_one (h1 : PS X st t) : PSs X [st] t := by
  intro pins s σ H D I h
  refine wpAny_execs_cons (thn (h1 pins s σ H D I h) fun f s1 q => ?_)
  cases f with
  | next => exact wpAny_execs_nil q
  | ret v => exact q
  | brk => exact q
  | cont => exact q
theorem Inv.quiet {pins : List (Addr × Obj)} {σ : St} {H : Hp} {s : Shared} (I : Inv X pins σ H s) : interactive X.env = false := by simp [interactive, I.ok.kind]
def tDrop (te : TE) : TS := fun D σ H => te σ H fun _ H1 => D.nx σ H1
theorem ps_expr (he : PE X e te) (hs : swapsWith e none pos.line X.env = pure false := by rfl) : PS X (.Expr e pos) (tDrop te) := by
  intro pins s σ H D I h
  exact wpAny_Expr_any (thn (he pins s σ H _ I h) fun v s1 ⟨x, H1, I1, r1, q1⟩ => ⟨σ, H1, I1, q1⟩) I.quiet hs
def tRet (te : TE) : TS := fun D σ H => te σ H D.rt
theorem ps_ret (he : PE X e te) : PS X (.Return (some e) pos) (tRet te) := by
  intro pins s σ H D I h
  exact wpAny_Return_some (thn (he pins s σ H _ I h) fun v s1 ⟨x, H1, I1, r1, q1⟩ => ⟨x, σ, H1, I1, r1, q1⟩)
def tIfS (c : TT) (t u : TS) : TS := fun D σ H => c σ H fun b H1 => if b = true then t D σ H1 else u D σ H1
theorem ps_if {c : Expr} {a b : List Stmt} {tc : TT} (hc : PT X c tc) (ha : PSs X a t) (hb : PSs X b u) : PS X (.If c a b pos) (tIfS tc t u) := by
  intro pins s σ H D I h
  refine wpAny_If (thn (hc pins s σ H _ I h) fun d s1 ⟨H1, I1, q1⟩ => ?_)
  cases d with
  | true => exact ha pins s1 σ H1 D I1 q1
  | false => exact hb pins s1 σ H1 D I1 q1
end
abbrev TG := V → St → Hp → (St → Hp → Prop) → Prop
abbrev TGs := List V → St → Hp → (St → Hp → Prop) → Prop
def PG (X : Cx) (target : Expr) (t : TG) : Prop :=
  ∀ (pins : List (Addr × Obj)) (s : Shared) (σ : St) (H : Hp) (v : V) (u : Value) (Q : St → Hp → Prop), Inv X pins σ H s → RelV v u → t v σ H Q →
    wpAny (model X.prog X.w) X.A (assign target X.env u) (fun _ s' => ∃ σ' H', Inv X pins σ' H' s' ∧ Q σ' H') X.xe s
def PGs (X : Cx) (ts : List Expr) (t : TGs) : Prop :=
  ∀ (pins : List (Addr × Obj)) (s : Shared) (σ : St) (H : Hp) (vs : List V) (us : List Value) (Q : St → Hp → Prop), Inv X pins σ H s → Vals vs us → t vs σ H Q →
    wpAny (model X.prog X.w) X.A (assignInOrder ((assignEach ts X.env).map (·.2)) us) (fun _ s' => ∃ σ' H', Inv X pins σ' H' s' ∧ Q σ' H') X.xe s
section
variable {X : Cx} {pos : Pos}
def gName (i : Nat) : TG := fun v σ H Q => Q (σ.set i (some v)) H
theorem pg_name {i : Nat} {x : Str} (hN : X.N.Nodup) (hi : X.N[i]? = some x) (hx : Loc X.env.scope x) (hf : X.fn x = true ∨ X.env.scope.names.lookup x = some .local := by first | exact .inl rfl | exact .inr rfl | assumption) : PG X (.Name x pos) (gName i) := by
  intro pins s σ H v u Q I r h
  exact wpAny_assign_Name (store_ok I hN hi hx r (fun s' I' => ⟨_, H, I', h⟩) hf)
def gNil : TGs := fun vs σ H Q => vs = [] ∧ Q σ H
def gCons (t : TG) (u : TGs) : TGs := fun vs σ H Q => ∃ v r, vs = v :: r ∧ t v σ H fun σ' H' => u r σ' H' Q
theorem pgs_nil : PGs X [] gNil := by
  intro pins s σ H vs us Q I r h
  obtain ⟨e, h⟩ := h
  subst e
  cases r
  exact assignInOrder_nil ⟨σ, H, I, h⟩
theorem pgs_cons {e : Expr} {es : List Expr} {t : TG} {u : TGs} (h1 : PG X e t) (h2 : PGs X es u)
    (hs : (assignEach (e :: es) X.env).map (·.2) = assign e X.env :: (assignEach es X.env).map (·.2) := by rfl) : PGs X (e :: es) (gCons t u) := by
  intro pins s σ H vs us Q I r h
  obtain ⟨v, vr, e1, h⟩ := h
  subst e1
  cases r with
  | cons r rr =>
    rw [hs]
    refine assignInOrder_cons (thn (h1 pins s σ H _ _ _ I r h) fun _ s1 ⟨σ1, H1, I1, q1⟩ => ?_)
    exact h2 pins s1 σ1 H1 _ _ Q I1 rr q1
def gTup (K : PySem.W.Frag) (n : Nat) (t : TGs) : TG := fun v σ H Q => ∃ a xs, v = .ref a ∧ SqT K H a xs ∧ xs.length = n ∧ t xs σ H Q
theorem pg_tup {es : List Expr} {k : Nat} {t : TGs} {n : Nat} (hc : X.calm = true) (h : PGs X es t)
    (hn : (assignEach es X.env).length = n := by rfl) (hst : (assignEach es X.env).findIdx? (·.1) = none := by rfl) : PG X (.Tuple es k pos) (gTup X.K n t) := by
  intro pins s σ H v u Q I r hw
  obtain ⟨a, xs, e1, hq, hl, hw⟩ := hw
  subst e1
  cases r
  obtain ⟨its, rv, ht, hz⟩ := I.tuple hq
  refine assign_Tuple_tuple (I.ok.hd hc) ht (by simp [hn, ← hl, rv.length]) hst fun h' hx => ?_
  have I1 : Inv X pins σ H { s with heap := h' } := I.kept (t' := s.toks) fun b o e => hx b o (Nat.ne_of_lt (Heap.lt_size e)) e
  exact h pins _ σ H xs _ Q I1 (by simpa using rv) hw
def tAsg (te : TE) (g : TG) : TS := fun D σ H => te σ H fun x H1 => g x σ H1 D.nx
theorem ps_set {i : Nat} {x : Str} {e : Expr} {te : TE} {pos' : Pos} (hN : X.N.Nodup) (hi : X.N[i]? = some x) (hx : Loc X.env.scope x) (he : PE X e te) (hs : swapsWith e (some (.Name x pos')) pos.line X.env = pure false := by rfl) (hf : X.fn x = true ∨ X.env.scope.names.lookup x = some .local := by first | exact .inl rfl | exact .inr rfl | assumption) :
    PS X (.Assign [.Name x pos'] e pos) (tAsg te (gName i)) := by
  intro pins s σ H D I h
  refine wpAny_Assign_Name (thn (he pins s σ H _ I h) fun v s1 ⟨y, H1, I1, r1, q1⟩ => ?_) hs
  exact store_ok I1 hN hi hx r1 (fun s2 I2 => ⟨_, H1, I2, q1⟩) hf
end
section
variable {X : Cx} {pos : Pos}
def tWhile (c : TT) (tb : TS) : TS := fun D σ H => ∃ W : Nat → St → Hp → Prop, (∃ m, W m σ H) ∧ ∀ m σ H, W m σ H →
  c σ H fun b H1 => if b = true then ∃ N : St → Hp → Prop, (∀ σ' H', N σ' H' → ∃ m', m' < m ∧ W m' σ' H') ∧ tb { D with nx := N, ct := N, bk := D.nx } σ H1 else D.nx σ H1
theorem ps_while {c : Expr} {body : List Stmt} {tc : TT} {tb : TS} (hp : PassesOwn (model X.prog X.w) X.A X.env X.xe) (hc : PT X c tc) (hb : PSs X body tb) : PS X (.While c body [] pos) (tWhile tc tb) := by
  intro pins s σ H D I h
  obtain ⟨W, ⟨m0, w0⟩, turn⟩ := h
  refine wpAny_While (codeAny_whileLoop (fun n s' => ∃ σ' H', Inv X pins σ' H' s' ∧ W n σ' H') ?_ m0 ⟨σ, H, I, w0⟩)
  rintro n s1 ⟨σ1, H1, I1, w1⟩
  refine wpAny_passesOwn hp (thn (hc pins s1 σ1 H1 _ I1 (turn n σ1 H1 w1)) fun b s2 ⟨H2, I2, q2⟩ => ?_)
  cases b with
  | true =>
    obtain ⟨N, hN, q2⟩ := q2
    rw [if_pos rfl]
    refine wpAny_passesOwn hp (thn (hb pins s2 σ1 H2 _ I2 q2) fun f s3 q3 => ?_)
    cases f with
    | next =>
      obtain ⟨σ3, H3, I3, n3⟩ := q3
      obtain ⟨m', hm, w3⟩ := hN σ3 H3 n3
      exact ⟨m', hm, σ3, H3, I3, w3⟩
    | cont =>
      obtain ⟨σ3, H3, I3, n3⟩ := q3
      obtain ⟨m', hm, w3⟩ := hN σ3 H3 n3
      exact ⟨m', hm, σ3, H3, I3, w3⟩
    | brk => exact q3
    | ret v => exact q3
  | false =>
    rw [if_neg Bool.false_ne_true]
    exact wpAny_execs_nil ⟨σ1, H2, I2, q2⟩
end
structure It where
  go : Nat → Hp → Prop
  yld : Nat → Hp → V → Hp → Prop
  stop : Nat → Hp → Prop
def FpOk (X : Cx) (pins : List (Addr × Obj)) (H : Hp) (b : Addr) : Prop :=
  H b = none ∧ b ≠ X.env.locals ∧ b ∉ X.fs ∧ (b ∈ X.ex ∨ X.s_0.heap.objs.size ≤ b) ∧ (∀ x c, X.env.cells.lookup x = some c → c ≠ b) ∧ ∀ p ∈ X.pn ++ pins, p.1 ≠ b
theorem Inv.fpOk {X : Cx} {pins : List (Addr × Obj)} {σ : St} {H H' : Hp} {s : Shared} {b : Addr} (I : Inv X pins σ H s) (hb : s.heap.objs.size ≤ b) (hn : H' b = none) : FpOk X pins H' b := by
  refine ⟨hn, Nat.ne_of_gt (Nat.lt_of_lt_of_le I.lt hb), I.nofs hb, .inr (Nat.le_trans I.sz hb), fun x c e z => ?_, fun p hp z => ?_⟩
  · obtain ⟨v, q⟩ := I.cell x c e
    exact absurd (Nat.lt_of_lt_of_le q.lt (by rw [z]; exact hb)) (Nat.lt_irrefl _)
  · exact absurd (Nat.lt_of_lt_of_le (Heap.lt_size (I.pin p hp).1) (by rw [z]; exact hb)) (Nat.lt_irrefl _)
structure Turn (P : Program) (w : World) (K : PySem.W.Frag) (tg : Expr) (J : It) (fp : List Addr) (it : Addr) (tn : Nat → Heap → Prop) : Prop where
  mem : it ∈ fp
  obj : ∀ i h, tn i h → ∀ b ∈ fp, ∃ o, h.get? b = some o ∧ ∀ v, o.data ≠ .cell v
  keep : ∀ i h h', tn i h → (∀ b ∈ fp, ∀ o, h.get? b = some o → h'.get? b = some o) → tn i h'
  item : ∀ (X : Cx), X.prog = P → X.w = w → X.K = K → X.calm = true → ∀ (i : Nat) (pins : List (Addr × Obj)) (s : Shared) (σ : St) (H : Hp) (E : Value → Shared → Prop), Inv X pins σ H s → (∀ b ∈ fp, FpOk X pins H b) → tn i s.heap → J.go i H →
    wpAny (model P w) X.A (pyNext (.ref it)) (fun r s1 => ∃ u, r = some u ∧
      wpAny (model P w) X.A (letOwnedTupleGo tg (.ref it) u) (fun _ s2 => ∃ x H', Inv X pins σ H' s2 ∧ RelV x u ∧ J.yld i H x H' ∧ tn (i + 1) s2.heap ∧ ∀ b ∈ fp, H' b = none) E s1) E s
  done : ∀ (X : Cx), X.prog = P → X.w = w → X.K = K → X.calm = true → ∀ (i : Nat) (pins : List (Addr × Obj)) (s : Shared) (σ : St) (H : Hp) (E : Value → Shared → Prop), Inv X pins σ H s → (∀ b ∈ fp, FpOk X pins H b) → tn i s.heap → J.stop i H →
    wpAny (model P w) X.A (pyNext (.ref it)) (fun r s1 => r = none ∧ Inv X pins σ H s1) E s
  self : ∀ (A : Around) (i : Nat) (s : Shared) (Q : Value → Shared → Prop) (E : Value → Shared → Prop), tn i s.heap → Q (.ref it) s → wpAny (model P w) A (pyIter (.ref it)) Q E s
abbrev TI := St → Hp → (It → Hp → Prop) → Prop
def PIE (X : Cx) (pins : List (Addr × Obj)) (σ : St) (tg : Expr) (R : It → Hp → Prop) (itv : Value) (s2 : Shared) : Prop :=
  ∃ (it : Addr) (fp : List Addr) (tn : Nat → Heap → Prop) (J : It) (H' : Hp), itv = .ref it ∧ Inv X pins σ H' s2 ∧ Turn X.prog X.w X.K tg J fp it tn ∧ tn 0 s2.heap ∧ (∀ b ∈ fp, FpOk X pins H' b) ∧ R J H'
def PI (X : Cx) (tg iter : Expr) (wi : TI) : Prop :=
  ∀ (pins : List (Addr × Obj)) (s : Shared) (σ : St) (H : Hp) (R : It → Hp → Prop), Inv X pins σ H s → wi σ H R →
    wpAny (model X.prog X.w) X.A (eval iter X.env) (fun v s1 => wpAny (model X.prog X.w) X.A (pyIter v) (PIE X pins σ tg R) X.xe s1) X.xe s
theorem go_of {M : Model} {A : Around} {E : Value → Shared → Prop} {s : Shared} {tg : Expr} {it : Addr} {u : Value} {o : Obj} {n : String} {vs : Array Value} {Q : Unit → Shared → Prop} (ho : s.heap.get? it = some o) (hc : o.cls = .type n) (hd : o.data = .fields vs)
    (hn : ["enumerate", "zip", "dict_itemiterator", "dict_reverseitemiterator", "odict_iterator", "itertools.zip_longest", "itertools.pairwise"].contains n = false) (hQ : Q () s) : wpAny M A (letOwnedTupleGo tg (.ref it) u) Q E s := by
  unfold letOwnedTupleGo
  cases tg <;> first
    | exact wpAny_pure hQ
    | (cases u <;> first
        | exact wpAny_pure hQ
        | (refine wpAny_bind (wpAny_load ho ?_)
           rw [hc, hd]
           show wpAny M A (if (["enumerate", "zip", "dict_itemiterator", "dict_reverseitemiterator", "odict_iterator", "itertools.zip_longest", "itertools.pairwise"].contains n && vs[0]? == some (rawInt _)) = true then _ else _) Q E s
           rw [if_neg (by intro h; rw [hn, Bool.false_and] at h; cases h)]
           exact wpAny_pure hQ))
def Itl (K : PySem.W.Frag) (a : Addr) : It :=
  ⟨fun i H => ∃ xs x, SqL K H a xs ∧ xs[i]? = some x, fun i H x H' => H' = H ∧ ∀ xs, SqL K H a xs → xs[i]? = some x, fun i H => ∃ xs, SqL K H a xs ∧ xs.length ≤ i⟩
theorem turn_list {P : Program} {w : World} {K : PySem.W.Frag} {tg : Expr} (a it : Addr) : Turn P w K tg (Itl K a) [it] it (fun i h => h.IsListIter it a i) where
  mem := by simp
  obj := fun i h st b hb => by
    have e : b = it := by simpa using hb
    subst e
    obtain ⟨o, e, c, d⟩ := st
    exact ⟨o, e, fun v z => by rw [d] at z; cases z⟩
  keep := fun i h h' st k => st.at fun o e => k it (by simp) o e
  item := by
    intro X hP hw hK hc i pins s σ H E I hf st hg
    subst hP hw hK
    obtain ⟨xs, x, hq, hx⟩ := hg
    obtain ⟨its, rv, p, hz⟩ := I.list hq
    obtain ⟨u, hu, ru⟩ := rv.get hx
    obtain ⟨f0, f1, f2, f3, f4, f5⟩ := hf it (by simp)
    refine wpAny_pyNext_list_item st p.isList (x := u) (by simpa using hu) fun h' st' sb => ?_
    have I1 : Inv X pins σ H { s with heap := h' } := I.turned (t' := s.toks) (fun b o hb e => (sb.2 b hb).trans e) f0 f1 f3 f4 f5
    obtain ⟨o, e, c, d⟩ := id st'
    exact ⟨u, rfl, go_of (s := { s with heap := h' }) e c d (by decide) ⟨x, H, I1, ru, ⟨rfl, fun ys hy => by rw [I.list_inj hy hq]; exact hx⟩, st', fun b hb => (hf b hb).1⟩⟩
  done := by
    intro X hP hw hK hc i pins s σ H E I hf st hg
    subst hP hw hK
    obtain ⟨xs, hq, hx⟩ := hg
    obtain ⟨its, rv, p, hz⟩ := I.list hq
    obtain ⟨f0, f1, f2, f3, f4, f5⟩ := hf it (by simp)
    have hl := rv.length
    exact wpAny_pyNext_list_end (I.ok.hd hc) st p.isList (by simp; omega) fun h' eb => ⟨rfl, I.turned (t' := s.toks) (fun b o hb e => eb b o hb e) f0 f1 f3 f4 f5⟩
  self := fun _ _ _ _ _ st h => wpAny_pyIter_listiter st h
end L2
namespace L2
open PySem PySem.Spec PyProof.Rows
section
variable {X : Cx} {tg : Expr}
def iList (K : PySem.W.Frag) (tl : TE) : TI := fun σ H R => tl σ H fun x H1 => ∃ a, x = .ref a ∧ (∃ xs, SqL K H1 a xs) ∧ R (Itl K a) H1
theorem pi_list {l : Expr} {tl : TE} (hl : PE X l tl) : PI X tg l (iList X.K tl) := by
  intro pins s σ H R I h
  refine thn (hl pins s σ H _ I h) fun v s1 ⟨x, H1, I1, r1, q1⟩ => ?_
  obtain ⟨a, e, ⟨xs, hq⟩, q⟩ := q1
  subst e
  cases r1
  obtain ⟨its, rv, p, hz⟩ := I1.list hq
  refine wpAny_pyIter_list p.isList ?_
  refine ⟨s1.heap.objs.size, [s1.heap.objs.size], _, _, H1, rfl, I1.kept (t' := s1.toks) fun b o e => Heap.get?_push_of_some _ e, turn_list a _, ⟨_, Heap.get?_push_size _ rfl, rfl, rfl⟩, fun b hb => ?_, q⟩
  have e : b = s1.heap.objs.size := by simpa using hb
  subst e
  exact I1.fpOk (Nat.le_refl _) (I1.hok.fresh (Nat.le_refl _))
def tFor (wi : TI) (g : TG) (tb : TS) : TS := fun D σ H => wi σ H fun J H1 => ∃ W : Nat → Nat → St → Hp → Prop, (∃ m, W 0 m σ H1) ∧ ∀ i m σ H, W i m σ H →
  (J.stop i H ∧ D.nx σ H) ∨ (J.go i H ∧ ∃ N : St → Hp → Prop, (∀ σ' H', N σ' H' → ∃ m', m' < m ∧ W (i + 1) m' σ' H') ∧ ∀ x H', J.yld i H x H' → g x σ H' fun σ2 H2 => tb { D with nx := N, ct := N, bk := D.nx } σ2 H2)
def pinsAt (fp : List Addr) (h : Heap) : List (Addr × Obj) := fp.filterMap fun b => (h.get? b).map fun o => (b, o)
theorem mem_pinsAt {fp : List Addr} {h : Heap} {b : Addr} {o : Obj} (hb : b ∈ fp) (e : h.get? b = some o) : (b, o) ∈ pinsAt fp h := List.mem_filterMap.mpr ⟨b, hb, by rw [e]; rfl⟩
theorem of_pinsAt {fp : List Addr} {h : Heap} {p : Addr × Obj} (hp : p ∈ pinsAt fp h) : p.1 ∈ fp ∧ h.get? p.1 = some p.2 := by
  obtain ⟨b, hb, e⟩ := List.mem_filterMap.mp hp
  cases q : h.get? b with
  | none => rw [q] at e; cases e
  | some o =>
    rw [q] at e
    have e' : (b, o) = p := Option.some.inj e
    subst e'
    exact ⟨hb, q⟩
theorem Inv.pinned {pins : List (Addr × Obj)} {σ : St} {H : Hp} {s : Shared} {fp : List Addr} (I : Inv X pins σ H s) (hf : ∀ b ∈ fp, FpOk X pins H b) (ho : ∀ b ∈ fp, ∃ o, s.heap.get? b = some o ∧ ∀ v, o.data ≠ .cell v) : Inv X (pins ++ pinsAt fp s.heap) σ H s :=
  I.pins_of fun p hp => (List.mem_append.mp hp).elim (fun z => I.pin p (List.mem_append_right _ z)) fun z => by
    obtain ⟨hb, e⟩ := of_pinsAt z
    obtain ⟨f0, f1, f2, _⟩ := hf p.1 hb
    obtain ⟨o, e', d⟩ := ho p.1 hb
    rw [e] at e'; cases e'
    exact ⟨e, f0, f1, f2, d⟩
theorem Inv.unpinned {pins pl : List (Addr × Obj)} {σ : St} {H : Hp} {s : Shared} (I : Inv X (pins ++ pl) σ H s) : Inv X pins σ H s := I.pins_of fun p hp => I.pin p (List.mem_append_right _ (List.mem_append_left _ hp))
theorem ps_for {iter : Expr} {body : List Stmt} {wi : TI} {g : TG} {tb : TS} {pos : Pos} (hp : PassesOwn (model X.prog X.w) X.A X.env X.xe) (hc : X.calm = true) (hi : PI X tg iter wi) (hg : PG X tg g) (hb : PSs X body tb)
    (hs : ∀ x, foldedSetIterable iter X.env x = pure x := by intro _; rfl) : PS X (.For tg iter body [] pos) (tFor wi g tb) := by
  intro pins s σ H D I h
  refine wpAny_For (thn (hi pins s σ H _ I h) fun v s1 h1 => thn h1 fun itv s2 h2 => ?_) hs
  obtain ⟨it, fp, tn, J, H2, e, I2, T, st2, f2, W, ⟨m0, w0⟩, turn⟩ := h2
  subst e
  have stat : ∀ {H' : Hp}, (∀ b ∈ fp, H' b = none) → ∀ b ∈ fp, FpOk X pins H' b := fun hn b hb => ⟨hn b hb, (f2 b hb).2⟩
  refine codeAny_forLoop_any (fun n s' => ∃ i σ' H', Inv X pins σ' H' s' ∧ tn i s'.heap ∧ (∀ b ∈ fp, H' b = none) ∧ W i n σ' H') ?_ m0 ⟨0, σ, H2, I2, st2, fun b hb => (f2 b hb).1, w0⟩
  rintro n s3 ⟨i, σ3, H3, I3, st3, fr3, w3⟩
  rcases turn i n σ3 H3 w3 with ⟨stop, qn⟩ | ⟨go, N, hN, step⟩
  · refine wpAny_passesOwn hp (thn (T.done X rfl rfl rfl hc i pins s3 σ3 H3 X.xe I3 (stat fr3) st3 stop) fun r s4 ⟨hr, I4⟩ => ?_)
    subst hr
    exact wpAny_execs_nil ⟨σ3, H3, I4, qn⟩
  · refine wpAny_passesOwn hp (thn (T.item X rfl rfl rfl hc i pins s3 σ3 H3 X.xe I3 (stat fr3) st3 go) fun r s4 ⟨u, hr, h4⟩ => ?_)
    subst hr
    refine wpAny_passesOwn hp (thn h4 fun _ s5 ⟨x, H5, I5, r5, y5, st5, fr5⟩ => ?_)
    have I5' := I5.pinned (stat fr5) (T.obj _ _ st5)
    refine wpAny_passesOwn hp (thn (hg _ s5 σ3 H5 x u _ I5' r5 (step x H5 y5)) fun _ s6 ⟨σ6, H6, I6, q6⟩ => ?_)
    refine wpAny_passesOwn hp (thn (hb _ s6 σ6 H6 _ I6 q6) fun f s7 q7 => ?_)
    have again : ∀ {σ7 : St} {H7 : Hp}, Inv X (pins ++ pinsAt fp s5.heap) σ7 H7 s7 → N σ7 H7 → ∃ m, m < n ∧ ∃ i σ' H', Inv X pins σ' H' s7 ∧ tn i s7.heap ∧ (∀ b ∈ fp, H' b = none) ∧ W i m σ' H' := fun {σ7 H7} I7 n7 => by
      obtain ⟨m', hm, w7⟩ := hN σ7 H7 n7
      refine ⟨m', hm, i + 1, σ7, H7, I7.unpinned, T.keep _ _ _ st5 fun b hb o e => (I7.pin (b, o) (List.mem_append_right _ (List.mem_append_right _ (mem_pinsAt hb e)))).1, fun b hb => ?_, w7⟩
      obtain ⟨o, e, d⟩ := T.obj _ _ st5 b hb
      exact (I7.pin (b, o) (List.mem_append_right _ (List.mem_append_right _ (mem_pinsAt hb e)))).2.1
    cases f with
    | next => obtain ⟨σ7, H7, I7, n7⟩ := q7; exact again I7 n7
    | cont => obtain ⟨σ7, H7, I7, n7⟩ := q7; exact again I7 n7
    | brk => obtain ⟨σ7, H7, I7, q7⟩ := q7; exact ⟨σ7, H7, I7.unpinned, q7⟩
    | ret v => obtain ⟨x7, σ7, H7, I7, r7, q7⟩ := q7; exact ⟨x7, σ7, H7, I7.unpinned, r7, q7⟩
end
theorem for_list {K : PySem.W.Frag} {a : Addr} {xs : List V} {g : TG} {tb : TS} {D : Ends} {σ : St} {H : Hp} (Pv : Nat → St → Hp → Prop) (h0 : Pv 0 σ H) (hl : ∀ i σ H, i ≤ xs.length → Pv i σ H → SqL K H a xs)
    (hs : ∀ i x σ H, xs[i]? = some x → Pv i σ H → g x σ H fun σ2 H2 => tb { D with nx := Pv (i + 1), ct := Pv (i + 1), bk := D.nx } σ2 H2) (hd : ∀ σ H, Pv xs.length σ H → D.nx σ H) :
    ∃ W : Nat → Nat → St → Hp → Prop, (∃ m, W 0 m σ H) ∧ ∀ i m σ H, W i m σ H →
      ((Itl K a).stop i H ∧ D.nx σ H) ∨ ((Itl K a).go i H ∧ ∃ N : St → Hp → Prop, (∀ σ' H', N σ' H' → ∃ m', m' < m ∧ W (i + 1) m' σ' H') ∧ ∀ x H', (Itl K a).yld i H x H' → g x σ H' fun σ2 H2 => tb { D with nx := N, ct := N, bk := D.nx } σ2 H2) := by
  refine ⟨fun i m σ H => m = xs.length - i ∧ i ≤ xs.length ∧ Pv i σ H, ⟨xs.length, by simp, Nat.zero_le _, h0⟩, ?_⟩
  rintro i m σ H ⟨rfl, hi, p⟩
  have q := hl i σ H hi p
  by_cases hlt : i < xs.length
  · refine .inr ⟨⟨xs, xs[i], q, by simp [hlt]⟩, Pv (i + 1), fun σ' H' p' => ⟨xs.length - (i + 1), by omega, rfl, hlt, p'⟩, fun x H' y => ?_⟩
    obtain ⟨e, y⟩ := y
    subst e
    exact hs i x σ _ (y xs q) p
  · have e : i = xs.length := by omega
    subst e
    exact .inl ⟨⟨xs, q, Nat.le_refl _⟩, hd σ H p⟩
theorem while_by {c : TT} {tb : TS} {D : Ends} {σ : St} {H : Hp} (Pv : St → Hp → Prop) (μ : St → Hp → Nat) (h0 : Pv σ H)
    (hs : ∀ σ H, Pv σ H → c σ H fun b H1 => if b = true then tb { D with nx := fun σ' H' => Pv σ' H' ∧ μ σ' H' < μ σ H, ct := fun σ' H' => Pv σ' H' ∧ μ σ' H' < μ σ H, bk := D.nx } σ H1 else D.nx σ H1)
    (mono : ∀ σ H Q Q', (∀ b H1, Q b H1 → Q' b H1) → c σ H Q → c σ H Q') : tWhile c tb D σ H := by
  refine ⟨fun m σ H => m = μ σ H ∧ Pv σ H, ⟨_, rfl, h0⟩, ?_⟩
  rintro m σ H ⟨rfl, p⟩
  refine mono σ H _ _ (fun b H1 q => ?_) (hs σ H p)
  cases b with
  | true => exact ⟨_, fun σ' H' ⟨p', l⟩ => ⟨_, l, rfl, p'⟩, q⟩
  | false => exact q
end L2
namespace L2
open PySem PySem.Spec PyProof.Rows
abbrev R2 := V → V → Hp → VK → Prop
def OpR (X : Cx) (f : Value → Value → Sem Value) (r : R2) : Prop :=
  ∀ (pins : List (Addr × Obj)) (s : Shared) (σ : St) (H : Hp) (x y : V) (v u : Value) (Q : VK), Inv X pins σ H s → RelV x v → RelV y u → r x y H Q →
    wpAny (model X.prog X.w) X.A (f v u) (EP X pins σ Q) X.xe s
def UnR (X : Cx) (f : Value → Sem Value) (r : V → Hp → VK → Prop) : Prop :=
  ∀ (pins : List (Addr × Obj)) (s : Shared) (σ : St) (H : Hp) (x : V) (v : Value) (Q : VK), Inv X pins σ H s → RelV x v → r x H Q →
    wpAny (model X.prog X.w) X.A (f v) (EP X pins σ Q) X.xe s
def CallR (X : Cx) (f : Value) (r : List V → Hp → VK → Prop) : Prop :=
  ∀ (pins : List (Addr × Obj)) (s : Shared) (σ : St) (H : Hp) (xs : List V) (us : List Value) (Q : VK), Inv X pins σ H s → Vals xs us → r xs H Q →
    wpAny (model X.prog X.w) X.A (call f us) (EP X pins σ Q) X.xe s
def TruR (X : Cx) (r : V → Hp → (Bool → Hp → Prop) → Prop) : Prop :=
  ∀ (pins : List (Addr × Obj)) (s : Shared) (σ : St) (H : Hp) (x : V) (v : Value) (Q : Bool → Hp → Prop), Inv X pins σ H s → RelV x v → r x H Q →
    wpAny (model X.prog X.w) X.A (truthy v) (TP X pins σ Q) X.xe s
def tOp (r : R2) (ta tb : TE) : TE := fun σ H Q => ta σ H fun x H1 => tb σ H1 fun y H2 => r x y H2 Q
def tUn (r : V → Hp → VK → Prop) (ta : TE) : TE := fun σ H Q => ta σ H fun x H1 => r x H1 Q
def rI0 (g : Int → Int → V) : R2 := fun x y H Q => ∃ i j, x = .int i ∧ y = .int j ∧ Q (g i j) H
def rU (g : Int → V) : V → Hp → VK → Prop := fun x H Q => ∃ i, x = .int i ∧ Q (g i) H
section
variable {X : Cx} {a b c : Expr} {ta tb tc : TE} {pos : Pos}
theorem binT (ha : PE X a ta) (hb : PE X b tb) {pins : List (Addr × Obj)} {s : Shared} {σ : St} {H : Hp} {R : V → V → Hp → Prop} (I : Inv X pins σ H s)
    (h : ta σ H fun x H1 => tb σ H1 fun y H2 => R x y H2) {Q : Value → Shared → Prop} {f : Value → Value → Sem Value}
    (hf : ∀ v u s2 x y H2, Inv X pins σ H2 s2 → RelV x v → RelV y u → R x y H2 → wpAny (model X.prog X.w) X.A (f v u) Q X.xe s2) :
    wpAny (model X.prog X.w) X.A (eval a X.env) (fun v s₁ => wpAny (model X.prog X.w) X.A (eval b X.env) (fun u s₂ => wpAny (model X.prog X.w) X.A (f v u) Q X.xe s₂) X.xe s₁) X.xe s := by
  refine thn (ha pins s σ H _ I h) fun v s1 ⟨x, H1, I1, r1, q1⟩ => ?_
  refine thn (hb pins s1 σ H1 _ I1 q1) fun u s2 ⟨y, H2, I2, r2, q2⟩ => ?_
  exact hf v u s2 x y H2 I2 r1 r2 q2
theorem pe_op {op : Operator} {r : R2} (ho : OpR X (binaryOp op) r) (ha : PE X a ta) (hb : PE X b tb) : PE X (.BinOp a op b pos) (tOp r ta tb) := by
  intro pins s σ H Q I h
  exact wpAny_BinOp (binT ha hb I h fun v u s2 x y H2 I2 rx ry q => ho pins s2 σ H2 x y v u Q I2 rx ry q)
theorem pe_un {op : UnaryOp} {r : V → Hp → VK → Prop} (ho : UnR X (unaryOp op) r) (ha : PE X a ta) : PE X (.UnaryOp op a pos) (tUn r ta) := by
  intro pins s σ H Q I h
  exact UnaryOp_ (thn (ha pins s σ H _ I h) fun v s1 ⟨x, H1, I1, r1, q1⟩ => ho pins s1 σ H1 x v Q I1 r1 q1)
theorem opI0 {f : Value → Value → Sem Value} {g : Int → Int → Int}
    (rule : ∀ (i j : Int) (t u : Tok) (s : Shared) (Q : Value → Shared → Prop) (E : Value → Shared → Prop), Q (.int (g i j) s.toks) { s with toks := s.toks + 1 } → wpAny (model X.prog X.w) X.A (f (.int i t) (.int j u)) Q E s) :
    OpR X f (rI0 fun i j => .int (g i j)) := by
  intro pins s σ H x y v u Q I rx ry h
  obtain ⟨i, j, rfl, rfl, q⟩ := h
  obtain ⟨t, rfl⟩ := rx
  obtain ⟨t', rfl⟩ := ry
  exact rule i j t t' s _ _ ⟨.int (g i j), H, I.tok _, ⟨_, rfl⟩, q⟩
theorem opB0 {f : Value → Value → Sem Value} {g : Int → Int → Bool}
    (rule : ∀ (i j : Int) (t u : Tok) (s : Shared) (Q : Value → Shared → Prop) (E : Value → Shared → Prop), Q (.bool (g i j)) s → wpAny (model X.prog X.w) X.A (f (.int i t) (.int j u)) Q E s) :
    OpR X f (rI0 fun i j => .bl (g i j)) := by
  intro pins s σ H x y v u Q I rx ry h
  obtain ⟨i, j, rfl, rfl, q⟩ := h
  obtain ⟨t, rfl⟩ := rx
  obtain ⟨t', rfl⟩ := ry
  exact rule i j t t' s _ _ ⟨.bl (g i j), H, I, rfl, q⟩
theorem op_add : OpR X (binaryOp .Add) (rI0 fun i j => .int (i + j)) := opI0 fun _ _ _ _ _ _ _ q => add_int q
theorem op_sub : OpR X (binaryOp .Sub) (rI0 fun i j => .int (i - j)) := opI0 fun _ _ _ _ _ _ _ q => sub_int q
theorem unI {f : Value → Sem Value} {g : Int → Int}
    (rule : ∀ (i : Int) (t : Tok) (s : Shared) (Q : Value → Shared → Prop) (E : Value → Shared → Prop), Q (.int (g i) s.toks) { s with toks := s.toks + 1 } → wpAny (model X.prog X.w) X.A (f (.int i t)) Q E s) :
    UnR X f (rU fun i => .int (g i)) := by
  intro pins s σ H x v Q I rx h
  obtain ⟨i, rfl, q⟩ := h
  obtain ⟨t, rfl⟩ := rx
  exact rule i t s _ _ ⟨.int (g i), H, I.tok _, ⟨_, rfl⟩, q⟩
theorem un_neg : UnR X (unaryOp .USub) (rU fun i => .int (-i)) := unI fun _ _ _ _ _ q => neg_int q
end
def scal : V → V → Bool
  | .non, .non => true | .non, .int _ => true | .int _, .non => true | .non, .bl _ => true | .bl _, .non => true | .non, .str _ => true | .str _, .non => true
  | .int _, .int _ => true | .bl _, .bl _ => true | .str _, .str _ => true | .byt _, .byt _ => true
  | .int _, .str _ => true | .str _, .int _ => true | .bl _, .str _ => true | .str _, .bl _ => true
  | _, _ => false
def rEq : R2 := fun x y H Q => scal x y = true ∧ Q (.bl (decide (x = y))) H
def rNe : R2 := fun x y H Q => scal x y = true ∧ Q (.bl (!decide (x = y))) H
theorem dec_int {i j : Int} : decide (V.int i = V.int j) = (i == j) := by
  rw [Bool.eq_iff_iff]
  simp
theorem dec_bl {i j : Bool} : decide (V.bl i = V.bl j) = (i == j) := by
  rw [Bool.eq_iff_iff]
  simp
theorem dec_str {i j : Str} : decide (V.str i = V.str j) = (i == j) := by
  rw [Bool.eq_iff_iff]
  simp
theorem dec_byt {i j : Array UInt8} : decide (V.byt i = V.byt j) = (i.toList == j.toList) := by
  rw [Bool.eq_iff_iff]
  cases i
  cases j
  simp
section
variable {X : Cx} {a b c : Expr} {ta tb tc : TE} {pos : Pos}
theorem fin_bl {pins : List (Addr × Obj)} {σ : St} {H : Hp} {s : Shared} {Q : VK} {k k' : Bool} (I : Inv X pins σ H s) (q : Q (.bl k) H) (e : k = k') : EP X pins σ Q (.bool k') s := by
  subst e
  exact ⟨.bl k, H, I, rfl, q⟩
theorem op_eq : OpR X (compareOp .Eq) rEq := by
  intro pins s σ H x y v u Q I rx ry h
  obtain ⟨hs, q⟩ := h
  cases x with
  | non =>
    cases rx
    cases y with
    | non => cases ry; exact PySem.EqNone.eq_none_none (fin_bl I q (by simp))
    | bl j => cases ry; exact PySem.EqNone.eq_none_bool (fin_bl I q (by simp))
    | int j => obtain ⟨t', rfl⟩ := ry; exact PySem.EqNone.eq_none_int (fin_bl I q (by simp))
    | str j => obtain ⟨t', rfl⟩ := ry; exact PySem.EqNone.eq_none_str (fin_bl I q (by simp))
    | _ => exact absurd (show false = true from hs) Bool.false_ne_true
  | bl i =>
    cases rx
    cases y with
    | non => cases ry; exact PySem.EqNone.eq_bool_none (fin_bl I q (by simp))
    | bl j => cases ry; exact eq_bool (fin_bl I q dec_bl)
    | str j => obtain ⟨t', rfl⟩ := ry; exact PySem.EqMixed.eq_bool_str (fin_bl I q (by simp))
    | _ => exact absurd (show false = true from hs) Bool.false_ne_true
  | int i =>
    obtain ⟨t, rfl⟩ := rx
    cases y with
    | non => cases ry; exact PySem.EqNone.eq_int_none (fin_bl I q (by simp))
    | int j => obtain ⟨t', rfl⟩ := ry; exact eq_int (fin_bl I q dec_int)
    | str j => obtain ⟨t', rfl⟩ := ry; exact PySem.EqMixed.eq_int_str (fin_bl I q (by simp))
    | _ => exact absurd (show false = true from hs) Bool.false_ne_true
  | str i =>
    obtain ⟨t, rfl⟩ := rx
    cases y with
    | non => cases ry; exact PySem.EqNone.eq_str_none (fin_bl I q (by simp))
    | bl j => cases ry; exact PySem.EqMixed.eq_str_bool (fin_bl I q (by simp))
    | int j => obtain ⟨t', rfl⟩ := ry; exact PySem.EqMixed.eq_str_int (fin_bl I q (by simp))
    | str j => obtain ⟨t', rfl⟩ := ry; exact eq_str (fin_bl I q dec_str)
    | _ => exact absurd (show false = true from hs) Bool.false_ne_true
  | byt i =>
    obtain ⟨t, rfl⟩ := rx
    cases y with
    | byt j => obtain ⟨t', rfl⟩ := ry; exact PySem.W.eq_bytes (fin_bl I q dec_byt)
    | _ => exact absurd (show false = true from hs) Bool.false_ne_true
  | _ => cases y <;> exact absurd (show false = true from hs) Bool.false_ne_true
theorem op_ne : OpR X (compareOp .NotEq) rNe := by
  intro pins s σ H x y v u Q I rx ry h
  obtain ⟨hs, q⟩ := h
  cases x with
  | non =>
    cases rx
    cases y with
    | non => cases ry; exact PySem.EqNone.ne_none_none (fin_bl I q (by simp))
    | bl j => cases ry; exact PySem.EqNone.ne_none_bool (fin_bl I q (by simp))
    | int j => obtain ⟨t', rfl⟩ := ry; exact PySem.EqNone.ne_none_int (fin_bl I q (by simp))
    | str j => obtain ⟨t', rfl⟩ := ry; exact PySem.EqNone.ne_none_str (fin_bl I q (by simp))
    | _ => exact absurd (show false = true from hs) Bool.false_ne_true
  | bl i =>
    cases rx
    cases y with
    | non => cases ry; exact PySem.EqNone.ne_bool_none (fin_bl I q (by simp))
    | bl j => cases ry; exact ne_bool (fin_bl I q (congrArg not dec_bl))
    | str j => obtain ⟨t', rfl⟩ := ry; exact PySem.EqMixed.ne_bool_str (fin_bl I q (by simp))
    | _ => exact absurd (show false = true from hs) Bool.false_ne_true
  | int i =>
    obtain ⟨t, rfl⟩ := rx
    cases y with
    | non => cases ry; exact PySem.EqNone.ne_int_none (fin_bl I q (by simp))
    | int j => obtain ⟨t', rfl⟩ := ry; exact ne_int (fin_bl I q (congrArg not dec_int))
    | str j => obtain ⟨t', rfl⟩ := ry; exact PySem.EqMixed.ne_int_str (fin_bl I q (by simp))
    | _ => exact absurd (show false = true from hs) Bool.false_ne_true
  | str i =>
    obtain ⟨t, rfl⟩ := rx
    cases y with
    | non => cases ry; exact PySem.EqNone.ne_str_none (fin_bl I q (by simp))
    | bl j => cases ry; exact PySem.EqMixed.ne_str_bool (fin_bl I q (by simp))
    | int j => obtain ⟨t', rfl⟩ := ry; exact PySem.EqMixed.ne_str_int (fin_bl I q (by simp))
    | str j => obtain ⟨t', rfl⟩ := ry; exact ne_str (fin_bl I q (congrArg not dec_str))
    | _ => exact absurd (show false = true from hs) Bool.false_ne_true
  | byt i =>
    obtain ⟨t, rfl⟩ := rx
    cases y with
    | byt j => obtain ⟨t', rfl⟩ := ry; exact PySem.W.ne_bytes (fin_bl I q (congrArg not dec_byt))
    | _ => exact absurd (show false = true from hs) Bool.false_ne_true
  | _ => cases y <;> exact absurd (show false = true from hs) Bool.false_ne_true
theorem op_lt : OpR X (compareOp .Lt) (rI0 fun i j => .bl (decide (i < j))) := opB0 fun _ _ _ _ _ _ _ q => lt_int q
theorem op_le : OpR X (compareOp .LtE) (rI0 fun i j => .bl (decide (i ≤ j))) := opB0 fun _ _ _ _ _ _ _ q => le_int q
theorem op_gt : OpR X (compareOp .Gt) (rI0 fun i j => .bl (decide (j < i))) := opB0 fun _ _ _ _ _ _ _ q => gt_int q
theorem nomark (b : Expr) {op : CmpOp} (h : op ≠ .In := by decide) (h2 : op ≠ .NotIn := by decide) : behindInMarks op b = false := by
  have e1 : (op == CmpOp.In) = false := by cases op <;> first | rfl | exact absurd rfl h
  have e2 : (op == CmpOp.NotIn) = false := by cases op <;> first | rfl | exact absurd rfl h2
  cases b <;> simp [behindInMarks, e1, e2]
theorem pe_cmpR {op : CmpOp} {r : R2} (ho : OpR X (compareOp op) r) (ha : PE X a ta) (hb : PE X b tb) (hm : behindInMarks op b = false) : PE X (.Compare a [op] [b] pos) (tOp r ta tb) := by
  intro pins s σ H Q I h
  exact wpAny_Compare1 (binT ha hb I h fun v u s2 x y H2 I2 rx ry q => ho pins s2 σ H2 x y v u Q I2 rx ry q) hm
def tTest (t : TE) : TT := fun σ H Q => t σ H fun x H' => ∃ k, x = .bl k ∧ Q k H'
theorem pt_cmpR {op : CmpOp} {r : R2} (ho : OpR X (compareOp op) r) (ha : PE X a ta) (hb : PE X b tb) (hm : behindInMarks op b = false) : PT X (.Compare a [op] [b] pos) (tTest (tOp r ta tb)) := by
  intro pins s σ H Q I h
  refine wpAny_isTrue_Compare1 (thn (ha pins s σ H _ I h) fun v s1 ⟨x, H1, I1, r1, q1⟩ => thn (hb pins s1 σ H1 _ I1 q1) fun u s2 ⟨y, H2, I2, r2, q2⟩ =>
    thn (ho pins s2 σ H2 x y v u _ I2 r1 r2 q2) fun c s3 ⟨z, H3, I3, r3, k, e, q3⟩ => ?_) hm
  subst e
  cases r3
  exact wpAny_truthy_bool ⟨H3, I3, q3⟩
def tChain (r r' : R2) (ta tb tc : TE) : TE := fun σ H Q => ta σ H fun x H1 => tb σ H1 fun y H2 => r x y H2 fun z H3 => ∃ k, z = .bl k ∧
  (if k = true then tc σ H3 fun w' H4 => r' y w' H4 Q else Q (.bl false) H3)
theorem pe_chain {op op' : CmpOp} {r r' : R2} (ho : OpR X (compareOp op) r) (ho' : OpR X (compareOp op') r') (ha : PE X a ta) (hb : PE X b tb) (hc : PE X c tc)
    (hm : lastMarks [op, op'] [b, c] = false := by with_unfolding_all rfl) : PE X (.Compare a [op, op'] [b, c] pos) (tChain r r' ta tb tc) := by
  intro pins s σ H Q I h
  refine Compare_chain (thn (ha pins s σ H _ I h) fun v s1 ⟨x, H1, I1, r1, q1⟩ => chain_link (thn (hb pins s1 σ H1 _ I1 q1) fun u s2 ⟨y, H2, I2, r2, q2⟩ =>
    thn (ho pins s2 σ H2 x y v u _ I2 r1 r2 q2) fun d s3 ⟨z, H3, I3, r3, k, e, q3⟩ => ?_)) hm
  subst e
  cases r3
  refine wpAny_truthy_bool ?_
  cases k with
  | false => exact ite_ff ⟨.bl false, H3, I3, rfl, q3⟩
  | true => exact ite_tt (chain_last (thn (hc pins s3 σ H3 _ I3 q3) fun w' s4 ⟨z', H4, I4, r4, q4⟩ => ho' pins s4 σ H4 y z' u w' Q I4 r2 r4 q4))
def TruV (K : PySem.W.Frag) (x : V) (H : Hp) (k : Bool) : Prop :=
  match x with
  | .non => k = false
  | .bl b => k = b
  | .int i => k = (i != 0)
  | .str y => y.length ≤ sizeLine ∧ k = ((y.length : Int) != 0)
  | .byt y => y.size ≤ sizeLine ∧ k = ((y.size : Int) != 0)
  | .ref p => (∃ xs, SqL K H p xs ∧ k = !xs.isEmpty) ∨ (∃ xs, SqT K H p xs ∧ k = !xs.isEmpty) ∨ ∃ kvs, H p = some (.dK kvs) ∧ k = !kvs.isEmpty
  | _ => False
theorem isEmpty_kv {κ : Type} {kvs : List (κ × V)} {vs : List (κ × Value)} (r : KV kvs vs) : (!vs.isEmpty) = !kvs.isEmpty := by
  cases r <;> rfl
theorem isEmpty_of {xs : List V} {its : List Value} (r : Vals xs its) : (!its.toArray.isEmpty) = !xs.isEmpty := by
  cases r <;> simp
theorem line63 : (sizeLine : Nat) < 2 ^ 63 := by rw [sizeLine_eq]; decide
theorem tru_ok : TruR X (fun x H Q => ∃ k, TruV X.K x H k ∧ Q k H) := by
  intro pins s σ H x v Q I rx h
  obtain ⟨k, e, q⟩ := h
  have hl := line63
  have hs : sizeLine = 16777216 := sizeLine_eq
  cases x with
  | non =>
    cases rx
    have e' : k = false := e
    subst e'
    exact truthy_none ⟨H, I, q⟩
  | bl b =>
    cases rx
    have e' : k = b := e
    subst e'
    exact wpAny_truthy_bool ⟨H, I, q⟩
  | int i =>
    obtain ⟨t, rfl⟩ := rx
    have e' : k = (i != 0) := e
    subst e'
    exact PySem.P.truthy_int ⟨H, I, q⟩
  | str y =>
    obtain ⟨t, rfl⟩ := rx
    obtain ⟨hy, e'⟩ : y.length ≤ sizeLine ∧ k = ((y.length : Int) != 0) := e
    subst e'
    exact PySem.P.truthy_str (by omega) ⟨H, I.tok _, q⟩
  | byt y =>
    obtain ⟨t, rfl⟩ := rx
    obtain ⟨hy, e'⟩ : y.size ≤ sizeLine ∧ k = ((y.size : Int) != 0) := e
    subst e'
    exact PySem.W.truthy_bytes (by omega) ⟨H, I.tok _, q⟩
  | ref p =>
    cases rx
    have e' : (∃ xs, SqL X.K H p xs ∧ k = !xs.isEmpty) ∨ (∃ xs, SqT X.K H p xs ∧ k = !xs.isEmpty) ∨ ∃ kvs, H p = some (.dK kvs) ∧ k = !kvs.isEmpty := e
    rcases e' with ⟨xs, hx, e'⟩ | ⟨xs, hx, e'⟩ | ⟨kvs, hx, e'⟩
    · subst e'
      obtain ⟨its, r, pl, hz⟩ := I.list hx
      have hlen := r.length
      exact wpAny_truthy_list pl.isList (by simp only [List.size_toArray]; omega) ⟨H, I.tok _, by rw [isEmpty_of r]; exact q⟩
    · subst e'
      obtain ⟨its, r, pl, hz⟩ := I.tuple hx
      have hlen := r.length
      exact truthy_tuple pl (by simp only [List.size_toArray]; omega) ⟨H, I.tok _, by rw [isEmpty_of r]; exact q⟩
    · subst e'
      obtain ⟨hz, hS, vs, r, m⟩ : kvs.length ≤ sizeLine ∧ (p == sysModules) = false ∧ ∃ vs, KV kvs vs ∧ s.heap.DictOf (mixKind X.prog X.w) p vs := I.hok p _ hx
      have hlen : kvs.length = vs.length := Paired.length r
      exact wpAny_truthy_dict hS m (by omega) ⟨H, I.tok _, by rw [isEmpty_kv r]; exact q⟩
  | _ => exact (show False from e).elim
theorem pt_truth (ha : PE X a ta) (he : ∀ whole, isTrue a X.env whole = (do let v ← whole; standAt a.pos; holding [v] (truthy v))) :
    PT X a (fun σ H Q => ta σ H fun x H' => ∃ k, TruV X.K x H' k ∧ Q k H') := by
  intro pins s σ H Q I h
  exact isTrue_plain (thn (ha pins s σ H _ I h) fun v s1 ⟨x, H1, I1, r1, q1⟩ => tru_ok pins s1 σ H1 x v Q I1 r1 q1) (he _)
theorem vals1 {x : V} {us : List Value} (r : Vals [x] us) : ∃ u, us = [u] ∧ RelV x u := by
  cases r with
  | cons r1 r2 => cases r2; exact ⟨_, rfl, r1⟩
end
end L2
namespace L2
open PySem PySem.Spec PyProof.Rows
structure ObjM (h : Heap) (x dx C : Addr) (mA : Str → Option Value) : Prop where
  obj : h.get? x = some (PySem.W.instObj C dx)
  ns : h.Ns1 dx mA
  ne : dx ≠ x
theorem lookIn_ns {h : Heap} {dx : Addr} {mA : Str → Option Value} (n : h.Ns1 dx mA) : ∃ od, h.get? dx = some od ∧ ∀ name, PySem.W.lookIn name od = some (mA name) := by
  obtain ⟨o, es, ep, ho, hd, hk, _, hm⟩ := n
  refine ⟨o, ho, fun name => ?_⟩
  have e := hm name
  unfold nsFind findBy at e
  rw [← Array.find?_toList] at e
  unfold PySem.W.lookIn
  rw [hd]
  dsimp only
  split
  · rename_i y q
    rw [q] at e
    exact congrArg some e
  · rename_i q
    rw [q] at e
    have a : es.toList.any (·.refKey) = false := by
      rw [List.any_eq_false]
      intro y hy
      obtain ⟨z, t, hkey⟩ := hk y (Array.mem_toList_iff.mp hy)
      simp [DictEntry.refKey, hkey]
    have a' : ¬ es.toList.any (·.refKey) = true := by rw [a]; exact Bool.false_ne_true
    rw [if_neg a']
    exact congrArg some e
theorem ObjM.look {h : Heap} {x dx C : Addr} {mA : Str → Option Value} (I : ObjM h x dx C mA) : ∃ od, PySem.W.InstAt h x (PySem.W.instObj C dx) C (some od) ∧ ∀ name, PySem.W.lookIn name od = some (mA name) :=
  let ⟨od, ho, hl⟩ := lookIn_ns I.ns
  ⟨od, ⟨I.obj, rfl, rfl, ho⟩, hl⟩
section
variable {prog : Program} {w : World} {A : Around} {E : Value → Shared → Prop} {s : Shared} {K : PySem.W.Frag} {x dx C f : Addr} {mA : Str → Option Value} {name : Str} {v : Value}
theorem get_map {expr : Bool} {Q : Value → Shared → Prop} (X : K.In s.heap) (I : ObjM s.heap x dx C mA) (hg : PySem.W.plainGet K C name = true) (hh : PySem.W.hasDictIn K C = true)
    (ha : PySem.W.findIn K (.ref C) name = some none) (hv : mA name = some v) (hv' : PySem.W.handedIn v = true) (h : Q v { s with toks := s.toks + 1 }) :
    wpAny (model prog w) A (getAttr (.ref x) name expr) Q E s := by
  obtain ⟨od, J, hl⟩ := I.look
  exact PySem.W.get_value X J (PySem.W.plainGet_of hg).1 (PySem.W.findObj_own hh ha rfl (by rw [hl, hv])) hv' h
theorem set_map {ns : List Str} {Q : Unit → Shared → Prop} (X : K.In s.heap) (I : ObjM s.heap x dx C mA)
    (hs : PySem.W.findIn K (.ref C) "__setattr__" = some (some (.builtin "object.__setattr__"))) (hp : PySem.W.plainOver K C = true) (ht : PySem.W.takerIn K C name = some none) (hh : PySem.W.hasDictIn K C = true)
    (hw : PySem.Within mA ns) (hsz : ns.length ≤ sizeLine)
    (h : ∀ h', ObjM h' x dx C (fun y => if y = name then some v else mA y) → Heap.SameBut dx s.heap h' → Q () { s with heap := h', toks := s.toks + 2 }) :
    wpAny (model prog w) A (setAttr (.ref x) name v) Q E s := by
  obtain ⟨od, J, hl⟩ := I.look
  refine PySem.W.set_plain X J hs (PySem.W.osa_open (s := { s with toks := s.toks + 1 }) (r := none) X J hp ht fun b => ?_)
  obtain ⟨cd, hc, hd'⟩ := PySem.W.any_some hh
  have hx : s.heap.get? x = some ⟨.ref C, some dx, .plain, #[]⟩ := I.obj
  refine wpAny_bind (wpAny_pure (wpAny_bind (wpAny_bind (wpAny_loadPart hx (wpAny_bind (PySem.W.Looks.here (s := { s with toks := s.toks + 1 }) (PySem.W.looks_clsIn X hc) ?_))))))
  rw [hd']
  refine wpAny_pure (a := some dx) (wpAny_bind (wpAny_pure (wpAny_bind ?_)))
  refine wpAny_nsSet1 (s := { s with toks := s.toks + 1 }) I.ns fun h' hn2 hs2 => ?_
  obtain ⟨oD, esD, epD, hoD, hdD, hcD⟩ := hn2.count (PySem.Within.cons name v hw)
  refine wpAny_bind (wpAny_lookBehind hoD (by rw [hdD]; exact pastItsLine_dict (Nat.le_trans hcD (by rw [List.length_cons]; omega))) ?_)
  exact wpAny_pure (h _ ⟨(hs2.2 _ (Ne.symm I.ne)).trans I.obj, hn2, I.ne⟩ hs2)
theorem make_map {R : Result → Shared → Prop} {vs : List Value} {kw : List (Str × Value)} (X : K.In s.heap) (hm : PySem.W.makesIn K C = true)
    (hi : PySem.W.findIn K (.ref C) "__init__" = some (some (.ref f))) (hf : PySem.W.typeIn K (.ref f) = some (.type "function"))
    (h : codeAny (model prog w) (A.under (.builtin "type.__call__" ⟨.ref C :: vs, kw⟩)) (.call (.ref f) ⟨.ref (s.heap.objs.size + 1) :: vs, kw⟩) (PySem.W.InitBack (s.heap.objs.size + 1) R)
      { s with heap := (s.heap.push PySem.W.emptyDict).push (PySem.W.instObj C s.heap.objs.size) }) :
    codeAny (model prog w) A (.call (.ref C) ⟨vs, kw⟩) R s := by
  obtain ⟨hh, g, d, t, os⟩ := s
  exact PySem.W.make_core (PySem.W.makes_of X hm) (PySem.W.looks_findIn X hi) (fun self => PySem.W.bind_fn X self hf) (.inl rfl) h
end
def putF (f : Str) (v : V) : List (Str × V) → List (Str × V)
  | [] => [(f, v)]
  | (g, x) :: r => if g = f then (g, v) :: r else (g, x) :: putF f v r
theorem lookup_putF (f g : Str) (v : V) : ∀ fs : List (Str × V), (putF f v fs).lookup g = if g = f then some v else fs.lookup g
  | [] => by
    show List.lookup g [(f, v)] = _
    by_cases h : g = f
    · have hb : (g == f) = true := beq_iff_eq.mpr h
      simp only [List.lookup, hb, if_pos h]
    · have hb : (g == f) = false := beq_eq_false_iff_ne.mpr h
      simp only [List.lookup, hb, if_neg h]
  | (k, x) :: r => by
    have ih := lookup_putF f g v r
    rw [show putF f v ((k, x) :: r) = (if k = f then (k, v) :: r else (k, x) :: putF f v r) from rfl]
    by_cases hk : k = f
    · rw [if_pos hk]
      by_cases h : g = k
      · have hb : (g == k) = true := beq_iff_eq.mpr h
        simp only [List.lookup, hb, if_pos (h.trans hk)]
      · have hb : (g == k) = false := beq_eq_false_iff_ne.mpr h
        simp only [List.lookup, hb, if_neg (fun e : g = f => h (e.trans hk.symm))]
    · rw [if_neg hk]
      by_cases h : g = k
      · have hb : (g == k) = true := beq_iff_eq.mpr h
        simp only [List.lookup, hb, if_neg (fun e : g = f => hk (h.symm.trans e))]
      · have hb : (g == k) = false := beq_eq_false_iff_ne.mpr h
        simp only [List.lookup, hb]
        exact ih
theorem keys_putF (f : Str) (v : V) : ∀ fs : List (Str × V), f ∈ (putF f v fs).map (·.1) ∧ ∀ g, g ∈ fs.map (·.1) → g ∈ (putF f v fs).map (·.1)
  | [] => ⟨by simp [putF], fun g h => by simp at h⟩
  | (k, x) :: r => by
    obtain ⟨i1, i2⟩ := keys_putF f v r
    rw [show putF f v ((k, x) :: r) = (if k = f then (k, v) :: r else (k, x) :: putF f v r) from rfl]
    by_cases hk : k = f
    · rw [if_pos hk]
      subst hk
      exact ⟨by simp, fun g h => by simpa using h⟩
    · rw [if_neg hk]
      refine ⟨?_, fun g h => ?_⟩
      · rw [List.map_cons]
        exact List.mem_cons_of_mem _ i1
      · rw [List.map_cons] at h ⊢
        rcases List.mem_cons.mp h with e | e
        · exact List.mem_cons.mpr (.inl e)
        · exact List.mem_cons_of_mem _ (i2 g e)
theorem length_putF (f : Str) (v : V) : ∀ fs : List (Str × V), (putF f v fs).length ≤ fs.length + 1
  | [] => by simp [putF]
  | (k, x) :: r => by
    have ih := length_putF f v r
    rw [show putF f v ((k, x) :: r) = (if k = f then (k, v) :: r else (k, x) :: putF f v r) from rfl]
    by_cases hk : k = f
    · rw [if_pos hk, List.length_cons, List.length_cons]; omega
    · rw [if_neg hk, List.length_cons, List.length_cons]; omega
theorem RelO.some_of {v : V} {o : Option Value} (r : RelO (some v) o) : ∃ u, o = some u ∧ RelV v u := by
  cases o with
  | none => exact (show False from r).elim
  | some u => exact ⟨u, rfl, r⟩
theorem handed_of {v : V} {u : Value} (r : RelV v u) : PySem.W.handedIn u = true := by
  cases v with
  | non => cases (show u = Value.none from r); rfl
  | bl b => cases (show u = Value.bool b from r); rfl
  | int i => obtain ⟨t, e⟩ := (show ∃ t, u = Value.int i t from r); cases e; rfl
  | str x => obtain ⟨t, e⟩ := (show ∃ t, u = Value.str x t from r); cases e; rfl
  | byt b => obtain ⟨t, e⟩ := (show ∃ t, u = Value.bytes b t from r); cases e; rfl
  | flt b => obtain ⟨t, e⟩ := (show ∃ t, u = Value.float b t from r); cases e; rfl
  | ref a => cases (show u = Value.ref a from r); rfl
  | ty n => cases (show u = Value.type n from r); rfl
section
variable {P : Program} {w : World} {H H' : Hp} {h h' : Heap} {a C dx : Addr} {fs fs' : List (Str × V)}
theorem ins_get (hok : HOk P w H h) (e : H a = some (.ins C dx fs)) : ∃ mA, ObjM h a dx C mA ∧ (∀ f, RelO (fs.lookup f) (mA f)) ∧ PySem.Within mA (fs.map (·.1)) ∧ fs.length ≤ 1000 ∧ H dx = some (.own a) := by
  obtain ⟨d, z, ne, ob, mA, n, r, q⟩ := (show ObjOk P w H h a (.ins C dx fs) from hok a _ e)
  exact ⟨mA, ⟨ob, n, ne⟩, r, q, z, d⟩
end
structure Cls (K : PySem.W.Frag) (C : Addr) : Prop where
  pg : PySem.W.plainGet K C Str.empty = true
  hd : PySem.W.hasDictIn K C = true
  po : PySem.W.plainOver K C = true
  sa : PySem.W.findIn K (.ref C) "__setattr__" = some (some (.builtin "object.__setattr__"))
theorem Cls.get {K : PySem.W.Frag} {C : Addr} (c : Cls K C) (f : Str) : PySem.W.plainGet K C f = true := c.pg
def NoAttr (K : PySem.W.Frag) (C : Addr) (f : Str) : Prop := PySem.W.findIn K (.ref C) f = some none
theorem NoAttr.taker {K : PySem.W.Frag} {C : Addr} {f : Str} (n : NoAttr K C f) : PySem.W.takerIn K C f = some none := by
  unfold PySem.W.takerIn
  rw [show PySem.W.findIn K (.ref C) f = some none from n]
  rfl
section
variable {X : Cx} {pins : List (Addr × Obj)} {σ : St} {H : Hp} {s : Shared} {a C dx : Addr} {fs : List (Str × V)} {f : Str} {v : V} {A : Around} {E : Value → Shared → Prop}
theorem getattr_ok {b : Bool} {Q : Value → Shared → Prop} (I : Inv X pins σ H s) (e : H a = some (.ins C dx fs)) (c : Cls X.K C) (n : NoAttr X.K C f) (l : fs.lookup f = some v)
    (h : ∀ u s', Inv X pins σ H s' → RelV v u → Q u s') : wpAny (model X.prog X.w) A (getAttr (.ref a) f b) Q E s := by
  obtain ⟨mA, O, r, _, _, _⟩ := ins_get I.hok e
  obtain ⟨u, hu, ru⟩ := RelO.some_of (v := v) (o := mA f) (by rw [← l]; exact r f)
  exact get_map I.kIn O (c.get f) c.hd n hu (handed_of ru) (h u _ (I.tok _) ru)
theorem setattr_ok {y : V} {u : Value} {Q : Unit → Shared → Prop} (I : Inv X pins σ H s) (e : H a = some (.ins C dx fs)) (c : Cls X.K C) (n : NoAttr X.K C f) (hl : fs.length < 1000) (ry : RelV y u)
    (h : ∀ s', Inv X pins σ (upd H a (.ins C dx (putF f y fs))) s' → Q () s') : wpAny (model X.prog X.w) A (setAttr (.ref a) f u) Q E s := by
  obtain ⟨mA, O, r, wi, _, ho⟩ := ins_get I.hok e
  have hz : (fs.map (·.1)).length ≤ sizeLine := by rw [List.length_map, sizeLine_eq]; omega
  refine set_map I.kIn O c.sa c.po n.taker c.hd wi hz fun h' O' sb => h _ ?_
  have hd : ∃ o, h'.get? dx = some o := let ⟨o, _, _, e', _⟩ := O'.ns; ⟨o, e'⟩
  refine I.write (x := a) (e := dx) (by rw [e]; exact True.intro) (.inr ho) (fun b q hb z => (sb.2 b hb).trans z) hd ?_
  refine ⟨by rw [upd_ne O.ne]; exact ho, ?_, O.ne, O'.obj, _, O'.ns, fun g => ?_, fun g hg => ?_⟩
  · have := length_putF f y fs; omega
  · show RelO ((putF f y fs).lookup g) (if g = f then some u else mA g)
    rw [lookup_putF]
    by_cases q : g = f
    · rw [if_pos q, if_pos q]; exact ry
    · rw [if_neg q, if_neg q]; exact r g
  · by_cases q : g = f
    · rw [q]; exact (keys_putF f y fs).1
    · refine (keys_putF f y fs).2 g (wi g fun z => hg ?_)
      show (if g = f then some u else mA g) = none
      rw [if_neg q]; exact z
theorem Inv.made (I : Inv X pins σ H s) : Inv X pins σ (upd (upd H s.heap.objs.size (.own (s.heap.objs.size + 1))) (s.heap.objs.size + 1) (.ins C s.heap.objs.size []))
    { s with heap := (s.heap.push PySem.W.emptyDict).push (PySem.W.instObj C s.heap.objs.size) } := by
  have e1 : (s.heap.push PySem.W.emptyDict).get? s.heap.objs.size = some PySem.W.emptyDict := Heap.get?_push_size s.heap rfl
  have e2 : ((s.heap.push PySem.W.emptyDict).push (PySem.W.instObj C s.heap.objs.size)).get? (s.heap.objs.size + 1) = some (PySem.W.instObj C s.heap.objs.size) := by
    have := Heap.get?_push_size (s.heap.push PySem.W.emptyDict) (o := PySem.W.instObj C s.heap.objs.size) rfl
    rwa [Heap.size_push] at this
  have e3 : (s.heap.push PySem.W.emptyDict).Ns s.heap.objs.size (fun _ => none) := ⟨PySem.W.emptyDict, #[], _, e1, rfl, (fun e he => absurd he (by simp)), fun _ => rfl⟩
  have I1 := I.laid (a := s.heap.objs.size) (o := .own (s.heap.objs.size + 1)) (h' := s.heap.push PySem.W.emptyDict) (t' := s.toks) (fun b u q => Heap.get?_push_of_some _ q) (Nat.le_refl _) ⟨_, e1⟩
  refine I1.laid (a := s.heap.objs.size + 1) (o := .ins C s.heap.objs.size []) (t' := s.toks) (fun b u q => Heap.get?_push_of_some _ q) (Nat.le_of_eq (Heap.size_push _ _)) ?_
  have ne : s.heap.objs.size ≠ s.heap.objs.size + 1 := Nat.ne_of_lt (Nat.lt_succ_self _)
  refine ⟨by rw [upd_ne ne, upd_same], Nat.zero_le _, ne, e2, fun _ => none, (Heap.Ns1.of_empty e3).at fun o q => Heap.get?_push_of_some _ q, fun _ => True.intro, fun y hy => absurd rfl hy⟩
theorem attr_of {prog : Program} {w : World} {env : Env} {e : Expr} {f : Str} {pos : Pos} {s : Shared} {Q : Value → Shared → Prop} (hb : attributeBase e f env (eval e env) = eval e env)
    (h : wpAny (model prog w) A (eval e env) (fun o s₁ => wpAny (model prog w) A (getAttr o f true) Q E s₁) E s) : wpAny (model prog w) A (eval (.Attribute e f pos) env) Q E s :=
  Attribute_any_ h (by rw [arm_eval_Attribute, hb])
end
def tFld (K : PySem.W.Frag) (ta : TE) (f : Str) : TE := fun σ H Q => ta σ H fun x H1 => ∃ a C dx fs v, x = .ref a ∧ H1 a = some (.ins C dx fs) ∧ Cls K C ∧ NoAttr K C f ∧ fs.lookup f = some v ∧ Q v H1
def sFld (K : PySem.W.Frag) (ta tv : TE) (f : Str) : TS := fun D σ H => tv σ H fun y H1 => ta σ H1 fun x H2 => ∃ a C dx fs, x = .ref a ∧ H2 a = some (.ins C dx fs) ∧ Cls K C ∧ NoAttr K C f ∧ fs.length < 1000 ∧
  D.nx σ (upd H2 a (.ins C dx (putF f y fs)))
def InOp (X : Cx) (op : Operator) (rd : V → V → Hp → VK → Prop) : Prop :=
  ∀ (pins : List (Addr × Obj)) (s : Shared) (σ : St) (H : Hp) (x y : V) (u v : Value) (Q : VK), Inv X pins σ H s → RelV x u → RelV y v → rd x y H Q → wpAny (model X.prog X.w) X.A (inplaceOp op u v) (EP X pins σ Q) X.xe s
def sFldAug (K : PySem.W.Frag) (ta tv : TE) (rd : V → V → Hp → VK → Prop) (f : Str) : TS := fun D σ H => ta σ H fun x H1 => ∃ a C dx fs v, x = .ref a ∧ H1 a = some (.ins C dx fs) ∧ Cls K C ∧ NoAttr K C f ∧ fs.lookup f = some v ∧
  tv σ H1 fun y H2 => rd v y H2 fun z H3 => ∃ dx' fs', H3 a = some (.ins C dx' fs') ∧ fs'.length < 1000 ∧ D.nx σ (upd H3 a (.ins C dx' (putF f z fs')))
section
variable {X : Cx} {o e value : Expr} {f : Str} {pos pos' tpos : Pos} {ta tv : TE}
theorem pe_fld (he : PE X e ta) (hb : attributeBase e f X.env (eval e X.env) = eval e X.env) : PE X (.Attribute e f pos) (tFld X.K ta f) := by
  intro pins s σ H Q I h
  refine attr_of hb (thn (he pins s σ H _ I h) fun u s1 ⟨x, H1, I1, rx, a, C, dx, fs, v, ex, ea, c, n, l, q⟩ => ?_)
  subst ex
  obtain rfl : u = Value.ref a := rx
  exact getattr_ok I1 ea c n l fun u' s2 I2 ru => ⟨v, H1, I2, ru, q⟩
theorem ps_fld (ha : PE X o ta) (hv : PE X value tv) (hs : swapsWith value (some (.Attribute o f pos')) pos.line X.env = pure false) : PS X (.Assign [.Attribute o f pos'] value pos) (sFld X.K ta tv f) := by
  intro pins s σ H D I h
  refine plainObj_wpAny_Assign_Attribute (thn (hv pins s σ H _ I h) fun u s1 ⟨y, H1, I1, ry, q⟩ => thn (ha pins s1 σ H1 _ I1 q) fun ov s2 ⟨x, H2, I2, rx, a, C, dx, fs, ex, ea, c, n, l, q2⟩ => ?_) hs
  subst ex
  obtain rfl : ov = Value.ref a := rx
  exact setattr_ok I2 ea c n l ry fun s3 I3 => ⟨σ, _, I3, q2⟩
theorem ps_fldaug {op : Operator} {rd : V → V → Hp → VK → Prop} (ha : PE X o ta) (hv : PE X value tv) (hop : InOp X op rd) : PS X (.AugAssign (.Attribute o f tpos) op value pos) (sFldAug X.K ta tv rd f) := by
  intro pins s σ H D I h
  refine wpAny_AugAssign_AttributeAny (thn (ha pins s σ H _ I h) fun ov s1 ⟨x, H1, I1, rx, a, C, dx, fs, v, ex, ea, c, n, l, q⟩ => ?_)
  subst ex
  obtain rfl : ov = Value.ref a := rx
  refine getattr_ok I1 ea c n l fun u s2 I2 ru => thn (hv pins s2 σ H1 _ I2 q) fun w3 s3 ⟨y, H2, I3, ry, q3⟩ => thn (hop pins s3 σ H2 v y u w3 _ I3 ru ry q3) fun w4 s4 ⟨z, H3, I4, rz, dx', fs', ea', l', q4⟩ => ?_
  exact setattr_ok I4 ea' c n l' rz fun s5 I5 => ⟨σ, _, I5, q4⟩
def rAdd : V → V → Hp → VK → Prop := fun x y H Q => ∃ i j, x = .int i ∧ y = .int j ∧ Q (.int (i + j)) H
theorem in_add : InOp X .Add rAdd := by
  rintro pins s σ H x y u v Q I rx ry ⟨i, j, rfl, rfl, q⟩
  obtain ⟨t, rfl⟩ := (show ∃ t, u = Value.int i t from rx)
  obtain ⟨t', rfl⟩ := (show ∃ t', v = Value.int j t' from ry)
  exact PyProof.Rows.iadd_int ⟨.int (i + j), H, I.tok _, ⟨_, rfl⟩, q⟩
end
section
variable {X : Cx} {pins : List (Addr × Obj)} {σ : St} {H : Hp} {s : Shared} {A : Around} {E : Value → Shared → Prop} {Q : Value → Shared → Prop} {c : Value} {b : Bool}
end
end L2
namespace L2
open PySem PySem.Spec PyProof.Rows
structure Room (k : Nat) (A : Around) : Prop where
  hd : A.handled = none
  dp : A.depth + 3 * k + 5 < recursionLimit
  un : A.units + 16 * k + 200 < cLine
theorem Room.mono {j k : Nat} {A : Around} (r : Room k A) (h : j ≤ k) : Room j A := ⟨r.hd, by have := r.dp; omega, by have := r.un; omega⟩
theorem Room.deeper {k : Nat} {A : Around} (r : Room (k + 1) A) (env : Env) : Room k (A.deeper env) :=
  ⟨r.hd, by have := r.dp; show A.depth + 1 + 3 * k + 5 < _; omega, by have := r.un; show A.units + 3 + 16 * k + 200 < _; omega⟩
theorem Room.in1 {k : Nat} {A : Around} (r : Room (k + 1) A) : Room k A.in1 :=
  ⟨r.hd, by have := r.dp; show A.depth + 3 * k + 5 < _; omega, by have := r.un; show A.units + 1 + 16 * k + 200 < _; omega⟩
theorem make_depth {A : Around} {C : Addr} {us : List Value} {kw : List (Str × Value)} : (A.under (.builtin "type.__call__" ⟨.ref C :: us, kw⟩)).depth = A.depth + 1 := by
  first | rfl | simp [Around.under, Code.weight, Code.isCreation, Code.isGuard, Code.isCaller, Code.frames, Code.isFrame, guardIds]
theorem make_units {A : Around} {C : Addr} {us : List Value} {kw : List (Str × Value)} : (A.under (.builtin "type.__call__" ⟨.ref C :: us, kw⟩)).units = A.units + 1 := by
  first | rfl | simp [Around.under, Code.cUnits, Code.frames, Code.isFrame]
theorem Room.make {k : Nat} {A : Around} (r : Room (k + 1) A) (C : Addr) (us : List Value) (kw : List (Str × Value)) : Room k (A.under (.builtin "type.__call__" ⟨.ref C :: us, kw⟩)) :=
  ⟨r.hd, by have := r.dp; rw [make_depth]; omega, by have := r.un; rw [make_units]; omega⟩
theorem Room.depth {k : Nat} {A : Around} (r : Room k A) : A.depth < recursionLimit := by have := r.dp; omega
theorem Room.units {k : Nat} {A : Around} (r : Room k A) : A.units + 64 < cLine := by have := r.un; omega
def tNil : TA := fun _ H Q => Q [] H
def tCons (ta : TE) (tr : TA) : TA := fun σ H Q => ta σ H fun x H1 => tr σ H1 fun xs H2 => Q (x :: xs) H2
section
variable {X : Cx} {e : Expr} {es : List Expr} {te : TE} {t : TA} {pos : Pos}
theorem pa_nil : PA X [] tNil := fun _ _ _ _ H Q I h => Calls.spliced_nil ⟨[], H, I, .nil, h⟩
theorem pa_cons (ha : PE X e te) (hr : PA X es t) (hs : starEach (e :: es) X.env = (false, eval e X.env) :: starEach es X.env := by rfl) : PA X (e :: es) (tCons te t) := by
  intro pos pins s σ H Q I h
  rw [hs]
  show wpAny _ _ (spliced ((false, eval e X.env) :: backTo pos (starEach es X.env))) _ _ s
  refine Calls.spliced_cons (thn (ha pins s σ H _ I h) fun u s1 ⟨x, H1, I1, r1, q1⟩ => ?_)
  exact thn (hr pos pins s1 σ H1 _ I1 q1) fun us s2 ⟨xs, H2, I2, r2, q2⟩ => ⟨x :: xs, H2, I2, .cons r1 r2, q2⟩
def tTup (t : TA) : TE := fun σ H Q => t σ H fun xs H1 => xs.length ≤ sizeLine ∧ ∀ p, H1 p = none → Q (.ref p) (upd H1 p (.tup xs))
def tLst (t : TA) : TE := fun σ H Q => t σ H fun xs H1 => xs.length ≤ sizeLine ∧ ∀ p, H1 p = none → Q (.ref p) (upd H1 p (.lst xs))
theorem pe_tup {x1} (h : PA X es t) : PE X (.Tuple es x1 pos) (tTup t) := by
  intro pins s σ H Q I hq
  refine wpAny_Tuple_spliced (thn (h pos pins s σ H _ I hq) fun us s1 ⟨xs, H1, I1, r, z, q⟩ => ⟨by rw [← r.length]; exact z, ?_⟩)
  have hf : H1 s1.heap.objs.size = none := I1.hok.fresh (Nat.le_refl _)
  refine ⟨.ref s1.heap.objs.size, upd H1 s1.heap.objs.size (.tup xs), I1.laid (t' := s1.toks) (fun b u e => Heap.get?_push_of_some _ e) (Nat.le_refl _) ?_, rfl, q _ hf⟩
  exact ⟨z, us, r, ⟨_, Heap.get?_push_size _ rfl, rfl, _, rfl⟩⟩
theorem pe_lst (h : PA X es t) : PE X (.List es pos) (tLst t) := by
  intro pins s σ H Q I hq
  refine wpAny_List_spliced (thn (h pos pins s σ H _ I hq) fun us s1 ⟨xs, H1, I1, r, z, q⟩ => ⟨by rw [← r.length]; exact z, ?_⟩)
  have hf : H1 s1.heap.objs.size = none := I1.hok.fresh (Nat.le_refl _)
  refine ⟨.ref s1.heap.objs.size, upd H1 s1.heap.objs.size (.lst xs), I1.laid (t' := s1.toks) (fun b u e => Heap.get?_push_of_some _ e) (Nat.le_refl _) ?_, rfl, q _ hf⟩
  exact ⟨z, us, 0, r, Heap.get?_push_size _ rfl⟩
end
abbrev Sp := List V → Hp → VK → XK → Prop
abbrev CXT := List Env → Hp → Shared → XK → Value → Shared → Prop
structure Env0 (P : Program) (w : World) (K : PySem.W.Frag) (mg : Str → Option Value) (base : Heap) (A : Around) (outer : List Env) (s : Shared) (H : Hp) : Prop where
  frames : A.frames = some outer
  mod : Mod K mg base
  bs : ∀ b o, base.get? b = some o → s.heap.get? b = some o ∧ H b = none
  bsz : base.objs.size ≤ s.heap.objs.size
  funs : s.heap.FunFrames base outer
  frf : ∀ b ∈ frs outer, H b = none
  hok : HOk P w H s.heap
  bare : AllBare s.gens
def CE (outer : List Env) (P : Program) (w : World) (H : Hp) (s : Shared) (Q : VK) (u : Value) (s' : Shared) : Prop :=
  ∃ v H', s'.os = s.os ∧ AllBare s'.gens ∧ Un (frs outer) [] H H' s.heap s'.heap ∧ HOk P w H' s'.heap ∧ RelV v u ∧ Q v H'
def CR (CX : CXT) (outer : List Env) (P : Program) (w : World) (H : Hp) (s : Shared) (Q : VK) (E : XK) (r : Result) (s' : Shared) : Prop :=
  match r with
  | .ok (.ret u) => CE outer P w H s Q u s'
  | .ok _ => False
  | .error e => CX outer H s E e s'
structure FnOk (P : Program) (w : World) (K : PySem.W.Frag) (mg : Str → Option Value) (base : Heap) (CX : CXT) (k : Nat) (f : Addr) (fd : FuncData) (ps : List Str) (sp : Sp) : Prop where
  len : ∀ vs H Q E, sp vs H Q E → vs.length = ps.length
  run : ∀ (A : Around) (outer : List Env) (s : Shared) (H : Hp) (args : Args) (us : List Value) (vs : List V) (Q : VK) (E : XK), Room k A → Env0 P w K mg base A outer s H → BindsTo s fd args (ps.zip us) → Vals vs us → sp vs H Q E →
    codeAny (model P w) A (.call (.ref f) args) (CR CX outer P w H s Q E) s
theorem FnOk.mono {P : Program} {w : World} {K : PySem.W.Frag} {mg : Str → Option Value} {base : Heap} {CX : CXT} {j k : Nat} {f : Addr} {fd : FuncData} {ps : List Str} {sp : Sp} (F : FnOk P w K mg base CX j f fd ps sp) (h : j ≤ k) :
    FnOk P w K mg base CX k f fd ps sp := ⟨F.len, fun A outer s H args us vs Q E hr => F.run A outer s H args us vs Q E (hr.mono h)⟩
theorem Env0.make {P : Program} {w : World} {K : PySem.W.Frag} {mg : Str → Option Value} {base : Heap} {A : Around} {outer : List Env} {s : Shared} {H : Hp} (e : Env0 P w K mg base A outer s H) (C : Addr) (us : List Value) (kw : List (Str × Value)) :
    Env0 P w K mg base (A.under (.builtin "type.__call__" ⟨.ref C :: us, kw⟩)) outer s H := ⟨by first | exact e.frames | (simpa [Around.under, Code.envs, Code.isFrame, pushEnvs] using e.frames), e.mod, e.bs, e.bsz, e.funs, e.frf, e.hok, e.bare⟩
theorem Env0.in1 {P : Program} {w : World} {K : PySem.W.Frag} {mg : Str → Option Value} {base : Heap} {A : Around} {outer : List Env} {s : Shared} {H : Hp} (e : Env0 P w K mg base A outer s H) :
    Env0 P w K mg base A.in1 outer s H := ⟨e.frames, e.mod, e.bs, e.bsz, e.funs, e.frf, e.hok, e.bare⟩
section
variable {X : Cx} {pins : List (Addr × Obj)} {σ : St} {H : Hp} {s s' : Shared}
theorem Inv.env0 (I : Inv X pins σ H s) : Env0 X.prog X.w X.K X.mg X.base X.A X.stack s H :=
  ⟨I.ok.frames, I.ok.mod, I.bs, Nat.le_trans I.ok.bsz I.sz, I.stack, I.stkFree, I.hok, I.bare⟩
theorem Inv.after {Q : VK} {u : Value} (I : Inv X pins σ H s) (h : CE X.stack X.prog X.w H s Q u s') : EP X pins σ Q u s' := by
  obtain ⟨v, H', os, bare, un, hok, r, q⟩ := h
  obtain ⟨hh, g, d, t, os'⟩ := s'
  obtain rfl : os' = s.os := os
  exact ⟨v, H', I.call (h' := hh) (g' := g) (d' := d) (t' := t) (ch := []) un hok bare (fun b z => absurd z (by simp)), r, q⟩
end
def tCall (sp : Sp) (dvs : List V) (E : XK) (t : TA) : TE := fun σ H Q => t σ H fun vs H1 => sp (vs ++ dvs) H1 Q E
def tMake (C : Addr) (sp : Sp) (dvs : List V) (E : XK) (t : TA) : TE := fun σ H Q => t σ H fun vs H1 => ∀ x dx, H1 x = none → H1 dx = none → dx ≠ x →
  sp (.ref x :: (vs ++ dvs)) (upd (upd H1 dx (.own x)) x (.ins C dx [])) (fun v H2 => v = .non ∧ Q (.ref x) H2) E
def Binds (K : PySem.W.Frag) (fd : FuncData) (ps : List Str) (ds : List Value) : Prop :=
  ∀ (s : Shared) (us : List Value), K.In s.heap → (us ++ ds).length = ps.length → BindsTo s fd ⟨us, []⟩ (ps.zip (us ++ ds))
theorem Binds.all {K : PySem.W.Frag} {fd : FuncData} {ps : List Str} (h : ∀ us : List Value, us.length = ps.length → bindArgs fd ⟨us, []⟩ = pure (ps.zip us)) : Binds K fd ps [] := fun s us _ hl => by
  rw [List.append_nil] at hl ⊢
  exact .of_eq (h us hl)
def Passes (CX : CXT) (X : Cx) (E : XK) : Prop := ∀ (pins : List (Addr × Obj)) (σ : St) (H : Hp) (s : Shared) (e : Value) (s' : Shared), Inv X pins σ H s → CX X.stack H s E e s' → X.xe e s'
section
variable {X : Cx} {CX : CXT} {k : Nat} {f C : Addr} {fd : FuncData} {ps : List Str} {sp : Sp} {dvs : List V} {ds : List Value} {E : XK} {x m : Str} {p pos apos : Pos} {e o : Expr} {es : List Expr} {ta : TE} {t : TA}
theorem run_fn {pins : List (Addr × Obj)} {σ : St} {H : Hp} {s : Shared} {Q : VK} {us : List Value} {vs : List V} (F : FnOk X.prog X.w X.K X.mg X.base CX k f fd ps sp) (hr : Room k X.A) (hb : Binds X.K fd ps ds) (hd : Vals dvs ds) (hx : Passes CX X E)
    (I : Inv X pins σ H s) (r : Vals vs us) (h : sp (vs ++ dvs) H Q E) : wpAny (model X.prog X.w) X.A (call (.ref f) us) (EP X pins σ Q) X.xe s := by
  have r2 : Vals (vs ++ dvs) (us ++ ds) := r.append hd
  have hl : (us ++ ds).length = ps.length := by rw [← r2.length]; exact F.len _ _ _ _ h
  refine wpAny_call (codeAny_mono (F.run X.A X.stack s H ⟨us, []⟩ (us ++ ds) (vs ++ dvs) Q E hr I.env0 (hb s us I.kIn hl) r2 h) fun r s' hq => ?_)
  cases r with
  | error e => exact hx pins σ H s e s' I hq
  | ok fl =>
    cases fl with
    | ret u => exact I.after hq
    | next => exact False.elim hq
    | brk => exact False.elim hq
    | cont => exact False.elim hq
theorem pe_call (F : FnOk X.prog X.w X.K X.mg X.base CX k f fd ps sp) (hr : Room k X.A) (hg : Gl X x) (hm : X.mg x = some (.ref f)) (hk : PySem.W.keepIn X.K (.ref f) = true) (hb : Binds X.K fd ps ds) (hd : Vals dvs ds) (hx : Passes CX X E)
    (ha : PA X (e :: es) t) (hdb : (x == ("__debug__" : Str)) = false := by decide) (he : starEach (e :: es) X.env = (false, eval e X.env) :: starEach es X.env := by rfl) (hpl : (backTo pos (starEach es X.env)).any (·.1) = false := by rfl) :
    PE X (.Call (.Name x p) (e :: es) [] pos) (tCall sp dvs E t) := by
  intro pins s σ H Q I h
  refine wpAny_Call_Name_kw (ld_glob I hg hm ?_ hdb)
  refine PySem.W.callWith_K (h₀ := X.base) I.ok.mod.kin hk (thn (ha pos pins s σ H _ I h) fun us s1 ⟨vs, H1, I1, r, q⟩ => ⟨I1.kIn, ?_⟩) he hpl
  exact run_fn F hr hb hd hx I1 r q
structure Mk (K : PySem.W.Frag) (C f : Addr) : Prop where
  makes : PySem.W.makesIn K C = true
  init : PySem.W.findIn K (.ref C) "__init__" = some (some (.ref f))
  fn : PySem.W.isFn K (.ref f) = true
  kp : PySem.W.keepIn K (.ref C) = true
theorem run_make {pins : List (Addr × Obj)} {σ : St} {H : Hp} {s : Shared} {Q : VK} {us : List Value} {vs : List V} (M : Mk X.K C f) (F : FnOk X.prog X.w X.K X.mg X.base CX k f fd ps sp) (hr : Room (k + 1) X.A) (hb : Binds X.K fd ps ds) (hd : Vals dvs ds)
    (hx : Passes CX X E) (I : Inv X pins σ H s) (r : Vals vs us)
    (h : ∀ x dx, H x = none → H dx = none → dx ≠ x → sp (.ref x :: (vs ++ dvs)) (upd (upd H dx (.own x)) x (.ins C dx [])) (fun v H2 => v = .non ∧ Q (.ref x) H2) E) :
    wpAny (model X.prog X.w) X.A (call (.ref C) us) (EP X pins σ Q) X.xe s := by
  have hq := h (s.heap.objs.size + 1) s.heap.objs.size (I.hok.fresh (Nat.le_succ _)) (I.hok.fresh (Nat.le_refl _)) (Nat.ne_of_lt (Nat.lt_succ_self _))
  have I2 := Inv.made (C := C) I
  have r2 : Vals (V.ref (s.heap.objs.size + 1) :: (vs ++ dvs)) (Value.ref (s.heap.objs.size + 1) :: (us ++ ds)) := .cons rfl (r.append hd)
  have hl : (Value.ref (s.heap.objs.size + 1) :: us ++ ds).length = ps.length := by
    have e := r2.length
    rw [F.len _ _ _ _ hq] at e
    exact e.symm
  refine wpAny_call (make_map (f := f) I.kIn M.makes M.init (beq_iff_eq.mp M.fn) (codeAny_mono (F.run _ X.stack _ _ ⟨Value.ref (s.heap.objs.size + 1) :: us, []⟩ (Value.ref (s.heap.objs.size + 1) :: (us ++ ds)) _ _ E (hr.make C us [])
    (I2.env0.make C us []) (hb _ (Value.ref (s.heap.objs.size + 1) :: us) I2.kIn hl) r2 hq) fun r s' hq' => ?_))
  cases r with
  | error e => exact hx pins σ _ _ e s' I2 hq'
  | ok fl =>
    cases fl with
    | ret u =>
      obtain ⟨v, H', I3, rv, ev, q3⟩ := I2.after hq'
      subst ev
      exact ⟨rv, ⟨V.ref (s.heap.objs.size + 1), H', I3, rfl, q3⟩⟩
    | next => exact False.elim hq'
    | brk => exact False.elim hq'
    | cont => exact False.elim hq'
theorem pe_make (M : Mk X.K C f) (F : FnOk X.prog X.w X.K X.mg X.base CX k f fd ps sp) (hr : Room (k + 1) X.A) (hg : Gl X x) (hm : X.mg x = some (.ref C)) (hb : Binds X.K fd ps ds) (hd : Vals dvs ds) (hx : Passes CX X E)
    (ha : PA X (e :: es) t) (hdb : (x == ("__debug__" : Str)) = false := by decide) (he : starEach (e :: es) X.env = (false, eval e X.env) :: starEach es X.env := by rfl) (hpl : (backTo pos (starEach es X.env)).any (·.1) = false := by rfl) :
    PE X (.Call (.Name x p) (e :: es) [] pos) (tMake C sp dvs E t) := by
  intro pins s σ H Q I h
  refine wpAny_Call_Name_kw (ld_glob I hg hm ?_ hdb)
  refine PySem.W.callWith_K (h₀ := X.base) I.ok.mod.kin M.kp (thn (ha pos pins s σ H _ I h) fun us s1 ⟨vs, H1, I1, r, q⟩ => ⟨I1.kIn, ?_⟩) he hpl
  exact run_make M F hr hb hd hx I1 r q
theorem pe_make0 (M : Mk X.K C f) (F : FnOk X.prog X.w X.K X.mg X.base CX k f fd ps sp) (hr : Room (k + 1) X.A) (hg : Gl X x) (hm : X.mg x = some (.ref C)) (hb : Binds X.K fd ps ds) (hd : Vals dvs ds) (hx : Passes CX X E)
    (hdb : (x == ("__debug__" : Str)) = false := by decide) : PE X (.Call (.Name x p) [] [] pos) (tMake C sp dvs E tNil) := by
  intro pins s σ H Q I h
  refine wpAny_Call_Name_kw (ld_glob I hg hm ?_ hdb)
  exact PySem.W.callWith_K0 I.kIn M.kp (run_make (us := []) M F hr hb hd hx I .nil h)
end
section
variable {X : Cx} {CX : CXT} {k : Nat} {f C : Addr} {fd : FuncData} {ps ks : List Str} {sp : Sp} {E : XK} {x m : Str} {p pos apos kpos : Pos} {e o : Expr} {es : List Expr} {kws : List Keyword} {te ta : TE} {t tk : TA} {nm : Option Str}
variable {g : List Value → List Value → List Value} {gV : List V → List V → List V}
end
structure FnScope (N P : List Str) (sc : Scope) : Prop where
  kind : sc.kind = .function
  co : sc.isCoroutine = false
  gen : sc.isGenerator = false
  nd : N.Nodup
  pre : N.take P.length = P
  par : ∀ x ∈ P, sc.names.lookup x = some .local ∨ sc.names.lookup x = some .cell
  nofree : ∀ y ∈ sc.names, y.2 ≠ .free
theorem bindL_out {kindOf : Str → Option NameKind} {x : Str} : ∀ {binds : List (Str × Value)} {m : Str → Option Value}, (∀ v, (x, v) ∉ binds) → bindL kindOf binds m x = m x
  | [], _, _ => rfl
  | (n, v) :: r, m, h => by
    unfold bindL
    rw [bindL_out fun w hw => h w (List.mem_cons_of_mem _ hw)]
    split
    · have : x ≠ n := by rintro rfl; exact h v List.mem_cons_self
      simp [this]
    · rfl
theorem bindC_out {kindOf : Str → Option NameKind} {x : Str} : ∀ {binds : List (Str × Value)} {m : Str → Option Value}, (∀ v, (x, v) ∉ binds) → bindC kindOf binds m x = m x
  | [], _, _ => rfl
  | (n, v) :: r, m, h => by
    unfold bindC
    rw [bindC_out fun w hw => h w (List.mem_cons_of_mem _ hw)]
    split
    · rfl
    · have : x ≠ n := by rintro rfl; exact h v List.mem_cons_self
      simp [this]
theorem bindL_get {kindOf : Str → Option NameKind} {x : Str} {v : Value} : ∀ {P : List Str} {vs : List Value} {i : Nat} {m : Str → Option Value}, P.Nodup → P[i]? = some x → vs[i]? = some v → kindOf x = some .local →
    bindL kindOf (P.zip vs) m x = some v
  | [], _, _, _, _, h, _, _ => by simp at h
  | _ :: _, [], _, _, _, _, h, _ => by simp at h
  | p :: P, w :: vs, 0, m, nd, h1, h2, hk => by
    simp at h1 h2; subst h1; subst h2
    show bindL kindOf ((p, w) :: P.zip vs) m p = _
    unfold bindL
    rw [bindL_out fun v hv => (List.nodup_cons.mp nd).1 (List.of_mem_zip hv).1, if_pos hk]
    simp
  | p :: P, w :: vs, i + 1, m, nd, h1, h2, hk => by
    show bindL kindOf ((p, w) :: P.zip vs) m x = _
    unfold bindL
    exact bindL_get (i := i) (List.nodup_cons.mp nd).2 (by simpa using h1) (by simpa using h2) hk
theorem bindC_get {kindOf : Str → Option NameKind} {x : Str} {v : Value} : ∀ {P : List Str} {vs : List Value} {i : Nat} {m : Str → Option Value}, P.Nodup → P[i]? = some x → vs[i]? = some v → kindOf x ≠ some .local →
    bindC kindOf (P.zip vs) m x = some v
  | [], _, _, _, _, h, _, _ => by simp at h
  | _ :: _, [], _, _, _, _, h, _ => by simp at h
  | p :: P, w :: vs, 0, m, nd, h1, h2, hk => by
    simp at h1 h2; subst h1; subst h2
    show bindC kindOf ((p, w) :: P.zip vs) m p = _
    unfold bindC
    rw [bindC_out fun v hv => (List.nodup_cons.mp nd).1 (List.of_mem_zip hv).1, if_neg hk]
    simp
  | p :: P, w :: vs, i + 1, m, nd, h1, h2, hk => by
    show bindC kindOf ((p, w) :: P.zip vs) m x = _
    unfold bindC
    exact bindC_get (i := i) (List.nodup_cons.mp nd).2 (by simpa using h1) (by simpa using h2) hk
def start (N : List Str) (vs : List V) : St := vs.map some ++ List.replicate (N.length - vs.length) none
def cxOf (CX : CXT) (P : Program) (w : World) (K : PySem.W.Frag) (mg : Str → Option Value) (base : Heap) (N : List Str) (qual : Str) (scope : Scope) (f : Addr) (cd : Value) (A : Around) (outer : List Env) (s : Shared) (H : Hp) (E : XK) : Cx where
  prog := P
  w := w
  K := K
  mg := mg
  base := base
  A := A.deeper (envOfC qual scope s.heap.objs.size f cd)
  N := N
  s_0 := s
  H_0 := H
  env := envOfC qual scope s.heap.objs.size f cd
  outer := outer
  stack := envOfC qual scope s.heap.objs.size f cd :: outer
  ex := []
  calm := true
  fn := fun _ => true
  pn := []
  xe := fun e s' => wpAny (model P w) (A.deeper (envOfC qual scope s.heap.objs.size f cd)) (leaving (envOfC qual scope s.heap.objs.size f cd) e) (fun _ s'' => CX outer H s E e s'') (fun e' s'' => CX outer H s E e' s'') s'
theorem cell_has {sc : Scope} {n : Nat} {x : Str} (h : sc.names.lookup x = some .cell) : ∃ c, (cellsFrom n sc.names []).lookup x = some c := by
  have q := PySem.W.cellsFrom_some sc.names n [] (.inl h)
  exact Option.isSome_iff_exists.mp q
theorem inv_start {CX : CXT} {P : Program} {w : World} {K : PySem.W.Frag} {mg : Str → Option Value} {base : Heap} {N ps : List Str} {qual : Str} {scope : Scope} {f : Addr} {cd : Value} {A : Around} {outer : List Env} {s s1 : Shared} {H : Hp} {E : XK} {us : List Value} {vs : List V}
    (S : FnScope N ps scope) (hd : A.handled = none) (e0 : Env0 P w K mg base A outer s H) (hl : vs.length = ps.length) (r : Vals vs us)
    (x : InCallC s s.heap.objs.size (bindL (envOfC qual scope s.heap.objs.size f cd).kindOf (ps.zip us) fun _ => none) (cellsFrom (s.heap.objs.size + 1) scope.names []) (bindC (envOfC qual scope s.heap.objs.size f cd).kindOf (ps.zip us) fun _ => none) s1) :
    Inv (cxOf CX P w K mg base N qual scope f cd A outer s H E) [] (start N vs) H s1 := by
  have hpl : ps.length ≤ N.length := by have := congrArg List.length S.pre; rw [List.length_take] at this; omega
  obtain ⟨h1, tk, rfl, hk⟩ := x.done
  have noA : ∀ b : Addr, b ∉ (cxOf CX P w K mg base N qual scope f cd A outer s H E).ex := fun b z => absurd (show b ∈ ([] : List Addr) from z) (by simp)
  refine ⟨⟨e0.mod, S.kind, rfl, rfl, Nat.le_refl _, fun y z c h1 h2 => ?_, fun y hy => ?_, fun y c _ h => ?_, fun _ => hd, Around.frames_deeper e0.frames, .inr ⟨rfl, rfl⟩, fun b z => absurd z (noA b), e0.bs, e0.bsz, fun b _ _ => noA b, fun b z => absurd z (noA b), e0.funs, e0.frf⟩,
    rfl, e0.bare, Un.kept hk, ⟨_, x.toInCall.ns, fun i y v h1 h2 h3 => ?_⟩, fun y c h => ⟨_, x.cell y c h⟩, e0.hok.fresh (Nat.le_refl _), fun y c h => ?_, fun p hp => absurd (show p ∈ ([] : List (Addr × Obj)) from hp) (by simp), e0.hok.kept hk, ?_⟩
  · exact name_of_addr x.apart (PySem.mem_of_lookup h1) (PySem.mem_of_lookup h2)
  · have hy : scope.names.lookup y = some .cell ∨ scope.names.lookup y = some .free := hy
    rcases hy with hy | hy
    · exact cell_has hy
    · exact absurd rfl (S.nofree _ (PySem.mem_of_lookup hy))
  · exact Nat.le_of_lt (x.above y c (PySem.mem_of_lookup h))
  · have hi : i < vs.length := by
      unfold start at h2
      by_cases hi : i < vs.length
      · exact hi
      · rw [List.getElem?_append_right (by simpa using hi)] at h2
        rw [List.getElem?_replicate] at h2
        split at h2 <;> cases h2
    have ha : vs[i]? = some v := by
      unfold start at h2
      rw [List.getElem?_append_left (by simpa using hi), List.getElem?_map] at h2
      cases e : vs[i]? with
      | none => rw [e] at h2; cases h2
      | some a => rw [e] at h2; cases h2; rfl
    obtain ⟨u, hu, rv⟩ := r.get ha
    have hp : ps[i]? = some y := by
      rw [← S.pre, List.getElem?_take_of_lt (by omega)]; exact h1
    have ndP : ps.Nodup := by rw [← S.pre]; exact S.nd.sublist (List.take_sublist _ _)
    refine ⟨u, rv, ?_⟩
    rcases S.par y (List.mem_of_getElem? hp) with k | k
    · exact .inl ⟨k, bindL_get ndP hp hu k⟩
    · obtain ⟨c, e⟩ := cell_has (n := s.heap.objs.size + 1) k
      refine .inr ⟨.inl k, c, e, ?_⟩
      have q := x.cell y c e
      rw [bindC_get ndP hp hu (by show scope.names.lookup y ≠ _; rw [k]; decide)] at q
      exact q
  · exact e0.hok.fresh (Nat.le_of_lt (x.above y c (PySem.mem_of_lookup h)))
  · unfold start
    show _ = N.length
    rw [List.length_append, List.length_map, List.length_replicate]
    omega
theorem fn_of {CX : CXT} {P : Program} {w : World} {K : PySem.W.Frag} {mg : Str → Option Value} {base : Heap} {k : Nat} {f : Addr} {name qual : Str} {params : Arguments} {body : List Stmt} {scope : Scope} {dV kV doc pm cdv ct oc : Value} {an od : Option Addr}
    {osl : Array (Option Value)} {N ps : List Str} {sp : Sp} (lk : K.lookup f = some ⟨oc, od, .func (PySem.W.fnOf name qual params body scope dV kV doc pm an cdv ct), osl⟩) (hcd : PySem.W.codeIn K cdv qual = true) (S : FnScope N ps scope)
    (len : ∀ vs H Q E, sp vs H Q E → vs.length = ps.length)
    (hbody : ∀ (A : Around) (outer : List Env) (s : Shared) (H : Hp) (vs : List V) (Q : VK) (E : XK), Room k (A.deeper (envOfC qual scope s.heap.objs.size f cdv)) → sp vs H Q E →
      ∃ t, PSs (cxOf CX P w K mg base N qual scope f cdv A outer s H E) body t ∧ t { nx := fun _ H' => Q .non H', rt := Q } (start N vs) H) :
    FnOk P w K mg base CX (k + 1) f (PySem.W.fnOf name qual params body scope dV kV doc pm an cdv ct) ps sp := by
  refine ⟨len, fun A outer s H args us vs Q E hr e0 hb r hsp => ?_⟩
  have hl := len _ _ _ _ hsp
  have KX : K.In s.heap := e0.mod.kin.keeps fun b o e => (e0.bs b o e).1
  have lim : s.heap.NoLimit := e0.mod.nolimit.keeps fun b o e => (e0.bs b o e).1
  have hkind : ∀ y ∈ ps.zip us, scope.names.lookup y.1 = some .local ∨ (scope.names.lookup y.1 = some .cell ∧ ((cellsFrom (s.heap.objs.size + 1) scope.names []).lookup y.1).isSome = true) := fun ⟨n, v⟩ hy => by
    rcases S.par n (List.of_mem_zip hy).1 with q | q
    · exact .inl q
    · exact .inr ⟨q, PySem.W.cellsFrom_some _ _ _ (.inl q)⟩
  refine codeAny_call_function hr.depth (KX _ _ lk) rfl S.co S.gen rfl (PySem.W.codeRec_of KX hcd) (hb _ _ _ _ ?_)
  refine wpAny_newFunctionEnv_cells S.kind hkind fun env he s1 x => ?_
  subst he
  refine ⟨lim.keeps x.toInCall.keep, codeAny_func ?_⟩
  obtain ⟨t, ht, hq⟩ := hbody A outer s H vs Q E (hr.deeper _) hsp
  have I : Inv (cxOf CX P w K mg base N qual scope f cdv A outer s H E) [] (start N vs) H s1 := inv_start S hr.hd e0 hl r x
  refine wpAny_mono (ht [] s1 (start N vs) H _ I hq) (fun fl s' hs => ?_) fun e s' hs => hs
  have fin : ∀ {σ' : St} {H' : Hp} {v : V} {u : Value}, Inv (cxOf CX P w K mg base N qual scope f cdv A outer s H E) [] σ' H' s' → RelV v u → Q v H' → CE outer P w H s Q u s' :=
    fun {σ' H' v u} J rv q => ⟨v, H', J.os, J.bare, J.base, J.hok, rv, q⟩
  cases fl with
  | ret u =>
    obtain ⟨v, σ', H', J, rv, q⟩ := hs
    exact fin J rv q
  | next =>
    obtain ⟨σ', H', J, q⟩ := hs
    exact fin (v := V.non) (u := Value.none) J rfl q
  | brk =>
    obtain ⟨_, _, _, q⟩ := hs
    exact False.elim q
  | cont =>
    obtain ⟨_, _, _, q⟩ := hs
    exact False.elim q
end L2
namespace L2
open PySem PySem.Spec PyProof.Rows
section
variable {X : Cx} {x : Str} {p pos : Pos} {e : Expr} {es : List Expr} {t : TA} {id T : String} {r : List V → Hp → VK → Prop}
def tCB (r : List V → Hp → VK → Prop) (t : TA) : TE := fun σ H Q => t σ H fun vs H1 => r vs H1 Q
theorem pe_callB (hc : CallR X (.builtin id) r) (hg : Gl X x) (hm : X.mg x = none) (hv : bootBuiltins x = some (.builtin id)) (ha : PA X (e :: es) t) (hn : x ≠ "__name__" := by decide) (hdb : (x == ("__debug__" : Str)) = false := by decide)
    (he : starEach (e :: es) X.env = (false, eval e X.env) :: starEach es X.env := by rfl) (hpl : (backTo pos (starEach es X.env)).any (·.1) = false := by rfl) : PE X (.Call (.Name x p) (e :: es) [] pos) (tCB r t) := by
  intro pins s σ H Q I h
  refine wpAny_Call_Name_kw (ld_blt I hg hm hv ?_ hn hdb)
  exact PyProof.Rows.callWith_builtin1 (thn (ha pos pins s σ H _ I h) fun us s1 ⟨vs, H1, I1, r1, q1⟩ => hc pins s1 σ H1 vs us Q I1 r1 q1) he hpl
theorem pe_callTy (hc : CallR X (.type T) r) (hg : Gl X x) (hm : X.mg x = none) (hv : bootBuiltins x = some (.type T)) (ha : PA X (e :: es) t) (hn : x ≠ "__name__" := by decide) (hdb : (x == ("__debug__" : Str)) = false := by decide)
    (he : starEach (e :: es) X.env = (false, eval e X.env) :: starEach es X.env := by rfl) (hpl : (backTo pos (starEach es X.env)).any (·.1) = false := by rfl) : PE X (.Call (.Name x p) (e :: es) [] pos) (tCB r t) := by
  intro pins s σ H Q I h
  refine wpAny_Call_Name_kw (ld_blt I hg hm hv ?_ hn hdb)
  exact PyProof.Rows.callWith_type1 (thn (ha pos pins s σ H _ I h) fun us s1 ⟨vs, H1, I1, r1, q1⟩ => hc pins s1 σ H1 vs us Q I1 r1 q1) he hpl
end
end L2
namespace HT
open PySem PyProof.Rows
section
open PySem.SeqAt
open PySem.AutoSeq1 (wpAny_loadPart')
open PySem.MeetsSeq PySem.MeetsSeq2 PySem.MeetsSeq3
end
section
variable {prog : Program} {w : World} {A : Around} {E : Value → Shared → Prop} {s : Shared}
def sIx (n d : Nat) : Option Int → Nat
  | none => d
  | some v => if v < 0 then (v + (n : Int)).toNat else min v.toNat n
theorem sIx_nat (n d k : Nat) : sIx n d (some (k : Int)) = min k n := by
  show (if (k : Int) < 0 then ((k : Int) + (n : Int)).toNat else min (k : Int).toNat n) = min k n
  rw [if_neg (by omega), Int.toNat_natCast]
end
end HT
namespace L2
open PySem PySem.Spec PyProof.Rows
abbrev TO := St → Hp → (Option Int → Hp → Prop) → Prop
def PO (X : Cx) (e : Option Expr) (t : TO) : Prop :=
  ∀ (pins : List (Addr × Obj)) (s : Shared) (σ : St) (H : Hp) (Q : Option Int → Hp → Prop), Inv X pins σ H s → t σ H Q →
    wpAny (model X.prog X.w) X.A (evalPart e X.env) (fun u s' => ∃ o H', Inv X pins σ H' s' ∧ IsPart u o ∧ Q o H') X.xe s
def tPart (t : TE) : TO := fun σ H Q => t σ H fun x H1 => ∃ i, x = .int i ∧ Q (some i) H1
section
variable {X : Cx} {e : Expr} {te : TE} {lo hi : Option Expr} {tl th : TO} {pos p2 : Pos}
theorem po_some (h : PE X e te) : PO X (some e) (tPart te) := by
  intro pins s σ H Q I hw
  rw [evalPart_some]
  refine thn (h pins s σ H _ I hw) fun u s1 ⟨x, H1, I1, r1, q1⟩ => ?_
  obtain ⟨i, rfl, q⟩ := q1
  obtain ⟨t, rfl⟩ := r1
  exact ⟨some i, H1, I1, .int i t, q⟩
def SlR (X : Cx) (r : V → Option Int → Option Int → Hp → VK → Prop) : Prop :=
  ∀ (pins : List (Addr × Obj)) (s : Shared) (σ : St) (H : Hp) (x : V) (v vl vu : Value) (lo hi : Option Int) (sl : Addr) (Q : VK), Inv X pins σ H s → RelV x v → s.heap.IsSliceOf sl vl vu .none → IsPart vl lo → IsPart vu hi → r x lo hi H Q →
    ∃ T id, typeLookup (.type T) "__getitem__" = pure (some (.builtin id)) ∧ s.TypeIs v T ∧ wpAny (model X.prog X.w) X.A (getItem v (.ref sl)) (EP X pins σ Q) X.xe s
def tSl (r : V → Option Int → Option Int → Hp → VK → Prop) (te : TE) (tl th : TO) : TE := fun σ H Q => te σ H fun x H1 => tl σ H1 fun l H2 => th σ H2 fun u H3 => r x l u H3 Q
theorem pe_slice {r : V → Option Int → Option Int → Hp → VK → Prop} (hr : SlR X r) (he : PE X e te) (hl : PO X lo tl) (hu : PO X hi th) : PE X (.Subscript e (.Slice lo hi none p2) pos) (tSl r te tl th) := by
  intro pins s σ H Q I h
  refine Subscript_ (thn (he pins s σ H _ I h) fun v s1 ⟨x, H1, I1, r1, q1⟩ => ?_)
  refine wpAny_Slice (thn (hl pins s1 σ H1 _ I1 q1) fun vl s2 ⟨l, H2, I2, pl, q2⟩ => thn (hu pins s2 σ H2 _ I2 q2) fun vu s3 ⟨u, H3, I3, pu, q3⟩ => ?_)
  rw [evalPart_none]
  refine wpAny_pure ?_
  have I4 : Inv X pins σ H3 { s3 with heap := s3.heap.push { cls := .type "slice", data := .fields #[vl, vu, .none] } } := I3.kept (t' := s3.toks) fun b ob q => Heap.get?_push_of_some _ q
  obtain ⟨T, id, hT, ht, hg⟩ := hr pins { s3 with heap := s3.heap.push { cls := .type "slice", data := .fields #[vl, vu, .none] } } σ H3 x v vl vu l u s3.heap.objs.size Q I4 r1 (Heap.IsSliceOf.new ..) pl pu q3
  show wpAny (model X.prog X.w) X.A (subscriptTail e (.Slice lo hi none p2) v (.ref s3.heap.objs.size)) (EP X pins σ Q) X.xe { s3 with heap := s3.heap.push { cls := .type "slice", data := .fields #[vl, vu, .none] } }
  exact tail_any (ops := [.ref s3.heap.objs.size, v]) ht hT hg (by with_unfolding_all rfl)
def cutV (xs : List V) (lo hi : Option Int) : List V := (xs.drop (HT.sIx xs.length 0 lo)).take (HT.sIx xs.length xs.length hi - HT.sIx xs.length 0 lo)
theorem cutV_length (xs : List V) (lo hi : Option Int) : (cutV xs lo hi).length ≤ xs.length := by
  unfold cutV
  rw [List.length_take, List.length_drop]
  omega
end
end L2
namespace L2
open PySem PySem.Spec PyProof.Rows
def ixN (n : Nat) (i : Int) : Option Nat := if 0 ≤ i then (if i < n then some i.toNat else none) else if -(n : Int) ≤ i then some (i + n).toNat else none
def atI {α : Type} (xs : List α) (i : Int) : Option α := (ixN xs.length i).bind fun j => xs[j]?
theorem ixN_seq {n : Nat} {i : Int} {j : Nat} (h : ixN n i = some j) : seqIndex? i n = some j ∧ j < n ∧ -(n : Int) ≤ i ∧ i < n := by
  unfold ixN at h
  by_cases h0 : 0 ≤ i
  · rw [if_pos h0] at h
    by_cases h1 : i < n
    · rw [if_pos h1] at h
      have e : i.toNat = j := Option.some.inj h
      exact ⟨by rw [seqIndex_of h0 h1, e], by omega, by omega, h1⟩
    · rw [if_neg h1] at h; cases h
  · rw [if_neg h0] at h
    by_cases h1 : -(n : Int) ≤ i
    · rw [if_pos h1] at h
      have e : (i + n).toNat = j := Option.some.inj h
      exact ⟨by rw [seqIndex_neg (by omega) h1, e], by omega, h1, by omega⟩
    · rw [if_neg h1] at h; cases h
theorem atI_get {α : Type} {xs : List α} {i : Int} {v : α} (h : atI xs i = some v) : ∃ j, seqIndex? i xs.length = some j ∧ xs[j]? = some v ∧ j < xs.length ∧ -(xs.length : Int) ≤ i ∧ i < xs.length := by
  unfold atI at h
  cases e : ixN xs.length i with
  | none => rw [e] at h; cases h
  | some j =>
    rw [e] at h
    obtain ⟨h1, h2, h3, h4⟩ := ixN_seq e
    exact ⟨j, h1, h, h2, h3, h4⟩
theorem atI_nat {α : Type} {xs : List α} {j : Nat} {v : α} (h : xs[j]? = some v) : atI xs (j : Int) = some v := by
  have hj : j < xs.length := (List.getElem?_eq_some_iff.mp h).1
  have e : ixN xs.length (j : Int) = some j := by
    unfold ixN
    rw [if_pos (by omega), if_pos (by omega)]; simp
  unfold atI; rw [e]; exact h
def PlainIx (b : Expr) : Prop := ∀ o i, subscripted b false o i = operate [o, i] (getItem o i)
def IxR (X : Cx) (r : R2) : Prop :=
  ∀ (value slice : Expr) (pins : List (Addr × Obj)) (s : Shared) (σ : St) (H : Hp) (x y : V) (v u : Value) (Q : VK), Inv X pins σ H s → RelV x v → RelV y u → r x y H Q →
    subscripted slice false v u = operate [v, u] (getItem v u) → wpAny (model X.prog X.w) X.A (subscriptTail value slice v u) (EP X pins σ Q) X.xe s
def MtR (X : Cx) (id : String) (r : V → List V → Hp → VK → Prop) : Prop :=
  ∀ (pins : List (Addr × Obj)) (s : Shared) (σ : St) (H : Hp) (x : V) (xs : List V) (v : Value) (us : List Value) (Q : VK), Inv X pins σ H s → RelV x v → Vals xs us → r x xs H Q →
    wpAny (model X.prog X.w) X.A (call (.builtin id) (v :: us)) (EP X pins σ Q) X.xe s
section
variable {X : Cx} {a b : Expr} {ta tb : TE} {pos : Pos}
theorem pe_ix {r : R2} (hr : IxR X r) (ha : PE X a ta) (hb : PE X b tb) (hs : PlainIx b) : PE X (.Subscript a b pos) (tOp r ta tb) := by
  intro pins s σ H Q I h
  exact Subscript_ (binT ha hb I h fun v u s2 x y H2 I2 rx ry q => hr a b pins s2 σ H2 x y v u Q I2 rx ry q (hs _ _))
def rIxL (K : PySem.W.Frag) : R2 := fun x y H Q => ∃ p xs i v, x = .ref p ∧ y = .int i ∧ SqL K H p xs ∧ atI xs i = some v ∧ Q v H
def rIxT (K : PySem.W.Frag) : R2 := fun x y H Q => ∃ p xs i v, x = .ref p ∧ y = .int i ∧ SqT K H p xs ∧ atI xs i = some v ∧ Q v H
theorem ix_list : IxR X (rIxL X.K) := by
  intro value slice pins s σ H x y v u Q I rx ry h hs
  obtain ⟨p, xs, i, z, rfl, rfl, hq, he, q⟩ := h
  cases rx
  obtain ⟨t, rfl⟩ := ry
  obtain ⟨its, r, pl, hz⟩ := I.list hq
  obtain ⟨j, h1, h2, h3, h4, h5⟩ := atI_get he
  obtain ⟨w, ew, rw'⟩ := r.get h2
  have hl := r.length
  have hn := line63
  have fin : EP X pins σ Q w s := ⟨z, H, I, rw', q⟩
  by_cases h0 : 0 ≤ i
  · have hj : i.toNat = j := by
      rw [seqIndex_of h0 h5] at h1
      exact Option.some.inj h1
    exact item_listR pl.isList h0 (by omega) (by rw [hj]; simpa using ew) fin hs
  · have hj : (i + (its.toArray.size : Int)).toNat = j := by
      rw [seqIndex_neg (by omega) h4] at h1
      rw [List.size_toArray, ← hl]
      exact Option.some.inj h1
    exact subscriptTail_builtinR (x := w) pl.isList.typeIs slot_list_getitem.lookup
      (wpAny_getItem_list_neg (Q := fun r s' => r = w ∧ EP X pins σ Q r s') pl.isList (by omega) (by rw [List.size_toArray] <;> omega) (by omega) (by rw [hj]; simpa using ew) ⟨rfl, fin⟩) hs
theorem ix_tup : IxR X (rIxT X.K) := by
  intro value slice pins s σ H x y v u Q I rx ry h hs
  obtain ⟨p, xs, i, z, rfl, rfl, hq, he, q⟩ := h
  cases rx
  obtain ⟨t, rfl⟩ := ry
  obtain ⟨its, r, pl, hz⟩ := I.tuple hq
  obtain ⟨j, h1, h2, h3, h4, h5⟩ := atI_get he
  obtain ⟨w, ew, rw'⟩ := r.get h2
  have hl := r.length
  have hn := line63
  have fin : EP X pins σ Q w s := ⟨z, H, I, rw', q⟩
  exact subscriptTail_builtinR (x := w) pl.typeIs slot_tuple_getitem.lookup
    (getItem_tuple (j := j) (Q := fun r s' => r = w ∧ EP X pins σ Q r s') pl (by omega) (by omega) (by rw [List.size_toArray, ← hl]; exact h1) (by simpa using ew) ⟨rfl, fin⟩) hs
theorem slice_bounds (lo hi : Option Int) (n : Nat) : (sliceBounds lo hi none n).1 = ((HT.sIx n 0 lo : Nat) : Int) ∧ (sliceBounds lo hi none n).2.1 = ((HT.sIx n n hi : Nat) : Int) ∧ (sliceBounds lo hi none n).2.2 = 1 := by
  refine ⟨?_, ?_, rfl⟩
  · cases lo with
    | none => simp [sliceBounds, HT.sIx]
    | some i =>
      simp only [sliceBounds, HT.sIx, Option.getD_none, show (1 : Int) > 0 by decide, if_true]
      by_cases h : i < 0
      · simp only [h, if_true] <;> omega
      · simp only [h, if_false] <;> omega
  · cases hi with
    | none => simp [sliceBounds, HT.sIx]
    | some i =>
      simp only [sliceBounds, HT.sIx, Option.getD_none, show (1 : Int) > 0 by decide, if_true]
      by_cases h : i < 0
      · simp only [h, if_true] <;> omega
      · simp only [h, if_false] <;> omega
theorem slicePick_cut (its : List Value) (lo hi : Option Int) : slicePick its.toArray lo hi none = ((its.drop (HT.sIx its.length 0 lo)).take (HT.sIx its.length its.length hi - HT.sIx its.length 0 lo)).toArray := by
  obtain ⟨h1, h2, h3⟩ := slice_bounds lo hi its.toArray.size
  unfold slicePick
  rw [h1, h2, h3]
  simp only [sliceRange_one, pick_run, List.size_toArray] <;> rfl
def rSlL (K : PySem.W.Frag) : V → Option Int → Option Int → Hp → VK → Prop := fun x lo hi H Q => ∃ a xs, x = .ref a ∧ SqL K H a xs ∧ ∀ p, H p = none → Q (.ref p) (upd H p (.lst (cutV xs lo hi)))
theorem sl_list : SlR X (rSlL X.K) := by
  intro pins s σ H x v vl vu lo hi sl Q I rx hs pl pu h
  obtain ⟨a, xs, rfl, hx, q⟩ := h
  cases rx
  obtain ⟨its, r, ht, hz⟩ := I.list hx
  have hlen := r.length
  refine ⟨"list", _, slot_list_getitem.lookup, ht.isList.typeIs, ?_⟩
  refine wpAny_getItem_list_slice ht.isList hs pl pu .none (by simp) ?_ (by rw [List.size_toArray] <;> omega)
  rw [slicePick_cut, ← hlen]
  refine ⟨.ref s.heap.objs.size, _, I.laid (t' := s.toks) (o := .lst (cutV xs lo hi)) (fun b ob q => Heap.get?_push_of_some _ q) (Nat.le_refl _) ?_, rfl, q _ (I.hok.fresh (Nat.le_refl _))⟩
  exact ⟨Nat.le_trans (cutV_length xs lo hi) hz, _, 0, (r.drop (HT.sIx xs.length 0 lo)).take (HT.sIx xs.length xs.length hi - HT.sIx xs.length 0 lo), Heap.get?_push_size _ rfl⟩
theorem call_len_seq : CallR X (.builtin "len") (fun xs H Q => ∃ p ys, xs = [.ref p] ∧ (SqL X.K H p ys ∨ SqT X.K H p ys) ∧ Q (.int ys.length) H) := by
  intro pins s σ H xs us Q I r h
  obtain ⟨p, ys, rfl, hq, q⟩ := h
  obtain ⟨u, rfl, rx⟩ := vals1 r
  cases rx
  have hn := line63
  rcases hq with hq | hq
  · obtain ⟨its, r', pl, hz⟩ := I.list hq
    have hlen := r'.length
    exact Calls.call_len_list pl.isList (by simp only [List.size_toArray] <;> omega) ⟨.int ys.length, H, I.tok _, ⟨s.toks + 1, by rw [List.size_toArray, hlen]⟩, q⟩
  · obtain ⟨its, r', pl, hz⟩ := I.tuple hq
    have hlen := r'.length
    exact len_tuple pl (by simp only [List.size_toArray] <;> omega) ⟨.int ys.length, H, I.tok _, ⟨s.toks + 1, by rw [List.size_toArray, hlen]⟩, q⟩
def tyV (K : PySem.W.Frag) (T : String) (x : V) (H : Hp) : Prop := match x with
  | .str _ => T = "str"
  | .int _ => T = "int"
  | .ref p => (T = "list" ∧ ∃ xs, SqL K H p xs) ∨ (T = "tuple" ∧ ∃ o, K.lookup p = some o ∧ o.cls = .type "tuple" ∧ o.dict = none) ∨
      (T = "dict" ∧ ((∃ kvs, H p = some (.dK kvs)) ∨ ∃ kvs, H p = some (.dT kvs))) ∨ (T = "set" ∧ ∃ S n, H p = some (.set S n))
  | _ => False
theorem tyV_is {pins : List (Addr × Obj)} {σ : St} {H : Hp} {s : Shared} {T : String} {x : V} {v : Value} (I : Inv X pins σ H s) (r : RelV x v) (ty : tyV X.K T x H) :
    s.TypeIs v T ∧ ∀ a, v = .ref a → ∃ ob, s.heap.get? a = some ob ∧ ob.dict = none := by
  cases x with
  | str z =>
    obtain ⟨t, rfl⟩ := r
    cases (show T = "str" from ty)
    exact ⟨typeIs_str s z t, fun _ e => nomatch e⟩
  | int i =>
    obtain ⟨t, rfl⟩ := r
    cases (show T = "int" from ty)
    exact ⟨typeIs_int s i t, fun _ e => nomatch e⟩
  | ref p =>
    cases r
    rcases ty with ⟨rfl, xs, hq⟩ | ⟨rfl, o, hk, hc, hd⟩ | ⟨rfl, hk⟩ | ⟨rfl, S, n, hk⟩
    · obtain ⟨its, _, pl, _⟩ := I.list hq
      refine ⟨pl.isList.typeIs, fun a e => ?_⟩
      cases e
      obtain ⟨o, n, e, c, hd, _⟩ := pl
      exact ⟨o, e, hd⟩
    · refine ⟨⟨o, I.kIn p o hk, hc⟩, fun a e => ?_⟩
      cases e
      exact ⟨o, I.kIn _ o hk, hd⟩
    · have z : ∃ o, s.heap.get? p = some o ∧ o.ExactDict := by
        rcases hk with ⟨kvs, hk⟩ | ⟨kvs, hk⟩
        · obtain ⟨_, _, _, _, o, _, _, e, ex, _⟩ := I.hok p _ hk
          exact ⟨o, e, ex⟩
        · obtain ⟨_, _, _, _, o, _, _, e, ex, _⟩ := I.hok p _ hk
          exact ⟨o, e, ex⟩
      obtain ⟨o, e, ex⟩ := z
      refine ⟨⟨o, e, ex.1⟩, fun a e2 => ?_⟩
      cases e2
      exact ⟨o, e, ex.2.1⟩
    · obtain ⟨o, _, _, _, e, ex, _⟩ := I.hok p _ hk
      refine ⟨⟨o, e, ex.1⟩, fun a e2 => ?_⟩
      cases e2
      exact ⟨o, e, ex.2.1⟩
  | _ => exact False.elim ty
def tBM (K : PySem.W.Frag) (T : String) (r : V → List V → Hp → VK → Prop) (to : TE) (t : TA) : TE := fun σ H Q => to σ H fun x H1 => tyV K T x H1 ∧ t σ H1 fun xs H2 => r x xs H2 Q
variable {o e : Expr} {es : List Expr} {to : TE} {t : TA} {name : Str} {apos cpos : Pos} {T id : String} {r : V → List V → Hp → VK → Prop}
theorem pe_bm (pa : PlainAttrs T) (slot : Slot T name id) (hty : typeOf (.builtin id) = pure (.type "method_descriptor")) (hm : MtR X id r) (ho : PE X o to) (ha : PA X (e :: es) t)
    (hbase : attributeBase o name X.env (eval o X.env) = eval o X.env := by rfl)
    (hfew : ((backTo cpos (starEach (e :: es) X.env)).all (fun x => !x.1) && (backToKw cpos (keywordEach [] X.env)).all (fun x => x.1.isSome)
      && decide ((e :: es).length + ([] : List Keyword).length + (if ([] : List Keyword).isEmpty then 0 else 1) < 30)) = true := by rfl)
    (hline : (apos.endLine == cpos.line) = true := by rfl) (hs : starEach (e :: es) X.env = (false, eval e X.env) :: starEach es X.env := by rfl) (hplain : (backTo cpos (starEach es X.env)).any (·.1) = false := by rfl) :
    PE X (.Call (.Attribute o name apos) (e :: es) [] cpos) (tBM X.K T r to t) := by
  intro pins s σ H Q I h
  refine wpAny_Call_method_late hbase hfew hline rfl (thn (ho pins s σ H _ I h) fun v s1 ⟨x, H1, I1, r1, ty, q1⟩ => ?_)
  obtain ⟨h1, h2⟩ := tyV_is I1 r1 ty
  refine ⟨T, id, pa, slot, hty, h1, h2, ?_⟩
  have hA := ha cpos pins s1 σ H1 _ I1 q1
  rw [hs] at hA ⊢
  refine Calls.callWith_builtin (by show (false || (backTo cpos (starEach es X.env)).any (·.1)) = false; rw [hplain] <;> rfl) (Calls.evalArgs_plain ?_)
  exact thn hA fun us s2 ⟨vs, H2, I2, r2, q2⟩ => hm pins s2 σ H2 x vs v us Q I2 r1 r2 q2
end
end L2
namespace L2
open PySem PySem.Spec PyProof.Rows
def MtM (X : Cx) (id : String) (r : V → List V → Hp → VK → Prop) : Prop :=
  ∀ (pins : List (Addr × Obj)) (s : Shared) (σ : St) (H : Hp) (x : V) (xs : List V) (v : Value) (us : List Value) (Q : VK), Inv X pins σ H s → RelV x v → Vals xs us → r x xs H Q →
    wpAny (model X.prog X.w) X.A (call (.builtin id) (v :: us)) (EP X pins σ Q) X.xe s
theorem Vals.one : ∀ {x : V} {us : List Value}, Vals [x] us → ∃ u, us = [u] ∧ RelV x u
  | _, _, .cons r .nil => ⟨_, rfl, r⟩
section
variable {X : Cx} {pins : List (Addr × Obj)} {σ : St} {H : Hp} {s : Shared} {l b : Addr} {xs ys zs : List V}
theorem Inv.lset {its its' : List Value} {n : Nat} {f : Array Value → Array Value} {t' : Nat} (I : Inv X pins σ H s) (hH : H l = some (.lst xs))
    (e : s.heap.get? l = some { cls := .type "list", data := .seq its.toArray n }) (hf : f its.toArray = its'.toArray) (hv : Vals ys its') (hz : ys.length ≤ sizeLine) :
    Inv X pins σ (upd H l (.lst ys)) { s with heap := s.heap.update l (Obj.mapSeq f), toks := t' } := by
  have q := PySem.IsL.update e f
  rw [hf] at q
  refine I.write (x := l) (e := l) (by rw [hH]; exact trivial) (.inl rfl) (fun b' u hb hu => (Heap.get?_update_other s.heap (Obj.mapSeq f) (Ne.symm hb)).trans hu) ⟨_, q⟩ ?_
  exact ⟨hz, its', _, hv, q⟩
theorem Inv.lnew {its : List Value} {t' : Nat} (I : Inv X pins σ H s) (hv : Vals ys its) (hz : ys.length ≤ sizeLine) :
    Inv X pins σ (upd H s.heap.objs.size (.lst ys)) { s with heap := s.heap.push { cls := .type "list", data := .seq its.toArray }, toks := t' } :=
  I.laid (fun _ _ q => Heap.get?_push_of_some _ q) (Nat.le_refl _) ⟨hz, its, 0, hv, Heap.get?_push_size _ rfl⟩
theorem Inv.fresh (I : Inv X pins σ H s) : H s.heap.objs.size = none := I.hok.fresh (Nat.le_refl _)
theorem Inv.lstM (I : Inv X pins σ H s) (hH : H l = some (.lst xs)) : xs.length ≤ sizeLine ∧ ∃ (its : List Value) (n : Nat), Vals xs its ∧ xs.length = its.length ∧ s.heap.get? l = some { cls := .type "list", data := .seq its.toArray n } := by
  obtain ⟨z, its, n, r, e⟩ := I.hok l _ hH
  exact ⟨z, its, n, r, r.length, e⟩
theorem notLongL {n : Nat} (h : n ≤ sizeLine) : Builtin.List.listTooLong n = false := by
  unfold Builtin.List.listTooLong
  exact decide_eq_false (by omega)
end
section
variable {X : Cx}
def rAppend : V → List V → Hp → VK → Prop := fun x vs H Q => ∃ l xs y, x = .ref l ∧ vs = [y] ∧ H l = some (.lst xs) ∧ xs.length < sizeLine ∧ Q .non (upd H l (.lst (xs ++ [y])))
theorem mt_append : MtM X "list.append" rAppend := by
  intro pins s σ H x vs v us Q I rx rv h
  obtain ⟨l, xs, y, rfl, rfl, hH, hz, q⟩ := h
  cases rx
  obtain ⟨u, rfl, ru⟩ := rv.one
  obtain ⟨z, its, n, r, hl, e⟩ := I.lstM hH
  refine call_meets F.slot_list_append ⟨_, e, rfl⟩ F.entry_list_append (F.args_list_append_2 _ _) (PySem.list_append l its.toArray n u (by rw [List.size_toArray]; omega)) ⟨e, ?_⟩
  refine ⟨.non, _, I.lset (its' := its ++ [u]) hH e (by simp) (r.append (.cons ru .nil)) ?_, rfl, q⟩
  rw [List.length_append, List.length_singleton]
  omega
def rExtend : V → List V → Hp → VK → Prop := fun x vs H Q => ∃ l b xs zs, x = .ref l ∧ vs = [.ref b] ∧ H l = some (.lst xs) ∧ H b = some (.lst zs) ∧ xs.length + zs.length ≤ sizeLine ∧ Q .non (upd H l (.lst (xs ++ zs)))
theorem mt_extend : MtM X "list.extend" rExtend := by
  intro pins s σ H x vs v us Q I rx rv h
  obtain ⟨l, b, xs, zs, rfl, rfl, hH, hB, hz, q⟩ := h
  cases rx
  obtain ⟨u, rfl, ru⟩ := rv.one
  cases ru
  obtain ⟨z, its, n, r, hl, e⟩ := I.lstM hH
  obtain ⟨z2, its2, n2, r2, hl2, e2⟩ := I.lstM hB
  have hsz : its.toArray.size + its2.toArray.size ≤ sizeLine := by rw [List.size_toArray, List.size_toArray]; omega
  have hlong : ¬ (!its.toArray.isEmpty && Builtin.List.listTooLong (its.toArray.size + its2.toArray.size)) = true := by
    rw [notLongL hsz, Bool.and_false]
    exact Bool.false_ne_true
  refine call_meets F.slot_list_extend ⟨_, e, rfl⟩ F.entry_list_extend (F.args_list_extend_2 _ _)
    (AutoSeq1.list_extend_list_list_0 l its.toArray n b its2.toArray n2 hlong (by rw [List.size_toArray]; omega) (by omega)) ⟨e, e2, ?_⟩
  refine ⟨.non, _, I.lset (its' := its ++ its2) hH e (by simp) (r.append r2) ?_, rfl, q⟩
  rw [List.length_append]
  omega
def rCat : R2 := fun x y H Q => ∃ l b xs zs, x = .ref l ∧ y = .ref b ∧ H l = some (.lst xs) ∧ H b = some (.lst zs) ∧ xs.length + zs.length ≤ sizeLine ∧ ∀ p, H p = none → Q (.ref p) (upd H p (.lst (xs ++ zs)))
theorem op_cat : OpR X (binaryOp .Add) rCat := by
  intro pins s σ H x y v u Q I rx ry h
  obtain ⟨l, b, xs, zs, rfl, rfl, hH, hB, hz, q⟩ := h
  cases rx
  cases ry
  obtain ⟨z, its, n, r, hl, e⟩ := I.lstM hH
  obtain ⟨z2, its2, n2, r2, hl2, e2⟩ := I.lstM hB
  refine PySem.P.add_list e e2 ?_ (by rw [List.size_toArray, List.size_toArray]; omega)
  have ea : its.toArray ++ its2.toArray = (its ++ its2).toArray := by simp
  rw [ea]
  exact ⟨.ref _, _, I.lnew (t' := s.toks) (r.append r2) (by rw [List.length_append]; omega), rfl, q _ I.fresh⟩
end
section
variable {prog : Program} {w : World} {A : Around} {E : Value → Shared → Prop} {s : Shared}
end
section
variable {X : Cx}
end
end L2
namespace L2
open PySem PySem.Spec PyProof.Rows
theorem Vals.ints : ∀ {ns : List Int} {us : List Value}, Vals (ns.map V.int) us → IntsAre us ns
  | [], us, h => by
    rw [List.map_nil] at h
    cases h
    exact IntsAre.nil
  | n :: ns, us, h => by
    rw [List.map_cons] at h
    cases h with
    | cons r t =>
      obtain ⟨k, rfl⟩ := r
      exact IntsAre.cons n k (Vals.ints t)
theorem Vals.ref1 {a : Addr} {us : List Value} (r : Vals [V.ref a] us) : us = [Value.ref a] := by
  cases r with
  | cons r t =>
    cases t
    cases r
    rfl
section
variable {prog : Program} {w : World} {A : Around} {E : Value → Shared → Prop} {s : Shared} {l : Addr} {its : List Value} {ns : List Int} {Q : Value → Shared → Prop}
theorem sum_raw (hh : A.handled = none) (hl : s.heap.IsList l its.toArray) (hi : IntsAre its ns)
    (h : ∀ h' tk t', (∀ b o, s.heap.get? b = some o → h'.get? b = some o) → Q (.int ns.sum t') { s with heap := h', toks := tk }) : wpAny (model prog w) A (call (.builtin "sum") [.ref l]) Q E s := by
  obtain ⟨xs, e⟩ := hi.allInts.items
  have hn : numsOf (intItems xs).toList = ns := by rw [← e]; exact hi.numsOf
  rw [nums_intItems] at hn
  rw [e] at hl
  refine PySem.sum_intListG hh hl fun h' tk t' hk => ?_
  have := h h' tk t' hk
  rw [preSum_eq, List.take_of_length_le (by simp), hn]; exact this
end
section
variable {X : Cx}
def rSum (K : PySem.W.Frag) : List V → Hp → VK → Prop := fun vs H Q => ∃ (a : Addr) (ns : List Int), vs = [V.ref a] ∧ SqL K H a (ns.map V.int) ∧ Q (.int ns.sum) H
theorem cr_sum (hc : X.calm = true) : CallR X (.builtin "sum") (rSum X.K) := by
  intro pins s σ H vs us Q I r h
  obtain ⟨a, ns, rfl, hs, q⟩ := h
  obtain ⟨its, rv, hl, _⟩ := I.list hs
  rw [Vals.ref1 r]
  exact sum_raw (I.ok.hd hc) hl.isList rv.ints fun h' tk t' hk => ⟨.int _, H, I.kept hk, ⟨_, rfl⟩, q⟩
end
section
variable {X : Cx}
end
section
variable {X : Cx}
end
section
variable {X : Cx}
end
mutual
inductive Dp (K : PySem.W.Frag) (H : Hp) : V → PyData → Prop
  | non : Dp K H .non .none
  | bl (b : Bool) : Dp K H (.bl b) (.bool b)
  | int (i : Int) : Dp K H (.int i) (.int i)
  | str (x : Str) : Dp K H (.str x) (.str x)
  | lst {a : Addr} {xs : List V} {ds : List PyData} : SqL K H a xs → DpAll K H xs ds → Dp K H (.ref a) (.list ds)
  | tup {a : Addr} {xs : List V} {ds : List PyData} : SqT K H a xs → DpAll K H xs ds → Dp K H (.ref a) (.tuple ds)
inductive DpAll (K : PySem.W.Frag) (H : Hp) : List V → List PyData → Prop
  | nil : DpAll K H [] []
  | cons {v : V} {vs : List V} {d : PyData} {ds : List PyData} : Dp K H v d → DpAll K H vs ds → DpAll K H (v :: vs) (d :: ds)
end
section
variable {X : Cx} {pins : List (Addr × Obj)} {σ : St} {H : Hp} {s : Shared}
mutual
theorem Dp.reads (I : Inv X pins σ H s) : ∀ (d : PyData) (v : V) (u : Value), Dp X.K H v d → RelV v u → ∃ as, Reads s.heap u d as
  | .none, _, _, h, r => by
    cases h
    cases r
    exact ⟨_, Reads.none⟩
  | .bool b, _, _, h, r => by
    cases h
    cases r
    exact ⟨_, Reads.bool b⟩
  | .int i, _, _, h, r => by
    cases h
    obtain ⟨t, rfl⟩ := r
    exact ⟨_, Reads.int i t⟩
  | .str x, _, _, h, r => by
    cases h
    obtain ⟨t, rfl⟩ := r
    exact ⟨_, Reads.str x t⟩
  | .list ds, _, _, h, r => by
    cases h with
    | lst hs ha =>
      cases r
      obtain ⟨its, rv, ⟨o, n, ho, hc, _, hd⟩, _⟩ := I.list hs
      obtain ⟨as, hr⟩ := Dp.readsAll I ds _ its ha rv
      exact ⟨_, Reads.list ho hc hd hr⟩
  | .tuple ds, _, _, h, r => by
    cases h with
    | tup hs ha =>
      cases r
      obtain ⟨its, rv, ⟨o, ho, hc, n, hd⟩, _⟩ := I.tuple hs
      obtain ⟨as, hr⟩ := Dp.readsAll I ds _ its ha rv
      exact ⟨_, Reads.tuple ho hc hd hr⟩
  | .dict _, _, _, h, _ => by cases h
theorem Dp.readsAll (I : Inv X pins σ H s) : ∀ (ds : List PyData) (vs : List V) (us : List Value), DpAll X.K H vs ds → Vals vs us → ∃ as, ReadsAll s.heap us ds as
  | [], _, _, h, r => by
    cases h
    cases r
    exact ⟨_, ReadsAll.nil⟩
  | d :: ds, _, _, h, r => by
    cases h with
    | cons h1 h2 =>
      cases r with
      | cons r1 r2 =>
        obtain ⟨as, q1⟩ := Dp.reads I d _ _ h1 r1
        obtain ⟨bs, q2⟩ := Dp.readsAll I ds _ _ h2 r2
        exact ⟨_, ReadsAll.cons q1 q2⟩
end
end
section
variable {X : Cx}
def rEqD (K : PySem.W.Frag) : R2 := fun x y H Q => ∃ d e, Dp K H x d ∧ Dp K H y e ∧ SeqAt.shaped d = true ∧ SeqAt.shaped e = true ∧ Q (.bl (PyData.eqv d e)) H
theorem op_eqD (hu : X.A.units + 64 < cLine) : OpR X (compareOp .Eq) (rEqD X.K) := by
  intro pins s σ H x y v u Q I rx ry h
  obtain ⟨d, e, hd, he, sd, se, q⟩ := h
  obtain ⟨as, r1⟩ := Dp.reads I d x v hd rx
  obtain ⟨bs, r2⟩ := Dp.reads I e y u he ry
  exact SeqAt.compareEq_shaped r1 r2 sd se hu ⟨.bl _, H, I, rfl, q⟩
end
end L2
namespace L2
open PySem PySem.Spec PyProof.Rows
abbrev CellAt (h : Heap) (c : Addr) (v : Option Value) : Prop := h.IsCell c v
def relS (scope sc : Scope) : Scope :=
  { scope with names := scope.names.map fun (n, k) => if (k == .free && sc.kind == .function && sc.names.lookup n == some .cell) then (n, .cell) else (n, k) }
def cloFrom (cells : List (Str × Addr)) : List (Str × NameKind) → List (Str × Addr) → List (Str × Addr)
  | [], acc => acc
  | (n, k) :: r, acc => if k == .free then cloFrom cells r ((n, (cells.lookup n).getD 0) :: acc) else cloFrom cells r acc
theorem closure_loop (env : Env) (f : Str × NameKind → List (Str × Addr) → Sem (ForInStep (List (Str × Addr))))
    (hf : ∀ n k c, f (n, k) c = if k == .free then (do let a ← cellOf env n; pure (.yield ((n, a) :: c))) else pure (.yield c)) :
    ∀ (names : List (Str × NameKind)) (acc : List (Str × Addr)), (∀ y ∈ names, y.2 = .free → ∃ c, env.cells.lookup y.1 = some c) → forIn names acc f = pure (cloFrom env.cells names acc)
  | [], acc, _ => by rw [List.forIn_nil]; rfl
  | (n, k) :: r, acc, h => by
    rw [List.forIn_cons, hf]
    have ih := fun acc => closure_loop env f hf r acc fun y hy => h y (List.mem_cons_of_mem _ hy)
    unfold cloFrom
    by_cases hk : (k == NameKind.free) = true
    · rw [if_pos hk, if_pos hk]
      obtain ⟨c, hc⟩ := h (n, k) List.mem_cons_self (by simpa using hk)
      have e : cellOf env n = pure c := by unfold cellOf; rw [hc]
      rw [e]
      have e2 : (env.cells.lookup n).getD 0 = c := by rw [hc]; rfl
      rw [e2]
      exact ih _
    · rw [if_neg hk, if_neg hk]
      exact ih _
theorem closure_ok {scope : Scope} {env : Env} (h : ∀ y ∈ scope.names, y.2 = .free → ∃ c, env.cells.lookup y.1 = some c) : closureFor scope env = pure (cloFrom env.cells scope.names []) := by
  simp only [closureFor]
  rw [closure_loop env _ (fun n k c => rfl) scope.names [] h]
  rfl
theorem mem_lookup {α : Type} : ∀ {l : List (Str × α)} {n : Str} {c : α}, (n, c) ∈ l → ∃ c', l.lookup n = some c'
  | (k, v) :: r, n, c, h => by
    rw [List.lookup_cons]
    cases hb : n == k with
    | true => exact ⟨_, rfl⟩
    | false =>
      rcases List.mem_cons.mp h with e | h
      · cases e; simp at hb
      · exact mem_lookup h
theorem cloFrom_mem {cells : List (Str × Addr)} : ∀ {names : List (Str × NameKind)} {acc : List (Str × Addr)} {n : Str} {c : Addr}, (n, c) ∈ cloFrom cells names acc → (n, c) ∈ acc ∨ ((n, .free) ∈ names ∧ c = (cells.lookup n).getD 0)
  | [], _, _, _, h => .inl h
  | (m, k) :: r, acc, n, c, h => by
    unfold cloFrom at h
    split at h
    · rename_i hk
      have hk : k = .free := by simpa using hk
      rcases cloFrom_mem h with h | ⟨h1, h2⟩
      · rcases List.mem_cons.mp h with e | h
        · cases e; exact .inr ⟨hk ▸ List.mem_cons_self, rfl⟩
        · exact .inl h
      · exact .inr ⟨List.mem_cons_of_mem _ h1, h2⟩
    · rcases cloFrom_mem h with h | ⟨h1, h2⟩
      · exact .inl h
      · exact .inr ⟨List.mem_cons_of_mem _ h1, h2⟩
theorem cloFrom_acc {cells : List (Str × Addr)} : ∀ {names : List (Str × NameKind)} {acc : List (Str × Addr)} {p : Str × Addr}, p ∈ acc → p ∈ cloFrom cells names acc
  | [], _, _, h => h
  | (m, k) :: r, acc, p, h => by
    unfold cloFrom
    split
    · exact cloFrom_acc (List.mem_cons_of_mem _ h)
    · exact cloFrom_acc h
theorem cloFrom_has {cells : List (Str × Addr)} : ∀ {names : List (Str × NameKind)} {acc : List (Str × Addr)} {n : Str}, (n, .free) ∈ names → (n, (cells.lookup n).getD 0) ∈ cloFrom cells names acc
  | (m, k) :: r, acc, n, h => by
    unfold cloFrom
    rcases List.mem_cons.mp h with e | h
    · cases e
      exact cloFrom_acc List.mem_cons_self
    · split
      · exact cloFrom_has h
      · exact cloFrom_has h
theorem cells_mem : ∀ {names : List (Str × NameKind)} {h : Heap} {acc : List (Str × Addr)} {x : Str} {c : Addr}, (x, c) ∈ cellsFrom h.objs.size names acc →
    (x, c) ∈ acc ∨ ((x, .cell) ∈ names ∧ h.objs.size ≤ c ∧ CellAt (pushCells h names) c none)
  | [], _, _, _, _, h => .inl h
  | (n, k) :: r, h, acc, x, c, hm => by
    unfold cellsFrom at hm
    unfold pushCells
    split at hm
    · rename_i hk
      rw [if_pos hk]
      have hk : k = .cell := by simpa using hk
      rw [← Heap.size_push h { cls := .type "cell", data := .cell none }] at hm
      rcases cells_mem hm with hm | ⟨h1, h2, h3⟩
      · rcases List.mem_cons.mp hm with e | hm
        · cases e
          exact .inr ⟨hk ▸ List.mem_cons_self, Nat.le_refl _, _, pushCells_keeps r _ _ _ (Heap.get?_push_size _ rfl), rfl⟩
        · exact .inl hm
      · rw [Heap.size_push] at h2
        exact .inr ⟨List.mem_cons_of_mem _ h1, Nat.le_of_succ_le h2, h3⟩
    · rename_i hk
      rw [if_neg hk]
      rcases cells_mem hm with hm | ⟨h1, h2, h3⟩
      · exact .inl hm
      · exact .inr ⟨List.mem_cons_of_mem _ h1, h2, h3⟩
theorem cells_acc : ∀ {names : List (Str × NameKind)} {n : Nat} {acc : List (Str × Addr)} {p : Str × Addr}, p ∈ acc → p ∈ cellsFrom n names acc
  | [], _, _, _, h => h
  | (m, k) :: r, n, acc, p, h => by
    unfold cellsFrom
    split
    · exact cells_acc (List.mem_cons_of_mem _ h)
    · exact cells_acc h
theorem cells_has : ∀ {names : List (Str × NameKind)} {n : Nat} {acc : List (Str × Addr)} {x : Str}, (x, .cell) ∈ names → ∃ c, (x, c) ∈ cellsFrom n names acc
  | (m, k) :: r, n, acc, x, h => by
    unfold cellsFrom
    rcases List.mem_cons.mp h with e | h
    · cases e
      exact ⟨n, cells_acc List.mem_cons_self⟩
    · split
      · exact cells_has h
      · exact cells_has h
theorem cells_inj : ∀ {names : List (Str × NameKind)} {h : Heap} {acc : List (Str × Addr)} {x y : Str} {c : Addr}, (∀ p ∈ acc, p.2 < h.objs.size) → (∀ x y c, (x, c) ∈ acc → (y, c) ∈ acc → x = y) →
    (x, c) ∈ cellsFrom h.objs.size names acc → (y, c) ∈ cellsFrom h.objs.size names acc → x = y
  | [], _, _, _, _, _, _, hi, h1, h2 => hi _ _ _ h1 h2
  | (n, k) :: r, h, acc, x, y, c, hl, hi, h1, h2 => by
    unfold cellsFrom at h1 h2
    split at h1
    · rename_i hk
      rw [if_pos hk] at h2
      rw [← Heap.size_push h { cls := .type "cell", data := .cell none }] at h1 h2
      refine cells_inj (h := h.push _) (fun p hp => ?_) (fun x y c a b => ?_) h1 h2
      · rw [Heap.size_push]
        rcases List.mem_cons.mp hp with rfl | hp
        · exact Nat.lt_succ_self _
        · exact Nat.lt_succ_of_lt (hl p hp)
      · rcases List.mem_cons.mp a with e | a <;> rcases List.mem_cons.mp b with e' | b
        · cases e; cases e'; rfl
        · cases e; exact absurd (hl _ b) (Nat.lt_irrefl _)
        · cases e'; exact absurd (hl _ a) (Nat.lt_irrefl _)
        · exact hi _ _ _ a b
    · rename_i hk
      rw [if_neg hk] at h2
      exact cells_inj hl hi h1 h2
theorem newEnv_comp {M : Model} {A : Around} {E : Value → Shared → Prop} {s : Shared} {scope : Scope} {globals : Addr} {closure : List (Str × Addr)} {qual : Str} {func : Option Addr} {code : Value} {around : Env} {builtins : Addr} {Q : Env → Shared → Prop}
    (h : Q (newEnv scope s.heap.objs.size globals (cellsFrom (s.heap.objs.size + 1) scope.names closure) qual func code (some around) builtins)
      { s with heap := pushCells (s.heap.push { cls := .type "dict", data := .dict #[] }) scope.names }) :
    wpAny M A (newFunctionEnv scope globals closure [] qual func code (some around) builtins) Q E s := by
  simp only [newFunctionEnv, Option.isSome_some, if_true]
  refine wpAny_bind (wpAny_alloc ?_)
  refine wpAny_bind (wpAny_layCells _ (fun n k c => rfl) scope.names closure _ _ ?_)
  rw [show ({ s with heap := s.heap.push { cls := .type "dict", data := .dict #[] } } : Shared).heap.objs.size = s.heap.objs.size + 1 from Heap.size_push ..]
  rw [List.forIn_nil]
  exact wpAny_bind (wpAny_pure (wpAny_pure h))
theorem lookup_relS {sc : Scope} : ∀ {names : List (Str × NameKind)} {x : Str} {k : NameKind},
    (names.map fun (n, k) => if (k == NameKind.free && sc.kind == .function && sc.names.lookup n == some .cell) then (n, NameKind.cell) else (n, k)).lookup x = some k →
    ∃ k', names.lookup x = some k' ∧ (k = k' ∨ (k' = .free ∧ k = .cell))
  | [], _, _, h => by simp at h
  | (n, k₀) :: r, x, k, h => by
    have ih := @lookup_relS sc r x k
    have h' : List.lookup x ((if (k₀ == NameKind.free && sc.kind == .function && sc.names.lookup n == some .cell) = true then (n, NameKind.cell) else (n, k₀)) :: (r.map _)) = some k := h
    cases hx : x == n with
    | true =>
      simp only [List.lookup_cons, hx]
      by_cases hc : (k₀ == NameKind.free && sc.kind == .function && sc.names.lookup n == some .cell) = true
      · rw [if_pos hc] at h'
        simp only [List.lookup_cons, hx] at h'
        cases h'
        simp only [Bool.and_eq_true, beq_iff_eq] at hc
        exact ⟨k₀, rfl, .inr ⟨hc.1.1, rfl⟩⟩
      · rw [if_neg hc] at h'
        simp only [List.lookup_cons, hx] at h'
        cases h'
        exact ⟨_, rfl, .inl rfl⟩
    | false =>
      simp only [List.lookup_cons, hx]
      by_cases hc : (k₀ == NameKind.free && sc.kind == .function && sc.names.lookup n == some .cell) = true
      · rw [if_pos hc] at h'
        simp only [List.lookup_cons, hx] at h'
        exact ih h'
      · rw [if_neg hc] at h'
        simp only [List.lookup_cons, hx] at h'
        exact ih h'
structure BlkOk (N : List Str) (sc scope : Scope) (own : List (Str × Nat)) : Prop where
  kind : scope.kind = .function
  uniq : ∀ y ∈ scope.names, scope.names.lookup y.1 = some y.2
  ix : ∀ p ∈ own, N[p.2]? = some p.1
  free : ∀ y ∈ scope.names, y.2 = .free → sc.names.lookup y.1 = some .cell ∨ sc.names.lookup y.1 = some .free
  own : ∀ y ∈ scope.names, y.2 = .local ∨ y.2 = .cell → y.1 ∈ own.map (·.1) ∨ y.1 ∉ N
def wipe (σ : St) : List Nat → St
  | [] => σ
  | v :: vs => (wipe σ vs).set v none
theorem wipe_length (σ : St) : ∀ vs : List Nat, (wipe σ vs).length = σ.length
  | [] => rfl
  | v :: vs => by unfold wipe; rw [List.length_set, wipe_length σ vs]
theorem wipe_some {σ : St} {i : Nat} {x : V} : ∀ {vs : List Nat}, (wipe σ vs)[i]? = some (some x) → σ[i]? = some (some x) ∧ i ∉ vs
  | [], h => ⟨h, by simp⟩
  | v :: vs, h => by
    unfold wipe at h
    by_cases hi : v = i
    · subst hi
      by_cases hv : v < (wipe σ vs).length
      · rw [List.getElem?_set_self hv] at h; cases h
      · rw [List.getElem?_eq_none (by simpa using hv)] at h; cases h
    · rw [List.getElem?_set_ne hi] at h
      obtain ⟨h1, h2⟩ := wipe_some h
      exact ⟨h1, by simp only [List.mem_cons, not_or]; exact ⟨fun e => hi e.symm, h2⟩⟩
abbrev Cx.blk (X : Cx) (s : Shared) (H : Hp) (scope : Scope) (cenv : Env) (fp : List Addr) : Cx := { X with s_0 := s, H_0 := H, env := cenv, outer := X.stack, ex := fp, fn := fun x => scope.names.lookup x == some .cell, pn := [], xe := fun _ _ => False }
section
variable {X : Cx} {pins : List (Addr × Obj)} {σ : St} {H : Hp} {s : Shared}
theorem block_start {scope : Scope} {own : List (Str × Nat)} {fp : List Addr} (I : Inv X pins σ H s) (ok : BlkOk X.N X.env.scope scope own) (hN : X.N.Nodup) (hfp : ∀ b ∈ fp, FpOk X pins H b ∧ b < s.heap.objs.size) :
    Inv (X.blk s H scope (compEnvC scope (cellsFrom (s.heap.objs.size + 1) scope.names (cloFrom X.env.cells scope.names [])) s.heap.objs.size X.env) fp) [] (wipe σ (own.map (·.2))) H { s with heap := pushCells (s.heap.push { cls := .type "dict", data := .dict #[] }) scope.names } := by
  have hfree : ∀ y ∈ scope.names, y.2 = .free → ∃ c, X.env.cells.lookup y.1 = some c := fun y hy e => by
    rcases ok.free y hy e with k | k
    · exact I.ok.has _ (.inl k)
    · exact I.ok.has _ (.inr k)
  generalize hcenv : compEnvC scope (cellsFrom (s.heap.objs.size + 1) scope.names (cloFrom X.env.cells scope.names [])) s.heap.objs.size X.env = cenv
  have kp : ∀ b o, s.heap.get? b = some o → (pushCells (s.heap.push { cls := .type "dict", data := .dict #[] }) scope.names).get? b = some o := fun b o e => pushCells_keeps _ _ _ _ (Heap.get?_push_of_some _ e)
  have hL : cenv.locals = s.heap.objs.size := by rw [← hcenv]; rfl
  have hcl : cenv.cells = cellsFrom (s.heap.objs.size + 1) scope.names (cloFrom X.env.cells scope.names []) := by rw [← hcenv]; rfl
  have hsc : cenv.scope = relS scope X.env.scope := by rw [← hcenv]; rfl
  rw [← Heap.size_push s.heap { cls := .type "dict", data := .dict #[] }] at hcl
  have cm : ∀ {y c}, (y, c) ∈ cloFrom X.env.cells scope.names [] → X.env.cells.lookup y = some c ∧ c < s.heap.objs.size := fun {y c} hm => by
    rcases cloFrom_mem hm with hm | ⟨h1, rfl⟩
    · cases hm
    · obtain ⟨c, hc⟩ := hfree _ h1 rfl
      rw [hc]
      obtain ⟨w, z⟩ := I.cell _ _ hc
      exact ⟨rfl, z.lt⟩
  have mem : ∀ {y c}, cenv.cells.lookup y = some c → (X.env.cells.lookup y = some c ∧ c < s.heap.objs.size) ∨ (s.heap.objs.size + 1 ≤ c ∧ CellAt (pushCells (s.heap.push { cls := .type "dict", data := .dict #[] }) scope.names) c none) := fun {y c} e => by
    rw [hcl] at e
    rcases cells_mem (PySem.mem_of_lookup e) with hm | ⟨_, h2, h3⟩
    · exact .inl (cm hm)
    · rw [Heap.size_push] at h2; exact .inr ⟨h2, h3⟩
  have look : ∀ {y}, scope.names.lookup y = some .free → ∃ c, cenv.cells.lookup y = some c ∧ X.env.cells.lookup y = some c := fun {y} hl => by
    have hy : (y, NameKind.free) ∈ scope.names := PySem.mem_of_lookup hl
    obtain ⟨c', e'⟩ := mem_lookup (cells_acc (names := scope.names) (n := (s.heap.push { cls := .type "dict", data := .dict #[] }).objs.size) (cloFrom_has (cells := X.env.cells) (acc := []) hy))
    rw [← hcl] at e'
    refine ⟨c', e', ?_⟩
    rw [hcl] at e'
    rcases cells_mem (PySem.mem_of_lookup e') with hm | ⟨h1, _, _⟩
    · exact (cm hm).1
    · have := ok.uniq _ h1
      rw [hl] at this; cases this
  have okB : (X.blk s H scope cenv fp).Ok := by
    refine ⟨I.ok.mod, by show cenv.scope.kind = _; rw [hsc]; exact ok.kind, by show cenv.globals = _; rw [← hcenv]; exact I.ok.glob, by show cenv.builtins = _; rw [← hcenv]; exact I.ok.blt, by show s.heap.objs.size ≤ cenv.locals; rw [hL]; exact Nat.le_refl _,
      fun y z c e1 e2 => ?_, fun y hy => ?_, fun y c z e => ?_, I.ok.hd, I.ok.frames, .inl rfl, fun b hb => ⟨?_, fun y c e z => ?_⟩, I.bs, Nat.le_trans I.ok.bsz I.sz, fun b o e hb => ?_, fun b hb z => ?_, I.stack, I.stkFree⟩
    · have e1 : cenv.cells.lookup y = some c := e1
      have e2 : cenv.cells.lookup z = some c := e2
      rw [hcl] at e1 e2
      refine cells_inj (fun p hp => ?_) (fun y z c a b => I.ok.inj y z c (cm a).1 (cm b).1) (PySem.mem_of_lookup e1) (PySem.mem_of_lookup e2)
      rw [Heap.size_push]
      exact Nat.lt_succ_of_lt (cm (y := p.1) (c := p.2) hp).2
    · show ∃ c, cenv.cells.lookup y = some c
      have key : ∀ k, cenv.kindOf y = some k → (k = .cell ∨ k = .free) → ∃ c, cenv.cells.lookup y = some c := fun k hk hk' => by
        unfold Env.kindOf at hk
        rw [hsc] at hk
        obtain ⟨k', e, r⟩ := lookup_relS hk
        have : k' = .cell ∨ k' = .free := by
          rcases r with rfl | ⟨rfl, _⟩
          · exact hk'
          · exact .inr rfl
        rcases this with rfl | rfl
        · obtain ⟨c, hm⟩ := cells_has (n := (s.heap.push { cls := .type "dict", data := .dict #[] }).objs.size) (acc := cloFrom X.env.cells scope.names []) (PySem.mem_of_lookup e)
          obtain ⟨c', e'⟩ := mem_lookup hm
          exact ⟨c', by rw [hcl]; exact e'⟩
        · obtain ⟨c, h1, _⟩ := look e
          exact ⟨c, h1⟩
      rcases hy with hy | hy
      · exact key _ hy (.inl rfl)
      · exact key _ hy (.inr rfl)
    · have z : (scope.names.lookup y == some NameKind.cell) = true := z
      have z : scope.names.lookup y = some .cell := by simpa using z
      have e : cenv.cells.lookup y = some c := e
      rw [hcl] at e
      rcases cells_mem (PySem.mem_of_lookup e) with hm | ⟨_, h2, _⟩
      · rcases cloFrom_mem hm with hm | ⟨h1, _⟩
        · cases hm
        · have q := ok.uniq _ h1
          rw [z] at q; cases q
      · rw [Heap.size_push] at h2
        exact Nat.le_of_succ_le h2
    · show b ≠ cenv.locals
      rw [hL]; exact Nat.ne_of_lt (hfp b hb).2
    · have e : cenv.cells.lookup y = some c := e
      rcases mem e with ⟨h1, _⟩ | ⟨h1, _⟩
      · exact (hfp b hb).1.2.2.2.2.1 y c h1 z
      · have h2 : s.heap.objs.size + 1 ≤ b := by rw [← z]; exact h1
        exact absurd (Nat.lt_of_lt_of_le (hfp b hb).2 (Nat.le_of_succ_le h2)) (Nat.lt_irrefl _)
    · rcases (hfp b hb).1.2.2.2.1 with z | z
      · exact I.ok.noex b o e z
      · exact absurd (Nat.lt_of_lt_of_le (Heap.lt_size e) (Nat.le_trans I.ok.bsz z)) (Nat.lt_irrefl _)
    · rcases List.mem_cons.mp (I.stkSub b z) with z | z
      · exact (hfp b hb).1.2.1 z
      · exact (hfp b hb).1.2.2.1 z
  refine ⟨okB, rfl, I.bare, Un.kept kp, ⟨fun _ => none, ?_, fun i y av e1 e2 e3 => ?_⟩, fun y c e => ?_, ?_, fun y c e => ?_, fun p hp => ?_, I.hok.kept kp, by rw [wipe_length]; exact I.len⟩
  · show Heap.Ns _ cenv.locals _
    rw [hL]
    exact Heap.Ns.keeps (Heap.Ns.new ..) fun b o e => pushCells_keeps _ _ _ _ e
  · obtain ⟨e2, hne⟩ := wipe_some e2
    have hfr : scope.names.lookup y = some .free ∧ (cenv.kindOf y = some .cell ∨ cenv.kindOf y = some .free) := by
      have key : ∀ k, cenv.scope.names.lookup y = some k → k = .local ∨ k = .cell ∨ k = .free → scope.names.lookup y = some .free ∧ (cenv.kindOf y = some .cell ∨ cenv.kindOf y = some .free) := fun k hk hk' => by
        have hk0 := hk
        rw [hsc] at hk
        obtain ⟨k', e, r⟩ := lookup_relS hk
        have no : ¬ (k' = .local ∨ k' = .cell) := fun hh => by
          rcases ok.own _ (PySem.mem_of_lookup e) hh with e' | e'
          · obtain ⟨p, hp, hpy⟩ := List.mem_map.mp e'
            have e3 := ok.ix p hp
            have : p.1 = y := hpy
            rw [this] at e3
            exact hne (List.mem_map.mpr ⟨p, hp, nodup_ix hN e3 e1⟩)
          · exact e' (List.mem_of_getElem? e1)
        rcases r with rfl | ⟨rfl, rfl⟩
        · rcases hk' with rfl | rfl | rfl
          · exact absurd (.inl rfl) no
          · exact absurd (.inr rfl) no
          · exact ⟨e, .inr hk0⟩
        · exact ⟨e, .inl hk0⟩
      have e3 : Vis cenv.scope y := e3
      rcases e3 with e3 | e3 | e3
      · exact key _ e3 (.inl rfl)
      · exact key _ e3 (.inr (.inl rfl))
      · exact key _ e3 (.inr (.inr rfl))
    obtain ⟨m, hn, hl⟩ := I.loc
    have hvis : Vis X.env.scope y := (ok.free _ (PySem.mem_of_lookup hfr.1) rfl).elim (fun k => .inr (.inl k)) (fun k => .inr (.inr k))
    obtain ⟨w, r, q⟩ := hl i y av e1 e2 hvis
    refine ⟨w, r, .inr ⟨hfr.2, ?_⟩⟩
    obtain ⟨c, h1, h2⟩ := look hfr.1
    rcases q with ⟨k, _⟩ | ⟨_, c', e', z⟩
    · have k : X.env.scope.names.lookup y = some .local := k
      rcases ok.free _ (PySem.mem_of_lookup hfr.1) rfl with k' | k' <;> rw [show X.env.scope.names.lookup y = _ from k'] at k <;> cases k
    · rw [h2] at e'; cases e'
      exact ⟨c, h1, z.keeps kp⟩
  · have e : cenv.cells.lookup y = some c := e
    rcases mem e with ⟨h1, _⟩ | ⟨_, z⟩
    · obtain ⟨w, z⟩ := I.cell y c h1
      exact ⟨w, z.keeps kp⟩
    · exact ⟨_, z⟩
  · show H cenv.locals = none
    rw [hL]; exact I.hok.fresh (Nat.le_refl _)
  · have e : cenv.cells.lookup y = some c := e
    rcases mem e with ⟨h1, _⟩ | ⟨h1, _⟩
    · exact I.freeC y c h1
    · exact I.hok.fresh (Nat.le_of_succ_le h1)
  · exact absurd (show p ∈ ([] : List (Addr × Obj)) ++ [] from hp) (by simp)
theorem app_ok {E : Value → Shared → Prop} {D : Addr} {xs : List V} {y : V} {v : Value} {Q : Value → Shared → Prop} (I : Inv X pins σ H s) (hD : H D = some (.lst xs)) (hz : xs.length < sizeLine) (r : RelV y v)
    (h : ∀ s', Inv X pins σ (upd H D (.lst (xs ++ [y]))) s' → Q .none s') : wpAny (model X.prog X.w) X.A (call (.builtin "list.append") [.ref D, v]) Q E s := by
  obtain ⟨hz', its, n, ri, e⟩ := I.hok D _ hD
  have hl := ri.length
  refine append_at (hsz := by rw [List.size_toArray]; omega) e fun h' sb ho' => ?_
  refine h { s with heap := h' } (I.write (t' := s.toks) (by rw [hD]; trivial) (.inl rfl) (fun b u hb q => (sb.2 b hb).trans q) ⟨_, ho'⟩ ⟨by rw [List.length_append]; exact hz, its ++ [v], n + 1, ri.append (.cons r .nil), ?_⟩)
  rw [ho']
  simp
def PTs (X : Cx) (ifs : List Expr) (t : TT) : Prop :=
  ∀ (pins : List (Addr × Obj)) (s : Shared) (σ : St) (H : Hp) (Q : Bool → Hp → Prop), Inv X pins σ H s → t σ H Q →
    wpAny (model X.prog X.w) X.A (forIn ifs true fun c r => if r = true then do let ok ← isTrue c X.env (eval c X.env); pure (ForInStep.yield ok) else pure (ForInStep.yield r)) (TP X pins σ Q) X.xe s
def tYes : TT := fun _ H Q => Q true H
theorem pts_nil : PTs X [] tYes := fun _ _ _ H _ I h => wpAny_tests_nil ⟨H, I, h⟩
theorem pts_one {c : Expr} {t : TT} (h : PT X c t) : PTs X [c] t := fun pins s σ H Q I hw => wpAny_tests_one (h pins s σ H Q I hw)
end
theorem thnF {α : Type} {t : Sem α} {Q Q' : α → Shared → Prop} {M : Model} {A : Around} {E : Value → Shared → Prop} {s : Shared} (h : wpAny M A t Q (fun _ _ => False) s) (hQ : ∀ a s, Q a s → Q' a s) : wpAny M A t Q' E s := wpAny_mono h hQ fun _ _ z => False.elim z
theorem compLoop_any {prog : Program} {w : World} {A : Around} {R : Result → Shared → Prop} {s : Shared} {elt target iter : Expr} {ifs : List Expr} {scope : Scope} {pos : Pos} {it acc : Value} {env : Env} (I : Nat → Shared → Prop)
    (turn : ∀ n s, I n s → wpAny (model prog w) A (pyNext it) (fun r s₁ => match r with
      | none => R (.ok .next) s₁
      | some v => wpAny (model prog w) A (letOwnedTupleGo target it v) (fun _ s₁' => wpAny (model prog w) A (assign target env v) (fun _ s₂ =>
          wpAny (model prog w) A (forIn ifs true fun c r => if r = true then do let ok ← isTrue c env (eval c env); pure (ForInStep.yield ok) else pure (ForInStep.yield r)) (fun ok s₃ =>
            if ok = true then wpAny (model prog w) A (eval elt env) (fun x s₄ =>
              wpAny (model prog w) A (call (.builtin "list.append") [acc, x]) (fun _ s₅ => ∃ m, m < n ∧ I m s₅) (notedBy (model prog w) A env fun e s' => R (.error e) s') s₄) (notedBy (model prog w) A env fun e s' => R (.error e) s') s₃
            else ∃ m, m < n ∧ I m s₃) (notedBy (model prog w) A env fun e s' => R (.error e) s') s₂) (notedBy (model prog w) A env fun e s' => R (.error e) s') s₁') (notedBy (model prog w) A env fun e s' => R (.error e) s') s₁) (notedBy (model prog w) A env fun e s' => R (.error e) s') s)
    (n : Nat) (h : I n s) :
    codeAny (model prog w) A (.compLoop (.ListComp elt [⟨target, iter, ifs, 0⟩] scope pos) 0 it acc env) R s := by
  refine codeAny_loop rfl I (fun n s hI => ?_) n h
  show wpAny _ A ((compTurn (.ListComp elt [⟨target, iter, ifs, 0⟩] scope pos) 0 it acc env).onRaise (fun x => do noteFrame x env; theTreesLotGoes x)) _ _ s
  refine wpAny_noted ?_
  rw [compTurn_list]
  refine wpAny_bind (wpAny_standAt (wpAny_bind (wpAny_mono (turn n s hI) (fun r s₁ h₁ => ?_) fun _ _ h' => h')))
  cases r with
  | none => exact wpAny_pure h₁
  | some v =>
    refine wpAny_bind (wpAny_mono h₁ (fun _ s₁' h₁' => ?_) fun _ _ h' => h')
    refine wpAny_bind (wpAny_mono h₁' (fun _ s₂ h₂ => wpAny_bind (wpAny_mono h₂ (fun ok s₃ h₃ => ?_) fun _ _ h' => h')) fun _ _ h' => h')
    cases ok with
    | false => exact wpAny_pure ⟨rfl, h₃⟩
    | true =>
      exact wpAny_bind (wpAny_bind (wpAny_mono h₃ (fun x s₄ h₄ => wpAny_bind (wpAny_mono h₄ (fun _ s₅ h₅ => wpAny_pure (wpAny_pure ⟨rfl, h₅⟩)) fun _ _ h' => h')) fun _ _ h' => h'))
section
variable {X : Cx}
def tLc (wi : TI) (g : TG) (tt : TT) (te : TE) (vs : List Nat) : TE := fun σ H Q => wi σ H fun J H1 => ∀ D, H1 D = none → ∃ W : Nat → Nat → Hp → Prop, (∃ m, W 0 m (upd H1 D (.lst []))) ∧ ∀ i m H, W i m H →
  (J.stop i H ∧ Q (.ref D) H) ∨ (J.go i H ∧ ∃ Nx : Hp → Prop, (∀ H', Nx H' → ∃ m', m' < m ∧ W (i + 1) m' H') ∧ ∀ x H', J.yld i H x H' → g x (wipe σ vs) H' fun σ2 H2 => wipe σ2 vs = wipe σ vs ∧ tt σ2 H2 fun b H3 =>
    if b = true then te σ2 H3 fun y H4 => ∃ acc, H4 D = some (.lst acc) ∧ acc.length < sizeLine ∧ Nx (upd H4 D (.lst (acc ++ [y]))) else Nx H3)
theorem lc_core {pins : List (Addr × Obj)} {s : Shared} {σ : St} {H : Hp} {Q : VK} {elt tg iter : Expr} {ifs : List Expr} {scope : Scope} {own : List (Str × Nat)} {pos pos' : Pos} {wi : TI} {g : TG} {tt : TT} {te : TE} {use : Option (Value → Sem Unit)} {Qf : Value → Shared → Prop}
    (hc : X.calm = true) (hN : X.N.Nodup) (I : Inv X pins σ H s) (hi : PI X tg iter wi) (ok : BlkOk X.N X.env.scope scope own)
    (hg : ∀ (s : Shared) (H : Hp) (C : Addr) (cl : List (Str × Addr)) (fp : List Addr), PG (X.blk s H scope (compEnvC scope cl C X.env) fp) tg g) (ht : ∀ (s : Shared) (H : Hp) (C : Addr) (cl : List (Str × Addr)) (fp : List Addr), PTs (X.blk s H scope (compEnvC scope cl C X.env) fp) ifs tt)
    (he : ∀ (s : Shared) (H : Hp) (C : Addr) (cl : List (Str × Addr)) (fp : List Addr), PE (X.blk s H scope (compEnvC scope cl C X.env) fp) elt te) (hs : ∀ x, foldedSetIterable iter X.env x = pure x)
    (h : tLc wi g tt te (own.map (·.2)) σ H Q)
    (hRR : ∀ D C s' m H', Inv X pins σ H' s' → Q (.ref D) H' → s'.heap.Ns C m → FpOk X pins H' C → compPost (model X.prog X.w) X.A X.xe use Qf (.ref D) C (.ok .next) s') :
    wpAny (model X.prog X.w) X.A (comprehension (.ListComp elt [⟨tg, iter, ifs, 0⟩] scope pos) scope X.env pos' (newList []) false (eval iter X.env) use) Qf X.xe s := by
  have hfree : ∀ y ∈ scope.names, y.2 = .free → ∃ c, X.env.cells.lookup y.1 = some c := fun y hy e => by
    rcases ok.free y hy e with k | k
    · exact I.ok.has _ (.inl k)
    · exact I.ok.has _ (.inr k)
  refine wpAny_comprehension_free (use := use) rfl hs (closure_ok hfree) ok.kind (fun y hy e => by rw [ok.uniq y hy, e])
    (thn (hi pins s σ H _ I h) fun xv s1 hx => thn hx fun itv s2 h2 => ?_)
  obtain ⟨it, fp, tn, J, H2, e, I2, T, st2, f2, q⟩ := h2
  subst e
  refine wpAny_newObj_type (newEnv_comp ?_) (by show 0 ≤ sizeLine; decide)
  generalize hD : s2.heap.objs.size = D
  have hDn : H2 D = none := I2.hok.fresh (Nat.le_of_eq hD)
  obtain ⟨W, ⟨m0, w0⟩, turn⟩ := q D hDn
  generalize hs3 : ({ s2 with heap := s2.heap.push { cls := .type "list", data := .seq ([] : List Value).toArray } } : Shared) = s3
  have I3 : Inv X pins σ (upd H2 D (.lst [])) s3 := by
    rw [← hs3]
    refine I2.laid (t' := s2.toks) (fun b o e => Heap.get?_push_of_some _ e) (Nat.le_of_eq hD) ⟨Nat.zero_le _, [], 0, .nil, ?_⟩
    rw [← hD]
    exact Heap.get?_push_size _ rfl
  have h3 : s3.heap = s2.heap.push { cls := .type "list", data := .seq ([] : List Value).toArray } := by rw [← hs3]
  have sz : ∀ b ∈ fp, b < s2.heap.objs.size := fun b hb => by
    obtain ⟨o, e, _⟩ := T.obj _ _ st2 b hb
    exact Heap.lt_size e
  have f3 : ∀ b ∈ fp, FpOk X pins (upd H2 D (.lst [])) b ∧ b < s3.heap.objs.size := fun b hb => by
    have hlt := sz b hb
    refine ⟨⟨?_, (f2 b hb).2⟩, by rw [h3, Heap.size_push]; exact Nat.lt_succ_of_lt hlt⟩
    rw [upd_ne (by rw [← hD]; exact Nat.ne_of_lt hlt)]
    exact (f2 b hb).1
  have st3 : tn 0 s3.heap := T.keep _ _ _ st2 fun b _ o e => by rw [h3]; exact Heap.get?_push_of_some _ e
  have I4 := block_start I3 ok hN f3
  have pg := hg s3 (upd H2 D (.lst [])) s3.heap.objs.size (cellsFrom (s3.heap.objs.size + 1) scope.names (cloFrom X.env.cells scope.names [])) fp
  have pt := ht s3 (upd H2 D (.lst [])) s3.heap.objs.size (cellsFrom (s3.heap.objs.size + 1) scope.names (cloFrom X.env.cells scope.names [])) fp
  have pe := he s3 (upd H2 D (.lst [])) s3.heap.objs.size (cellsFrom (s3.heap.objs.size + 1) scope.names (cloFrom X.env.cells scope.names [])) fp
  show codeAny _ _ (.compStart (.ListComp elt [⟨tg, iter, ifs, 0⟩] scope pos) 0 (.ref it) (.ref D) (compEnvC scope (cellsFrom (s3.heap.objs.size + 1) scope.names (cloFrom X.env.cells scope.names [])) s3.heap.objs.size X.env)) (compPost (model X.prog X.w) X.A X.xe use Qf (.ref D) s3.heap.objs.size) { s3 with heap := pushCells (s3.heap.push { cls := .type "dict", data := .dict #[] }) scope.names }
  have nfp : ∀ b ∈ fp, (upd H2 D (.lst [])) b = none := fun b hb => (f3 b hb).1.1
  generalize hce : compEnvC scope (cellsFrom (s3.heap.objs.size + 1) scope.names (cloFrom X.env.cells scope.names [])) s3.heap.objs.size X.env = ce at I4 pg pt pe ⊢
  have cL : ce.locals = s3.heap.objs.size := by subst hce; rfl
  generalize hH3 : upd H2 D (.lst []) = H3 at I3 I4 pg pt pe w0 nfp f3
  generalize hs4 : ({ s3 with heap := pushCells (s3.heap.push { cls := .type "dict", data := .dict #[] }) scope.names } : Shared) = s4 at I4 ⊢
  have st4 : tn 0 s4.heap := T.keep _ _ _ st3 fun b _ o e => by rw [← hs4]; exact pushCells_keeps _ _ _ _ (Heap.get?_push_of_some _ e)
  have stat : ∀ {σ' : St} {H' : Hp} {s' : Shared}, Inv (X.blk s3 H3 scope ce fp) [] σ' H' s' → (∀ b ∈ fp, H' b = none) → ∀ b ∈ fp, FpOk (X.blk s3 H3 scope ce fp) [] H' b := fun {σ' H' s'} I' hn b hb =>
    ⟨hn b hb, (I'.ok.exf b hb).1, I'.ok.exfs b hb, .inl hb, fun x c e => (I'.ok.exf b hb).2 x c e, fun p hp => absurd (show p ∈ ([] : List (Addr × Obj)) ++ [] from hp) (by simp)⟩
  have loop : codeAny (model X.prog X.w) X.A (.compLoop (.ListComp elt [⟨tg, iter, ifs, 0⟩] scope pos) 0 (.ref it) (.ref D) ce) (compPost (model X.prog X.w) X.A X.xe use Qf (.ref D) s3.heap.objs.size) s4 := by
    refine compLoop_any (fun n s' => ∃ i H', Inv (X.blk s3 H3 scope ce fp) [] (wipe σ (own.map (·.2))) H' s' ∧ tn i s'.heap ∧ (∀ b ∈ fp, H' b = none) ∧ W i n H') ?_ m0 ⟨0, H3, I4, st4, nfp, w0⟩
    rintro n s5 ⟨i, H5, I5, st5, n5, w5⟩
    rcases turn i n H5 w5 with ⟨stop, qq⟩ | ⟨go, Nx, hNx, step⟩
    · have td := T.done (X.blk s3 H3 scope ce fp) rfl rfl rfl hc i [] s5 _ H5 (fun _ _ => False) I5 (stat I5 n5) st5 stop
      refine thnF td fun r s6 ⟨hr, I6⟩ => ?_
      subst hr
      have I7 : Inv X pins σ H5 s6 := I3.call' (ch := fp) I6.os I6.base I6.hok I6.bare fun b hb => ⟨(f3 b hb).1.2.2.2.1, (f3 b hb).1.2.1, (f3 b hb).1.2.2.2.2.1, (f3 b hb).1.2.2.2.2.2⟩
      have nC : H5 s3.heap.objs.size = none := by
        have z : H5 ce.locals = none := I6.free
        rw [cL] at z
        exact z
      obtain ⟨m, hn, _⟩ := I6.loc
      have hn : s6.heap.Ns ce.locals m := hn
      rw [cL] at hn
      exact hRR D s3.heap.objs.size s6 m H5 I7 qq hn (I3.fpOk (Nat.le_refl _) nC)
    · have ti := T.item (X.blk s3 H3 scope ce fp) rfl rfl rfl hc i [] s5 _ H5 (fun _ _ => False) I5 (stat I5 n5) st5 go
      refine thnF ti fun r s6 ⟨u, hr, h6⟩ => ?_
      subst hr
      refine thnF h6 fun _ s7 ⟨x, H7, I7, r7, y7, st7, n7⟩ => ?_
      have I7' := I7.pinned (stat I7 n7) (T.obj _ _ st7)
      refine thnF (pg _ s7 _ H7 x u _ I7' r7 (step x H7 y7)) fun _ s8 ⟨σ8, H8, I8, hw8, q8⟩ => ?_
      refine thnF (pt _ s8 σ8 H8 _ I8 q8) fun b s9 ⟨H9, I9, q9⟩ => ?_
      have fin : ∀ {s' : Shared} {H' : Hp}, Inv (X.blk s3 H3 scope ce fp) ([] ++ pinsAt fp s7.heap) σ8 H' s' → Nx H' → ∃ m, m < n ∧ ∃ i H', Inv (X.blk s3 H3 scope ce fp) [] (wipe σ (own.map (·.2))) H' s' ∧ tn i s'.heap ∧ (∀ b ∈ fp, H' b = none) ∧ W i m H' := fun {s' H'} I' nx => by
        obtain ⟨m', hm, w'⟩ := hNx H' nx
        have pin' : ∀ b ∈ fp, ∀ o, s7.heap.get? b = some o → s'.heap.get? b = some o ∧ H' b = none := fun b hb o e =>
          let z := I'.pin (b, o) (List.mem_append_right _ (List.mem_append_right _ (mem_pinsAt hb e)))
          ⟨z.1, z.2.1⟩
        have hl : (wipe σ (own.map (·.2))).length = σ8.length := by rw [← hw8, wipe_length]
        refine ⟨m', hm, i + 1, H', (I'.unpinned (pins := [])).weak hl (fun j v e => ?_), T.keep _ _ _ st7 fun b hb o e => (pin' b hb o e).1, fun b hb => ?_, w'⟩
        · rw [← hw8] at e
          exact (wipe_some e).1
        · obtain ⟨o, e, _⟩ := T.obj _ _ st7 b hb
          exact (pin' b hb o e).2
      cases b with
      | false =>
        simp only [Bool.false_eq_true, if_false] at q9 ⊢
        exact fin I9 q9
      | true =>
        simp only [if_true] at q9 ⊢
        refine thnF (pe _ s9 σ8 H9 _ I9 q9) fun z s10 ⟨yv, H10, I10, r10, acc, hD10, hz10, nx⟩ => ?_
        exact app_ok (X := X.blk s3 H3 scope ce fp) I10 hD10 hz10 r10 fun s11 I11 => fin I11 nx
  exact codeAny_compStart_list loop (T.self X.A 0 _ _ _ st4 loop)
theorem pe_lc {elt tg iter : Expr} {ifs : List Expr} {scope : Scope} {own : List (Str × Nat)} {pos : Pos} {wi : TI} {g : TG} {tt : TT} {te : TE} (hc : X.calm = true) (hN : X.N.Nodup) (hi : PI X tg iter wi) (ok : BlkOk X.N X.env.scope scope own)
    (hg : ∀ (s : Shared) (H : Hp) (C : Addr) (cl : List (Str × Addr)) (fp : List Addr), PG (X.blk s H scope (compEnvC scope cl C X.env) fp) tg g) (ht : ∀ (s : Shared) (H : Hp) (C : Addr) (cl : List (Str × Addr)) (fp : List Addr), PTs (X.blk s H scope (compEnvC scope cl C X.env) fp) ifs tt)
    (he : ∀ (s : Shared) (H : Hp) (C : Addr) (cl : List (Str × Addr)) (fp : List Addr), PE (X.blk s H scope (compEnvC scope cl C X.env) fp) elt te) (hs : ∀ x, foldedSetIterable iter X.env x = pure x := by intro _; rfl) :
    PE X (.ListComp elt [⟨tg, iter, ifs, 0⟩] scope pos) (tLc wi g tt te (own.map (·.2))) := by
  intro pins s σ H Q I h
  rw [eval_ListComp]
  refine lc_core hc hN I hi ok hg ht he hs h fun D C s' m H' I' q hn f => ⟨m, hn, fun h'' sb => ?_⟩
  obtain ⟨f0, f1, f2, f3, f4, f5⟩ := f
  exact ⟨.ref D, H', I'.turned (t' := s'.toks) (fun b o hb e => (sb.2 b hb).trans e) f0 f1 f3 f4 f5, rfl, q⟩
theorem ps_setLc {i : Nat} {y : Str} {py : Pos} {elt tg iter : Expr} {ifs : List Expr} {scope : Scope} {own : List (Str × Nat)} {pos spos : Pos} {wi : TI} {g : TG} {tt : TT} {te : TE} (hc : X.calm = true) (hN : X.N.Nodup) (hy : X.N[i]? = some y) (hyl : X.env.scope.names.lookup y = some .local)
    (hsw : swapsWith (.ListComp elt [⟨tg, iter, ifs, 0⟩] scope pos) (some (.Name y py)) spos.line X.env = pure true) (hi : PI X tg iter wi) (ok : BlkOk X.N X.env.scope scope own)
    (hg : ∀ (s : Shared) (H : Hp) (C : Addr) (cl : List (Str × Addr)) (fp : List Addr), PG (X.blk s H scope (compEnvC scope cl C X.env) fp) tg g) (ht : ∀ (s : Shared) (H : Hp) (C : Addr) (cl : List (Str × Addr)) (fp : List Addr), PTs (X.blk s H scope (compEnvC scope cl C X.env) fp) ifs tt)
    (he : ∀ (s : Shared) (H : Hp) (C : Addr) (cl : List (Str × Addr)) (fp : List Addr), PE (X.blk s H scope (compEnvC scope cl C X.env) fp) elt te) (hs : ∀ x, foldedSetIterable iter X.env x = pure x := by intro _; rfl) :
    PS X (.Assign [.Name y py] (.ListComp elt [⟨tg, iter, ifs, 0⟩] scope pos) spos) (tAsg (tLc wi g tt te (own.map (·.2))) (gName i)) := by
  intro pins s σ H D I h
  rw [exec_Assign_Name_used _ _ _ _ hsw]
  refine wpAny_bind (wpAny_standAt (wpAny_bind ?_))
  show wpAny _ X.A (do let _ ← comprehension (.ListComp elt [⟨tg, iter, ifs, 0⟩] scope pos) scope X.env (firstIterPos [⟨tg, iter, ifs, 0⟩] pos) (newList []) false (eval iter X.env) (some (assign (.Name y py) X.env))) _ _ s
  have h : tLc wi g tt te (own.map (·.2)) σ H (fun x H1 => gName i x σ H1 D.nx) := h
  refine wpAny_bind (thn (lc_core (Qf := fun _ s' => SP X pins D .next s') hc hN I hi ok hg ht he hs h fun L C s' m H' I' q hn f => ?_) fun _ s' hq => wpAny_pure (wpAny_pure hq))
  show wpAny _ _ (assign (.Name y py) X.env (.ref L)) _ _ _
  refine wpAny_assign_Name (store_ok2 (v := V.ref L) I' hN hy (.inl hyl) rfl (fun s2 I2 ⟨a, sb, ha⟩ => ?_) (.inr hyl))
  obtain ⟨f0, f1, f2, f3, f4, f5⟩ := f
  have haC : C ≠ a := by
    rcases ha with z | z
    · rw [z]; exact f1
    · exact fun e => f4 y a z e.symm
  refine ⟨m, hn.sameBut sb haC, fun h3 sb3 => ?_⟩
  exact ⟨_, H', I2.turned (t' := s2.toks) (fun b o hb e => (sb3.2 b hb).trans e) f0 f1 f3 f4 f5, q⟩
theorem sw_true {elt : Expr} {gs : List Comprehension} {scope : Scope} {pos py : Pos} {y : Str} {l : Nat} {env : Env} (hk : env.scope.kind = .function) (hy : env.scope.names.lookup y = some .local) (hl : (py.line == pos.line) = true)
    (ha : (scope.names.any fun (n, k) => n == y && (k == .local || k == .cell)) = false) : swapsWith (.ListComp elt gs scope pos) (some (.Name y py)) l env = pure true := by
  have ky : env.kindOf y = some .local := hy
  have hb : env.blockKind = .function := by unfold Env.blockKind; rw [hk]; rfl
  unfold swapsWith
  simp only [hb, ky, ha, Expr.pos, hl]
  rfl
end
theorem lc_list {K : PySem.W.Frag} {a : Addr} {xs : List V} {g : TG} {tt : TT} {te : TE} {vs : List Nat} {σ : St} {H1 : Hp} {D : Addr} {Qd : Hp → Prop} (Pv : Nat → Hp → Prop) (h0 : Pv 0 (upd H1 D (.lst []))) (hl : ∀ i H, i ≤ xs.length → Pv i H → SqL K H a xs)
    (hs : ∀ i x H, xs[i]? = some x → Pv i H → g x (wipe σ vs) H fun σ2 H2 => wipe σ2 vs = wipe σ vs ∧ tt σ2 H2 fun b H3 =>
      if b = true then te σ2 H3 fun y H4 => ∃ acc, H4 D = some (.lst acc) ∧ acc.length < sizeLine ∧ Pv (i + 1) (upd H4 D (.lst (acc ++ [y]))) else Pv (i + 1) H3) (hd : ∀ H, Pv xs.length H → Qd H) :
    ∃ W : Nat → Nat → Hp → Prop, (∃ m, W 0 m (upd H1 D (.lst []))) ∧ ∀ i m H, W i m H →
      ((Itl K a).stop i H ∧ Qd H) ∨ ((Itl K a).go i H ∧ ∃ Nx : Hp → Prop, (∀ H', Nx H' → ∃ m', m' < m ∧ W (i + 1) m' H') ∧ ∀ x H', (Itl K a).yld i H x H' → g x (wipe σ vs) H' fun σ2 H2 => wipe σ2 vs = wipe σ vs ∧ tt σ2 H2 fun b H3 =>
        if b = true then te σ2 H3 fun y H4 => ∃ acc, H4 D = some (.lst acc) ∧ acc.length < sizeLine ∧ Nx (upd H4 D (.lst (acc ++ [y]))) else Nx H3) := by
  refine ⟨fun i m H => m = xs.length - i ∧ i ≤ xs.length ∧ Pv i H, ⟨xs.length, by simp, Nat.zero_le _, h0⟩, ?_⟩
  rintro i m H ⟨rfl, hi, p⟩
  have q := hl i H hi p
  by_cases hlt : i < xs.length
  · refine .inr ⟨⟨xs, xs[i], q, by simp [hlt]⟩, Pv (i + 1), fun H' p' => ⟨xs.length - (i + 1), by omega, rfl, hlt, p'⟩, fun x H' y => ?_⟩
    obtain ⟨e, y⟩ := y
    subst e
    exact hs i x _ (y xs q) p
  · have e : i = xs.length := by omega
    subst e
    exact .inl ⟨⟨xs, q, Nat.le_refl _⟩, hd H p⟩
def blkC (N : List Str) (sc scope : Scope) (own : List (Str × Nat)) : Bool :=
  (match scope.kind with | .function => true | _ => false) && (scope.names.all fun y => decide (scope.names.lookup y.1 = some y.2)) && (own.all fun p => decide (N[p.2]? = some p.1)) &&
    (scope.names.all fun y => match y.2 with
      | .free => (match sc.names.lookup y.1 with | some .cell => true | some .free => true | _ => false)
      | .local => decide (y.1 ∈ own.map (·.1)) || decide (y.1 ∉ N)
      | .cell => decide (y.1 ∈ own.map (·.1)) || decide (y.1 ∉ N)
      | _ => true)
theorem blkOk_by {N : List Str} {sc scope : Scope} {own : List (Str × Nat)} (h : blkC N sc scope own = true) : BlkOk N sc scope own := by
  unfold blkC at h
  simp only [Bool.and_eq_true, List.all_eq_true, decide_eq_true_eq] at h
  obtain ⟨⟨⟨h1, h2⟩, h3⟩, h4⟩ := h
  refine ⟨?_, h2, h3, fun y hy e => ?_, fun y hy e => ?_⟩
  · split at h1
    · assumption
    · cases h1
  · have q := h4 y hy
    simp only [e] at q
    split at q <;> first | exact .inl (by assumption) | exact .inr (by assumption) | cases q
  · have q := h4 y hy
    rcases e with e | e <;> (simp only [e, Bool.or_eq_true, decide_eq_true_eq] at q; exact q)
end L2
namespace L2
open PySem PySem.Spec PyProof.Rows
section
variable {prog : Program} {w : World} {A : Around} {R : Result → Shared → Prop} {s : Shared} {elt t0 i0 t1 i1 : Expr} {ifs0 ifs1 : List Expr} {scope : Scope} {pos : Pos} {it acc : Value} {env : Env}
end
section
variable {X : Cx}
end
end L2
namespace L2
open PySem PySem.Spec PyProof.Rows
section
variable {κ : Type} [DecidableEq κ]
def valV (kvs : List (κ × V)) (k : κ) : Option V := (kvs.find? fun kv => decide (kv.1 = k)).map (·.2)
def putK (kvs : List (κ × V)) (k : κ) (v : V) : List (κ × V) :=
  if (kvs.any fun kv => decide (kv.1 = k)) = true then kvs.map (fun kv => if kv.1 = k then (kv.1, v) else kv) else kvs ++ [(k, v)]
theorem valV_pos {p : κ × V} {r : List (κ × V)} {k : κ} (e : p.1 = k) : valV (p :: r) k = some p.2 := by simp [valV, List.find?_cons, e]
theorem valV_neg {p : κ × V} {r : List (κ × V)} {k : κ} (e : ¬ p.1 = k) : valV (p :: r) k = valV r k := by simp [valV, List.find?_cons, e]
theorem valV_any (k : κ) : ∀ kvs : List (κ × V), (kvs.any fun kv => decide (kv.1 = k)) = (valV kvs k).isSome
  | [] => rfl
  | p :: r => by
    rw [List.any_cons]
    by_cases e : p.1 = k
    · simp only [valV_pos e, decide_eq_true e, Bool.true_or, Option.isSome_some]
    · rw [valV_neg e, decide_eq_false e, Bool.false_or]; exact valV_any k r
theorem length_putK (kvs : List (κ × V)) (k : κ) (v : V) : (putK kvs k v).length ≤ kvs.length + 1 := by
  unfold putK
  split
  · rw [List.length_map]; omega
  · rw [List.length_append, List.length_cons, List.length_nil]; omega
theorem RelO.isSome_eq {o : Option V} {u : Option Value} (r : RelO o u) : o.isSome = u.isSome := by
  cases o with
  | none => cases u with
    | none => rfl
    | some _ => exact (show False from r).elim
  | some _ => cases u with
    | none => exact (show False from r).elim
    | some _ => rfl
theorem RelO.getD {o : Option V} {u : Option Value} {d : V} {d' : Value} (r : RelO o u) (rd : RelV d d') : RelV (o.getD d) (u.getD d') := by
  cases o with
  | none => cases u with
    | none => exact rd
    | some _ => exact (show False from r).elim
  | some _ => cases u with
    | none => exact (show False from r).elim
    | some _ => exact r
theorem KV.val {kvs : List (κ × V)} {vs : List (κ × Value)} (r : KV kvs vs) (k : κ) : RelO (valV kvs k) (valueAt vs k) := by
  unfold KV at r
  induction r with
  | nil => exact True.intro
  | @cons p q ps qs h t ih =>
    obtain ⟨h1, h2⟩ := h
    by_cases e : p.1 = k
    · have e' : q.1 = k := h1.symm.trans e
      have b : valueAt (q :: qs) k = some q.2 := by simp [valueAt, List.find?_cons, e']
      rw [valV_pos e, b]; exact h2
    · have e' : ¬ q.1 = k := fun z => e (h1.trans z)
      have b : valueAt (q :: qs) k = valueAt qs k := by simp [valueAt, List.find?_cons, e']
      rw [valV_neg e, b]; exact ih
theorem KV.any {kvs : List (κ × V)} {vs : List (κ × Value)} (r : KV kvs vs) (k : κ) : (kvs.any fun kv => decide (kv.1 = k)) = vs.any fun kv => decide (kv.1 = k) := by
  unfold KV at r
  induction r with
  | nil => rfl
  | cons h t ih => rw [List.any_cons, List.any_cons, ih, h.1]
theorem KV.repl {kvs : List (κ × V)} {vs : List (κ × Value)} (r : KV kvs vs) (k : κ) {y : V} {u : Value} (ry : RelV y u) :
    KV (kvs.map fun kv => if kv.1 = k then (kv.1, y) else kv) (vs.map fun kv => if kv.1 = k then (kv.1, u) else kv) := by
  unfold KV at r ⊢
  induction r with
  | nil => exact .nil
  | @cons p q ps qs h t ih =>
    rw [List.map_cons, List.map_cons]
    refine .cons ?_ ih
    obtain ⟨h1, h2⟩ := h
    by_cases e : p.1 = k
    · rw [if_pos e, if_pos (h1.symm.trans e)]; exact ⟨h1, ry⟩
    · rw [if_neg e, if_neg (fun z => e (h1.trans z))]; exact ⟨h1, h2⟩
theorem KV.put {kvs : List (κ × V)} {vs : List (κ × Value)} (r : KV kvs vs) (k : κ) {y : V} {u : Value} (ry : RelV y u) : KV (putK kvs k y) (stored vs k u) := by
  unfold putK stored
  rw [r.any k]
  by_cases e : (vs.any fun kv => decide (kv.1 = k)) = true
  · rw [if_pos e, if_pos e]; exact r.repl k ry
  · rw [if_neg e, if_neg e]; exact Paired.snoc r ⟨rfl, ry⟩
theorem KV.length {kvs : List (κ × V)} {vs : List (κ × Value)} (r : KV kvs vs) : kvs.length = vs.length := Paired.length r
end
theorem kV_is {P : Program} {w : World} {k : Key} {u : Value} (r : RelV (kV k) u) : (mixKind P w).is k u = true := by
  cases k with
  | inl i => obtain ⟨t, e⟩ := (show ∃ t, u = Value.int i t from r); subst e; exact mixKind_int P w i t
  | inr x => obtain ⟨t, e⟩ := (show ∃ t, u = Value.str x t from r); subst e; exact mixKind_str P w x t
theorem items_are {P : Program} {w : World} : ∀ {ks : List Key} {us : List Value}, Vals (ks.map kV) us → ItemsAre (mixKind P w) ks us
  | [], _, r => by rw [List.map_nil] at r; cases r; exact .nil
  | k :: ks, _, r => by
    rw [List.map_cons] at r
    cases r with
    | cons h t => exact .cons (kV_is h) (items_are t)
abbrev KT (H : Hp) : List (List Key × V) → List (List Key × Addr × Value) → Prop := Paired fun p q => p.1 = q.1 ∧ H q.2.1 = some (.tup (p.1.map kV)) ∧ RelV p.2 q.2.2
theorem KT.val {H : Hp} {kvs : List (List Key × V)} {xs : List (List Key × Addr × Value)} (r : KT H kvs xs) (k : List Key) : RelO (valV kvs k) ((atKey xs k).map (·.2)) := by
  induction r with
  | nil => exact True.intro
  | @cons p q ps qs h t ih =>
    obtain ⟨h1, _, h2⟩ := h
    by_cases e : p.1 = k
    · have e' : q.1 = k := h1.symm.trans e
      have b : atKey (q :: qs) k = some q.2 := by simp [atKey, List.find?_cons, e']
      rw [valV_pos e, b]; exact h2
    · have e' : ¬ q.1 = k := fun z => e (h1.trans z)
      have b : atKey (q :: qs) k = atKey qs k := by simp [atKey, List.find?_cons, e']
      rw [valV_neg e, b]; exact ih
theorem KT.repl {H : Hp} {kvs : List (List Key × V)} {xs : List (List Key × Addr × Value)} (r : KT H kvs xs) (k : List Key) {y : V} {u : Value} (ry : RelV y u) :
    KT H (kvs.map fun kv => if kv.1 = k then (kv.1, y) else kv) (xs.map (putAt k u)) := by
  induction r with
  | nil => exact .nil
  | @cons p q ps qs h t ih =>
    rw [List.map_cons, List.map_cons]
    refine .cons ?_ ih
    obtain ⟨h1, h2, h3⟩ := h
    unfold putAt
    by_cases e : p.1 = k
    · rw [if_pos e, if_pos (h1.symm.trans e)]; exact ⟨h1, h2, ry⟩
    · rw [if_neg e, if_neg (fun z => e (h1.trans z))]; exact ⟨h1, h2, h3⟩
theorem KT.put {H : Hp} {kvs : List (List Key × V)} {xs : List (List Key × Addr × Value)} (r : KT H kvs xs) (k : List Key) {b : Addr} {y : V} {u : Value} (hb : H b = some (.tup (k.map kV))) (ry : RelV y u) :
    KT H (putK kvs k y) (storedH xs k b u) := by
  have e : (kvs.any fun kv => decide (kv.1 = k)) = (atKey xs k).isSome := by
    rw [valV_any, (r.val k).isSome_eq, Option.isSome_map]
  unfold putK storedH
  rw [e]
  by_cases q : (atKey xs k).isSome = true
  · rw [if_pos q, if_pos q]; exact r.repl k ry
  · rw [if_neg q, if_neg q]; exact Paired.snoc r ⟨rfl, hb, ry⟩
theorem KT.keeps {H H' : Hp} {kvs : List (List Key × V)} {xs : List (List Key × Addr × Value)} (r : KT H kvs xs) (ht : ∀ b ys, H b = some (.tup ys) → H' b = some (.tup ys)) : KT H' kvs xs :=
  Paired.mapP r fun _ _ z => ⟨z.1, ht _ _ z.2.1, z.2.2⟩
section
variable {P : Program} {w : World} {H : Hp} {h : Heap} {a : Addr}
theorem rd_of {u : HO} (ok : HOk P w H h) (e : Rd H a u) : ObjOk P w H h a u := e.ok ok
theorem dk_rd {kvs : List (Key × V)} (ok : HOk P w H h) (e : Rd H a (.dK kvs)) : kvs.length ≤ sizeLine ∧ (a == sysModules) = false ∧ ∃ vs, KV kvs vs ∧ h.DictOf (mixKind P w) a vs :=
  show ObjOk P w H h a (.dK kvs) from rd_of ok e
theorem dk_of {kvs : List (Key × V)} (ok : HOk P w H h) (e : H a = some (.dK kvs)) : kvs.length ≤ sizeLine ∧ (a == sysModules) = false ∧ ∃ vs, KV kvs vs ∧ h.DictOf (mixKind P w) a vs := dk_rd ok (.inl e)
theorem key_of {ks : List Key} (ok : HOk P w H h) (e : H a = some (.tup (ks.map kV))) : (tupleKind (mixKind P w)).is h ks a := by
  obtain ⟨_, its, r, o, h1, h2, n, h3⟩ := (show ObjOk P w H h a (.tup (ks.map kV)) from ok a _ e)
  exact ⟨o, its.toArray, n, h1, h2, h3, by simpa using items_are r⟩
theorem dt_rd {kvs : List (List Key × V)} (ok : HOk P w H h) (e : Rd H a (.dT kvs)) : kvs.length ≤ sizeLine ∧ (a == sysModules) = false ∧
    ∃ xs, KT H kvs xs ∧ h.DictOfH (tupleKind (mixKind P w)) a xs := by
  obtain ⟨z, y, xs, r, o, es, ep, h1, h2, h3, h4, h5⟩ := (show ObjOk P w H h a (.dT kvs) from rd_of ok e)
  refine ⟨z, y, xs, r, o, es, ep, h1, h2, h3, h4, fun x hx => ?_, h5⟩
  have all : ∀ {l : List (List Key × V)} {m : List (List Key × Addr × Value)}, KT H l m → ∀ x ∈ m, (tupleKind (mixKind P w)).is h x.1 x.2.1 := by
    intro l m q
    induction q with
    | nil => intro x hx; exact nomatch hx
    | @cons p q ps qs hq t ih =>
      intro x hx
      rcases List.mem_cons.mp hx with e | hx
      · subst e
        exact key_of ok (by rw [← hq.1]; exact hq.2.1)
      · exact ih x hx
  exact all r x hx
theorem dt_of {kvs : List (List Key × V)} (ok : HOk P w H h) (e : H a = some (.dT kvs)) : kvs.length ≤ sizeLine ∧ (a == sysModules) = false ∧
    ∃ xs, KT H kvs xs ∧ h.DictOfH (tupleKind (mixKind P w)) a xs := dt_rd ok (.inl e)
end
def DGet (H : Hp) (a : Addr) (y : V) (r : Option V) : Prop :=
  (∃ kvs k, Rd H a (.dK kvs) ∧ y = kV k ∧ r = valV kvs k) ∨ ∃ kvs k b, Rd H a (.dT kvs) ∧ y = .ref b ∧ H b = some (.tup (k.map kV)) ∧ r = valV kvs k
def DPut (H : Hp) (a : Addr) (y v : V) (H' : Hp) : Prop :=
  (∃ kvs k, H a = some (.dK kvs) ∧ y = kV k ∧ kvs.length < sizeLine ∧ H' = upd H a (.dK (putK kvs k v))) ∨
  ∃ kvs k b, H a = some (.dT kvs) ∧ y = .ref b ∧ H b = some (.tup (k.map kV)) ∧ kvs.length < sizeLine ∧ H' = upd H a (.dT (putK kvs k v))
theorem DGet.k {H : Hp} {a : Addr} {kvs : List (Key × V)} {k : Key} (e : H a = some (.dK kvs)) : DGet H a (kV k) (valV kvs k) := .inl ⟨kvs, k, .inl e, rfl, rfl⟩
theorem DPut.k {H : Hp} {a : Addr} {kvs : List (Key × V)} {k : Key} {v : V} (e : H a = some (.dK kvs)) (hl : kvs.length < sizeLine) : DPut H a (kV k) v (upd H a (.dK (putK kvs k v))) := .inl ⟨kvs, k, e, rfl, hl, rfl⟩
section
variable {X : Cx} {pins : List (Addr × Obj)} {σ : St} {H : Hp} {s : Shared} {a : Addr} {y v : V} {u r : Value} {o : Option V} {A : Around} {E : Value → Shared → Prop}
theorem Inv.big (I : Inv X pins σ H s) : sysModules < s.heap.objs.size := by
  have h : mainGlobals < s.heap.objs.size := (I.mod.glob.keeps I.bk).lt
  exact Nat.lt_trans (by decide) h
theorem d_notIn {Q : Value → Shared → Prop} (hu : A.units + 1 < cLine) (I : Inv X pins σ H s) (g : DGet H a y o) (ry : RelV y u) (h : ∀ s', Inv X pins σ H s' → Q (.bool (!o.isSome)) s') :
    wpAny (model X.prog X.w) A (compareOp .NotIn u (.ref a)) Q E s := by
  rcases g with ⟨kvs, k, e, ey, l⟩ | ⟨kvs, k, b, e, ey, eb, l⟩
  · subst ey
    obtain ⟨z, hd, vs, rel, dd⟩ := dk_rd I.hok e
    refine wpAny_notIn_of (kV_is ry) hd dd.mapOf ?_
    rw [← (rel.val k).isSome_eq, ← l]
    exact h _ (I.tok _)
  · subst ey
    cases (show u = Value.ref b from ry)
    obtain ⟨z, hd, xs, rel, dd⟩ := dt_rd I.hok e
    refine wpAny_notIn_heap (tupleKind_room_in1 hu) (key_of I.hok eb) hd dd ?_
    have q := (rel.val k).isSome_eq
    rw [Option.isSome_map] at q
    rw [← q, ← l]
    exact h _ (I.tok _)
theorem d_write {h' : Heap} {t' : Nat} {ob : HO} (I : Inv X pins σ H s) (mu : Mut (H a)) (hs : Heap.SameBut a s.heap h') (he : ∃ q, h'.get? a = some q) (new : ObjOk X.prog X.w (upd H a ob) h' a ob) :
    Inv X pins σ (upd H a ob) { s with heap := h', toks := t' } :=
  I.write (x := a) (e := a) mu (.inl rfl) (fun b q hb z => (hs.2 b hb).trans z) he new
theorem dk_new {P : Program} {w : World} {H' : Hp} {h' : Heap} {kvs : List (Key × V)} {vs : List (Key × Value)} (z : kvs.length ≤ sizeLine) (hd : (a == sysModules) = false) (rel : KV kvs vs) (dd : h'.DictOf (mixKind P w) a vs) :
    ObjOk P w H' h' a (.dK kvs) := ⟨z, hd, vs, rel, dd⟩
theorem d_setItem {H' : Hp} {Q : Unit → Shared → Prop} (hu : A.units + 1 < cLine) (I : Inv X pins σ H s) (g : DPut H a y v H') (ry : RelV y u) (rv : RelV v r) (h : ∀ s', Inv X pins σ H' s' → Q () s') :
    wpAny (model X.prog X.w) A (setItem (.ref a) u r) Q E s := by
  rcases g with ⟨kvs, k, e, ey, l, eH⟩ | ⟨kvs, k, b, e, ey, eb, l, eH⟩
  · subst ey eH
    obtain ⟨z, hd, vs, rel, dd⟩ := dk_of I.hok e
    have hz : vs.length ≤ sizeLine := by rw [← rel.length]; exact z
    have hl : (putK kvs k v).length ≤ sizeLine := by have := length_putK kvs k v; omega
    refine wpAny_setItem_pairs (hsz := hz) (kV_is ry) dd fun h' dd' hs => h _ ?_
    have he : ∃ q, h'.get? a = some q := let ⟨q, _, _, hq, _⟩ := dd'; ⟨q, hq⟩
    exact d_write I (by rw [e]; exact True.intro) hs he (dk_new hl hd (rel.put k rv) dd')
  · subst ey eH
    cases (show u = Value.ref b from ry)
    obtain ⟨z, hd, xs, rel, dd⟩ := dt_of I.hok e
    have hz : xs.length ≤ sizeLine := by rw [← Paired.length rel]; exact z
    have hl : (putK kvs k v).length ≤ sizeLine := by have := length_putK kvs k v; omega
    refine wpAny_setItem_heap (hsz := hz) (tupleKind_room_in1 hu) (key_of I.hok eb) dd fun h' dd' hs => h _ ?_
    obtain ⟨q, es, ep, hq, h2, h3, h4, _, h5⟩ := dd'
    refine d_write I (by rw [e]; exact True.intro) hs ⟨q, hq⟩ ⟨hl, hd, _, (rel.put k eb rv).keeps fun c ys ec => ?_, q, es, ep, hq, h2, h3, h4, h5⟩
    rw [upd_ne (ne_of ec e (fun z => nomatch z))]
    exact ec
end
section
variable {X : Cx} {pins : List (Addr × Obj)} {σ : St} {H : Hp} {s : Shared} {a : Addr} {kvs : List (Key × V)} {k : Key} {u : Value} {A : Around} {E : Value → Shared → Prop}
end
def tDNotIn (ty td : TE) : TE := fun σ H Q => ty σ H fun y H1 => td σ H1 fun x H2 => ∃ a o, x = .ref a ∧ DGet H2 a y o ∧ Q (.bl (!o.isSome)) H2
def sDPut (td ty tv : TE) : TS := fun D σ H => tv σ H fun v H1 => td σ H1 fun x H2 => ty σ H2 fun y H3 => ∃ a H4, x = .ref a ∧ DPut H3 a y v H4 ∧ D.nx σ H4
section
variable {X : Cx} {o i e value : Expr} {pos pos' tpos : Pos} {td ty tv : TE}
theorem pc_dnotin (hu : X.A.units + 1 < cLine) (hi : PE X i ty) (ho : PE X o td) : PC X .NotIn i o (tDNotIn ty td) := by
  intro pins s σ H Q I h
  refine thn (hi pins s σ H _ I h) fun iv s1 ⟨y, H1, I1, ry, q1⟩ => thn (ho pins s1 σ H1 _ I1 q1) fun u s2 ⟨x, H2, I2, rx, a, ov, ex, g, q2⟩ => ?_
  subst ex
  obtain rfl : u = Value.ref a := rx
  exact d_notIn hu I2 g ry fun s3 I3 => ⟨.bl (!ov.isSome), H2, I3, rfl, q2⟩
theorem ps_dput (hu : X.A.units + 1 < cLine) (ho : PE X o td) (hi : PE X i ty) (hv : PE X value tv) (hs : swapsWith value (some (.Subscript o i pos')) pos.line X.env = pure false) :
    PS X (.Assign [.Subscript o i pos'] value pos) (sDPut td ty tv) := by
  intro pins s σ H D I h
  refine wpAny_Assign_Subscript (thn (hv pins s σ H _ I h) fun r s1 ⟨v, H1, I1, rv, q1⟩ => thn (ho pins s1 σ H1 _ I1 q1) fun u s2 ⟨x, H2, I2, rx, q2⟩ => thn (hi pins s2 σ H2 _ I2 q2) fun iv s3 ⟨y, H3, I3, ry, a, H4, ex, g, q3⟩ => ?_) hs
  subst ex
  obtain rfl : u = Value.ref a := rx
  exact d_setItem hu I3 g ry rv fun s4 I4 => ⟨σ, H4, I4, q3⟩
end
theorem dk_empty {P : Program} {w : World} {H : Hp} (h : Heap) (hb : sysModules < h.objs.size) : ObjOk P w H (h.push { cls := .type "dict", data := .dict #[] }) h.objs.size (.dK []) :=
  ⟨Nat.zero_le _, beq_eq_false_iff_ne.mpr (Ne.symm (Nat.ne_of_lt hb)), [], .nil, Heap.DictOf.new h⟩
def tDNewK : TE := fun _ H Q => ∀ p, H p = none → Q (.ref p) (upd H p (.dK []))
section
variable {X : Cx} {pos : Pos}
theorem pe_dnewK : PE X (.Dict [] [] pos) tDNewK := fun pins s σ H Q I h =>
  wpAny_Dict_empty ⟨.ref s.heap.objs.size, _, I.laid (a := s.heap.objs.size) (o := .dK []) (t' := s.toks) (fun _ _ q => Heap.get?_push_of_some _ q) (Nat.le_refl _) (dk_empty s.heap I.big), rfl, h _ (I.hok.fresh (Nat.le_refl _))⟩
end
def tPairs : List (TE × TE) → St → Hp → (List (V × V) → Hp → Prop) → Prop
  | [], _, H, Q => Q [] H
  | (tk, tv) :: r, σ, H, Q => tk σ H fun x H1 => tv σ H1 fun y H2 => tPairs r σ H2 fun ps H3 => Q ((x, y) :: ps) H3
abbrev VV : List (V × V) → List (Value × Value) → Prop := Paired fun p q => RelV p.1 q.1 ∧ RelV p.2 q.2
def PPs (X : Cx) (pos : Pos) (keys : List (Option Expr)) (values : List Expr) (trs : List (TE × TE)) : Prop :=
  ∀ (pins : List (Addr × Obj)) (s : Shared) (σ : St) (H : Hp) (Q : List (V × V) → Hp → Prop), Inv X pins σ H s → tPairs trs σ H Q →
    wpAny (model X.prog X.w) X.A (evalPairs (pairTrees keys values X.env pos)) (fun vs s' => ∃ ps H', Inv X pins σ H' s' ∧ VV ps vs ∧ Q ps H') X.xe s
theorem pps_nil {X : Cx} {pos : Pos} : PPs X pos [] [] [] := fun pins s σ H Q I h => pairTrees_nil_walk ⟨[], H, I, .nil, h⟩
theorem pps_cons {X : Cx} {pos : Pos} {k v : Expr} {ks : List (Option Expr)} {vs : List Expr} {tk tv : TE} {trs : List (TE × TE)} (hk : PE X k tk) (hv : PE X v tv) (hr : PPs X pos ks vs trs) :
    PPs X pos (some k :: ks) (v :: vs) ((tk, tv) :: trs) := fun pins s σ H Q I h =>
  pairTrees_cons_walk (thn (hk pins s σ H _ I h) fun u s1 ⟨x, H1, I1, rx, q1⟩ => thn (hv pins s1 σ H1 _ I1 q1) fun w2 s2 ⟨y, H2, I2, ry, q2⟩ =>
    thn (hr pins s2 σ H2 _ I2 q2) fun ws s3 ⟨ps, H3, I3, rel, q3⟩ => ⟨(x, y) :: ps, H3, I3, .cons ⟨rx, ry⟩ rel, q3⟩)
def mergeK (kvs more : List (Key × V)) : List (Key × V) := more.foldl (fun acc kv => putK acc kv.1 kv.2) kvs
theorem KV.merge : ∀ {more : List (Key × V)} {rs : List (Key × Value)} {kvs : List (Key × V)} {vs : List (Key × Value)}, KV more rs → KV kvs vs → KV (mergeK kvs more) (merged vs rs) := by
  intro more rs kvs vs r
  unfold KV at r
  induction r generalizing kvs vs with
  | nil => intro q; exact q
  | @cons p q ps qs h t ih =>
    intro r0
    have e : KV (putK kvs p.1 p.2) (stored vs q.1 q.2) := by
      have := r0.put p.1 h.2
      rw [← h.1]; exact this
    exact ih e
theorem length_mergeK : ∀ (more kvs : List (Key × V)), (mergeK kvs more).length ≤ kvs.length + more.length
  | [], kvs => by show kvs.length ≤ kvs.length + 0; omega
  | p :: r, kvs => by
    have h1 := length_mergeK r (putK kvs p.1 p.2)
    have h2 := length_putK kvs p.1 p.2
    show (mergeK (putK kvs p.1 p.2) r).length ≤ _
    rw [List.length_cons]; omega
theorem carries_of {P : Program} {w : World} : ∀ {kvs : List (Key × V)} {ws : List (Value × Value)}, VV (kvs.map fun kv => (kV kv.1, kv.2)) ws → ∃ rs, Carries (mixKind P w) ws rs ∧ KV kvs rs
  | [], _, r => by rw [List.map_nil] at r; cases r; exact ⟨[], True.intro, .nil⟩
  | p :: kvs, _, r => by
    rw [List.map_cons] at r
    cases r with
    | @cons a b as bs h t =>
      obtain ⟨rs, c, q⟩ := carries_of (P := P) (w := w) t
      obtain ⟨b1, b2⟩ := b
      exact ⟨(p.1, b2) :: rs, ⟨kV_is h.1, rfl, c⟩, .cons ⟨rfl, h.2⟩ q⟩
def tDisp (trs : List (TE × TE)) : TE := fun σ H Q => ∀ p, H p = none → tPairs trs σ (upd H p (.dK [])) fun ps H2 => H2 p = some (.dK []) ∧ ∃ kvs : List (Key × V), ps = kvs.map (fun kv => (kV kv.1, kv.2)) ∧ kvs.length ≤ 15 ∧ Q (.ref p) (upd H2 p (.dK (mergeK [] kvs)))
theorem pe_disp {X : Cx} {pos : Pos} {keys : List (Option Expr)} {values : List Expr} {trs : List (TE × TE)} (h : PPs X pos keys values trs) (hall : keys.all (·.isSome) = true) (hl : keys.length = values.length) (h0 : keys ≠ [])
    (h15 : keys.length ≤ 15) : PE X (.Dict keys values pos) (tDisp trs) := by
  intro pins s σ H Q I q
  have hn := I.hok.fresh (Nat.le_refl s.heap.objs.size)
  have I1 := I.laid (a := s.heap.objs.size) (o := .dK []) (h' := s.heap.push { cls := .type "dict", data := .dict #[] }) (t' := s.toks) (fun _ _ q => Heap.get?_push_of_some _ q) (Nat.le_refl _) (dk_empty s.heap I.big)
  refine wpAny_Dict_walk (knd := mixKind X.prog X.w) hall hl h0 h15 (thn (h pins _ σ _ _ I1 (q _ hn)) fun ws s2 ⟨ps, H2, I2, rel, e, kvs, ep, lk, q2⟩ => ?_)
  subst ep
  obtain ⟨rs, c, rk⟩ := carries_of (P := X.prog) (w := X.w) rel
  obtain ⟨z, hd, vs0, r0, dd⟩ := dk_of I2.hok e
  cases r0
  refine ⟨rs, c, dd, fun h' dd' hs => ⟨.ref s.heap.objs.size, _, ?_, rfl, q2⟩⟩
  have hz : (mergeK [] kvs).length ≤ sizeLine := by
    have h1 := length_mergeK kvs []
    rw [List.length_nil] at h1
    rw [sizeLine_eq]; omega
  have he : ∃ q, h'.get? s.heap.objs.size = some q := let ⟨q, _, _, hq, _⟩ := dd'; ⟨q, hq⟩
  exact d_write I2 (by rw [e]; exact True.intro) hs he (dk_new hz hd (rk.merge .nil) dd')
structure M1 (X : Cx) (o : Expr) (m : Str) (apos : Pos) (e : Expr) (cpos : Pos) : Prop where
  base : attributeBase o m X.env (eval o X.env) = eval o X.env
  few : ((backTo cpos (starEach [e] X.env)).all (fun x => !x.1) && (backToKw cpos (keywordEach [] X.env)).all (fun x => x.1.isSome)
    && decide (([e] : List Expr).length + ([] : List Keyword).length + (if ([] : List Keyword).isEmpty then 0 else 1) < 30)) = true
  line : (apos.endLine == cpos.line) = true
  trees : backTo cpos (starEach [e] X.env) = [(false, eval e X.env)]
structure M2 (X : Cx) (o : Expr) (m : Str) (apos : Pos) (e f : Expr) (cpos : Pos) : Prop where
  base : attributeBase o m X.env (eval o X.env) = eval o X.env
  few : ((backTo cpos (starEach [e, f] X.env)).all (fun x => !x.1) && (backToKw cpos (keywordEach [] X.env)).all (fun x => x.1.isSome)
    && decide (([e, f] : List Expr).length + ([] : List Keyword).length + (if ([] : List Keyword).isEmpty then 0 else 1) < 30)) = true
  line : (apos.endLine == cpos.line) = true
  trees : backTo cpos (starEach [e, f] X.env) = [(false, eval e X.env), (false, eval f X.env)]
def IsD (H : Hp) (a : Addr) : Prop := (∃ kvs, Rd H a (.dK kvs)) ∨ ∃ kvs, Rd H a (.dT kvs)
theorem isD_at {X : Cx} {pins : List (Addr × Obj)} {σ : St} {H : Hp} {s : Shared} {a : Addr} (I : Inv X pins σ H s) (d : IsD H a) :
    s.TypeIs (.ref a) "dict" ∧ (∀ b, Value.ref a = .ref b → ∃ ob, s.heap.get? b = some ob ∧ ob.dict = none) ∧ (a == sysModules) = false := by
  rcases d with ⟨kvs, e⟩ | ⟨kvs, e⟩
  · obtain ⟨_, hd, vs, _, dd⟩ := dk_rd I.hok e
    refine ⟨dd.typeIs, fun b q => ?_, hd⟩
    cases q
    obtain ⟨ob, _, _, h1, h2, _⟩ := dd
    exact ⟨ob, h1, h2.2.1⟩
  · obtain ⟨_, hd, xs, _, dd⟩ := dt_rd I.hok e
    refine ⟨dd.typeIs, fun b q => ?_, hd⟩
    cases q
    obtain ⟨ob, _, _, h1, h2, _⟩ := dd
    exact ⟨ob, h1, h2.2.1⟩
section
variable {X : Cx} {pins : List (Addr × Obj)} {σ : St} {H : Hp} {s : Shared} {a : Addr} {y d : V} {u r : Value} {o : Option V} {A : Around} {E : Value → Shared → Prop}
theorem d_get1 {Q : Value → Shared → Prop} (hu : A.units + 1 < cLine) (I : Inv X pins σ H s) (g : DGet H a y o) (ry : RelV y u) (h : ∀ w' s', Inv X pins σ H s' → RelV (o.getD .non) w' → Q w' s') :
    wpAny (model X.prog X.w) A (call (.builtin "dict.get") [.ref a, u]) Q E s := by
  rcases g with ⟨kvs, k, e, ey, l⟩ | ⟨kvs, k, b, e, ey, eb, l⟩
  · subst ey
    obtain ⟨z, hd, vs, rel, dd⟩ := dk_rd I.hok e
    refine call_meetsIn PySem.F.slot_dict_get dd.typeIs PySem.F.entry_dict_get (PySem.F.args_dict_get_2 _ _) (meets_dict_get (mixKind X.prog X.w) a (kV_is ry) hd) ⟨_, dd.mapOf, h _ _ (I.tok _) ?_⟩
    rw [l]
    exact (rel.val k).getD rfl
  · subst ey
    cases (show u = Value.ref b from ry)
    obtain ⟨z, hd, xs, rel, dd⟩ := dt_rd I.hok e
    refine call_meetsIn PySem.F.slot_dict_get dd.typeIs PySem.F.entry_dict_get (PySem.F.args_dict_get_2 _ _) (meetsH_dict_get (tupleKind (mixKind X.prog X.w)) a b hd) ⟨tupleKind_room_in1 hu, k, xs, key_of I.hok eb, dd, h _ _ (I.tok _) ?_⟩
    rw [l]
    exact (rel.val k).getD rfl
theorem d_get2 {Q : Value → Shared → Prop} (hu : A.units + 1 < cLine) (I : Inv X pins σ H s) (g : DGet H a y o) (ry : RelV y u) (rd : RelV d r) (h : ∀ w' s', Inv X pins σ H s' → RelV (o.getD d) w' → Q w' s') :
    wpAny (model X.prog X.w) A (call (.builtin "dict.get") [.ref a, u, r]) Q E s := by
  rcases g with ⟨kvs, k, e, ey, l⟩ | ⟨kvs, k, b, e, ey, eb, l⟩
  · subst ey
    obtain ⟨z, hd, vs, rel, dd⟩ := dk_rd I.hok e
    refine call_meetsIn PySem.F.slot_dict_get dd.typeIs PySem.F.entry_dict_get (PySem.F.args_dict_get_3 _ _ _) (meets_dict_get_default (mixKind X.prog X.w) a (kV_is ry) hd r) ⟨_, dd.mapOf, h _ _ (I.tok _) ?_⟩
    rw [l]
    exact (rel.val k).getD rd
  · subst ey
    cases (show u = Value.ref b from ry)
    obtain ⟨z, hd, xs, rel, dd⟩ := dt_rd I.hok e
    refine call_meetsIn PySem.F.slot_dict_get dd.typeIs PySem.F.entry_dict_get (PySem.F.args_dict_get_3 _ _ _) (meetsH_dict_get_default (tupleKind (mixKind X.prog X.w)) a b hd r) ⟨tupleKind_room_in1 hu, k, xs, key_of I.hok eb, dd, h _ _ (I.tok _) ?_⟩
    rw [l]
    exact (rel.val k).getD rd
end
def tDGet1 (td ty : TE) : TE := fun σ H Q => td σ H fun x H1 => ∃ a, x = .ref a ∧ IsD H1 a ∧ ty σ H1 fun y H2 => ∃ o, DGet H2 a y o ∧ Q (o.getD .non) H2
def tDGet2 (td ty tx : TE) : TE := fun σ H Q => td σ H fun x H1 => ∃ a, x = .ref a ∧ IsD H1 a ∧ ty σ H1 fun y H2 => tx σ H2 fun z H3 => ∃ o, DGet H3 a y o ∧ Q (o.getD z) H3
section
variable {X : Cx} {o e f : Expr} {apos cpos : Pos} {td ty tx : TE}
theorem pe_dget1 (hu : X.A.units + 1 < cLine) (ho : PE X o td) (he : PE X e ty) (m : M1 X o "get" apos e cpos) : PE X (.Call (.Attribute o "get" apos) [e] [] cpos) (tDGet1 td ty) := by
  intro pins s σ H Q I h
  refine wpAny_Call_method m.base m.few m.line PySem.F.plainAttrs_dict PySem.F.slot_dict_get PySem.F.type_dict_get (thn (ho pins s σ H _ I h) fun u s1 ⟨x, H1, I1, rx, a, ex, d, q1⟩ => ?_)
  subst ex
  obtain rfl : u = Value.ref a := rx
  obtain ⟨t1, t2, _⟩ := isD_at I1 d
  refine ⟨t1, t2, ?_⟩
  rw [m.trees]
  refine Calls.callWith_builtin rfl (Calls.evalArgs_plain (Calls.spliced_cons (thn (he pins s1 σ H1 _ I1 q1) fun iv s2 ⟨y, H2, I2, ry, ov, g, q2⟩ => Calls.spliced_nil ?_)))
  exact d_get1 hu I2 g ry fun w' s3 I3 rw' => ⟨_, H2, I3, rw', q2⟩
theorem pe_dget2 (hu : X.A.units + 1 < cLine) (ho : PE X o td) (he : PE X e ty) (hf : PE X f tx) (m : M2 X o "get" apos e f cpos) : PE X (.Call (.Attribute o "get" apos) [e, f] [] cpos) (tDGet2 td ty tx) := by
  intro pins s σ H Q I h
  refine wpAny_Call_method m.base m.few m.line PySem.F.plainAttrs_dict PySem.F.slot_dict_get PySem.F.type_dict_get (thn (ho pins s σ H _ I h) fun u s1 ⟨x, H1, I1, rx, a, ex, d, q1⟩ => ?_)
  subst ex
  obtain rfl : u = Value.ref a := rx
  obtain ⟨t1, t2, _⟩ := isD_at I1 d
  refine ⟨t1, t2, ?_⟩
  rw [m.trees]
  refine Calls.callWith_builtin rfl (Calls.evalArgs_plain (Calls.spliced_cons (thn (he pins s1 σ H1 _ I1 q1) fun iv s2 ⟨y, H2, I2, ry, q2⟩ =>
    Calls.spliced_cons (thn (hf pins s2 σ H2 _ I2 q2) fun fv s3 ⟨z, H3, I3, rz, ov, g, q3⟩ => Calls.spliced_nil ?_))))
  exact d_get2 hu I3 g ry rz fun w' s4 I4 rw' => ⟨_, H3, I4, rw', q3⟩
end
section
variable {X : Cx} {pins : List (Addr × Obj)} {σ : St} {H : Hp} {s : Shared} {a : Addr} {kvs : List (Key × V)} {A : Around} {E : Value → Shared → Prop}
end
section
variable {X : Cx} {pins : List (Addr × Obj)} {σ : St} {H : Hp} {s : Shared} {a : Addr} {y : V} {u : Value} {A : Around} {E : Value → Shared → Prop}
end
end L2
namespace L2
open PySem PySem.Spec PyProof.Rows
section
variable {prog : Program} {w : World} {A : Around} {E : Value → Shared → Prop}
end
section
variable {X : Cx}
end
end L2
namespace L2
open PySem PySem.Spec PyProof.Rows
section
variable {X : Cx} {pins : List (Addr × Obj)} {σ : St} {H : Hp} {s : Shared} {h' : Heap}
theorem Inv.turnedNew {t' : Nat} {ch : List Addr} {T : Addr} {ob : HO} (I : Inv X pins σ H s) (k : ∀ b o, b ∉ ch → s.heap.get? b = some o → h'.get? b = some o) (hf : ∀ b ∈ ch, FpOk X pins H b) (hT : s.heap.objs.size ≤ T)
    (new : ObjOk X.prog X.w (upd H T ob) h' T ob) : Inv X pins σ (upd H T ob) { s with heap := h', toks := t' } := by
  have hn : H T = none := I.hok.fresh hT
  have nit : ∀ b u, H b = some u → b ∉ ch := fun b u e z => by
    have q := (hf b z).1
    rw [q] at e; cases e
  refine I.step (g' := s.gens) (d' := s.drawn) (ch := ch) (fun b hb => ⟨(hf b hb).2.2.2.1, (hf b hb).2.1, (hf b hb).2.2.2.2.1, (hf b hb).2.2.2.2.2⟩) (fun b o _ _ hc e _ => k b o hc e) (fun b o _ _ hc e _ => ⟨o.slots, k b o hc e⟩)
    (fun b o _ e n => ?_) (fun b o hc e => ⟨o, k b o hc e⟩) (fun b xs e => ?_) (fun b o u e => ?_) (fun b ps e => ⟨#[], ?_⟩) (fun m hm => ?_) (fun b u e => ?_) I.bare
  · rw [upd_ne (Nat.ne_of_lt (Nat.lt_of_lt_of_le (Heap.lt_size e) hT))]; exact n
  · rw [upd_ne (ne_of_none e hn)]; exact e
  · rw [upd_ne (ne_of_none e hn)]; exact e
  · rw [upd_ne (ne_of_none e hn), e]; simp
  · obtain ⟨o, es, ep, ho, r⟩ := hm
    exact ⟨o, es, ep, k _ o (fun z => (hf _ z).2.1 rfl) ho, r⟩
  · by_cases hb : b = T
    · subst hb
      rw [upd_same] at e
      cases e
      exact new
    · rw [upd_ne hb] at e
      refine (I.hok b u e).stay (fun c v hc q => k c v ?_ q) (fun c q => by rw [upd_ne (ne_of_none q hn)]; exact q) fun c xs q => by rw [upd_ne (ne_of_none q hn)]; exact q
      rcases hc with z | z
      · rw [z]; exact nit b u e
      · exact nit c _ z
theorem Inv.lock {d : Addr} {u : HO} (I : Inv X pins σ H s) (h : H d = some u) (mu : Mut (some u)) : ∃ od, Inv X pins σ (upd H d (.frz od u)) s := by
  have x := I.hok d u h
  have ex : ∃ od, s.heap.get? d = some od := by
    cases u with
    | lst xs => obtain ⟨_, _, _, _, e⟩ := x; exact ⟨_, e⟩
    | dK kvs => obtain ⟨_, _, _, _, o, _, _, e, _⟩ := x; exact ⟨o, e⟩
    | dT kvs => obtain ⟨_, _, _, _, o, _, _, e, _⟩ := x; exact ⟨o, e⟩
    | set S n => obtain ⟨o, _, _, _, e, _⟩ := x; exact ⟨o, e⟩
    | ins C dx fs => obtain ⟨_, _, _, e, _⟩ := x; exact ⟨_, e⟩
    | ext φ => obtain ⟨_, ⟨_, e⟩, _⟩ := x; exact ⟨_, e⟩
    | _ => exact False.elim mu
  obtain ⟨od, e⟩ := ex
  have new : ObjOk X.prog X.w (upd H d (.frz od u)) s.heap d (.frz od u) := by
    refine ⟨e, x.stay (fun b v _ q => q) (fun b q => ?_) fun b xs q => ?_⟩
    · rw [upd_ne (fun z => by rw [z, h] at q; cases q; exact mu)]; exact q
    · rw [upd_ne (fun z => by rw [z, h] at q; cases q; exact mu)]; exact q
  exact ⟨od, I.write (x := d) (e := d) (t' := s.toks) (h' := s.heap) (by rw [h]; exact mu) (.inl rfl) (fun b v _ q => q) ⟨od, e⟩ new⟩
theorem Inv.nofrz {d : Addr} {u : HO} (I : Inv X pins σ H s) (h : H d = some u) (mu : Mut (some u)) : ∀ o' u', X.H_0 d ≠ some (.frz o' u') := fun o' u' e => by
  have q := I.base.frzs d o' u' e
  rw [h] at q
  cases q
  exact mu
theorem Inv.unlock {d : Addr} {od : Obj} {u : HO} (I : Inv X pins σ H s) (h : H d = some (.frz od u)) (hn : ∀ o' u', X.H_0 d ≠ some (.frz o' u')) : Inv X pins σ (upd H d u) s := by
  have neH : ∀ b o, H b = some o → (∀ o' u', o ≠ .frz o' u') → b ≠ d := fun b o e hne z => by
    rw [z, h] at e
    cases e
    exact hne _ _ rfl
  have neN : ∀ b, H b = none → b ≠ d := fun b e z => by rw [z, h] at e; cases e
  refine ⟨I.ok, I.os, I.bare, ⟨I.base.keep, I.base.slot, fun b o e n hx => ?_, I.base.there, fun b xs e => ?_, fun b o x e => ?_, fun b ps e => ?_⟩, I.loc, I.cell, ?_, fun x c e => ?_, fun p hp => ?_, fun b o e => ?_, I.len⟩
  · rw [upd_ne (neN b (I.base.free b o e n hx))]; exact I.base.free b o e n hx
  · have q := I.base.tups b xs e
    rw [upd_ne (neH b _ q (fun _ _ z => nomatch z))]; exact q
  · have q := I.base.frzs b o x e
    rw [upd_ne (fun z => by rw [z] at e; exact hn _ _ e)]; exact q
  · obtain ⟨m, q⟩ := I.base.tbls b ps e
    exact ⟨m, by rw [upd_ne (neH b _ q (fun _ _ z => nomatch z))]; exact q⟩
  · rw [upd_ne (neN _ I.free)]; exact I.free
  · rw [upd_ne (neN c (I.freeC x c e))]; exact I.freeC x c e
  · obtain ⟨e, n, r⟩ := I.pin p hp
    exact ⟨e, by rw [upd_ne (neN _ n)]; exact n, r⟩
  · by_cases hb : b = d
    · rw [hb, upd_same] at e
      cases e
      rw [hb]
      obtain ⟨_, x⟩ := I.hok d _ h
      exact x.stay (fun c v _ q => q) (fun c q => by rw [upd_ne (neH c _ q (fun _ _ z => nomatch z))]; exact q) fun c xs q => by rw [upd_ne (neH c _ q (fun _ _ z => nomatch z))]; exact q
    · rw [upd_ne hb] at e
      exact (I.hok b o e).stay (fun c v _ q => q) (fun c q => by rw [upd_ne (neH c _ q (fun _ _ z => nomatch z))]; exact q) fun c xs q => by rw [upd_ne (neH c _ q (fun _ _ z => nomatch z))]; exact q
end
def tLock (t : TS) : TS := fun D σ H => ∃ d u, H d = some u ∧ Mut (some u) ∧ ∀ od, t ⟨fun σ' H' => H' d = some (.frz od u) ∧ D.nx σ' (upd H' d u), fun v H' => H' d = some (.frz od u) ∧ D.rt v (upd H' d u), fun σ' H' => H' d = some (.frz od u) ∧ D.bk σ' (upd H' d u), fun σ' H' => H' d = some (.frz od u) ∧ D.ct σ' (upd H' d u)⟩ σ (upd H d (.frz od u))
section
variable {X : Cx}
theorem ps_lock {st : Stmt} {t : TS} (h : PS X st t) : PS X st (tLock t) := by
  intro pins s σ H D I hw
  obtain ⟨d, u, hd, mu, hw⟩ := hw
  obtain ⟨od, I1⟩ := I.lock hd mu
  refine thn (h pins s σ _ _ I1 (hw od)) fun f s1 q => ?_
  cases f with
  | next => obtain ⟨σ', H', I2, e, q⟩ := q; exact ⟨σ', _, I2.unlock e (I.nofrz hd mu), q⟩
  | brk => obtain ⟨σ', H', I2, e, q⟩ := q; exact ⟨σ', _, I2.unlock e (I.nofrz hd mu), q⟩
  | cont => obtain ⟨σ', H', I2, e, q⟩ := q; exact ⟨σ', _, I2.unlock e (I.nofrz hd mu), q⟩
  | ret v => obtain ⟨x, σ', H', I2, r, e, q⟩ := q; exact ⟨x, σ', _, I2.unlock e (I.nofrz hd mu), r, q⟩
theorem pi_one {tg : Expr} {pins : List (Addr × Obj)} {σ : St} {H : Hp} {s : Shared} {R : It → Hp → Prop} {J : It} {tn : Nat → Heap → Prop} {tk : Nat} (I : Inv X pins σ H s) (o : Obj)
    (T : Turn X.prog X.w X.K tg J [s.heap.objs.size] s.heap.objs.size tn) (st : tn 0 (s.heap.push o)) (q : R J H) : PIE X pins σ tg R (.ref s.heap.objs.size) { s with heap := s.heap.push o, toks := tk } := by
  refine ⟨s.heap.objs.size, [s.heap.objs.size], tn, J, H, rfl, I.kept fun b ob e => Heap.get?_push_of_some _ e, T, st, fun b hb => ?_, q⟩
  have e : b = s.heap.objs.size := by simpa using hb
  subst e
  exact I.fpOk (Nat.le_refl _) (I.hok.fresh (Nat.le_refl _))
end
section
variable {X : Cx} {tg : Expr}
end
section
variable {X : Cx} {tg : Expr}
end
section
variable {prog : Program} {w : World} {A : Around} {E : Value → Shared → Prop} {s : Shared}
end
theorem kv_get {κ : Type} {kvs : List (κ × V)} {vs : List (κ × Value)} (h : KV kvs vs) : ∀ {i : Nat} {k : κ} {v : V}, kvs[i]? = some (k, v) → ∃ u, vs[i]? = some (k, u) ∧ RelV v u := by
  unfold KV at h
  induction h with
  | nil => intro i k v e; simp at e
  | @cons a b l₁ l₂ r t ih =>
    intro i k v e
    cases i with
    | zero =>
      simp only [List.getElem?_cons_zero, Option.some.injEq] at e
      subst e
      refine ⟨b.2, ?_, r.2⟩
      simp only [List.getElem?_cons_zero]
      exact congrArg some (Prod.ext r.1.symm rfl)
    | succ j =>
      simp only [List.getElem?_cons_succ] at e ⊢
      exact ih e
theorem paired_get {α β : Type} {G : α → β → Prop} {l₁ : List α} {l₂ : List β} (h : Paired G l₁ l₂) : ∀ {i : Nat} {a : α}, l₁[i]? = some a → ∃ b, l₂[i]? = some b ∧ G a b := by
  induction h with
  | nil => intro i a e; simp at e
  | @cons a b l₁ l₂ r t ih =>
    intro i a' e
    cases i with
    | zero =>
      simp only [List.getElem?_cons_zero, Option.some.injEq] at e
      subst e
      exact ⟨b, rfl, r⟩
    | succ j =>
      simp only [List.getElem?_cons_succ] at e ⊢
      exact ih e
theorem relV_key {k : Key} {u : Value} (h : keyIs k u = true) : RelV (kV k) u := by
  rcases keyIs_shape h with ⟨i, t, rfl, rfl⟩ | ⟨x, t, rfl, rfl⟩
  · exact ⟨t, rfl⟩
  · exact ⟨t, rfl⟩
section
variable {X : Cx} {pins : List (Addr × Obj)} {σ : St} {H : Hp} {s : Shared} {d : Addr} {o : Obj}
theorem Inv.frzK {kvs : List (Key × V)} (I : Inv X pins σ H s) (h : H d = some (.frz o (.dK kvs))) :
    (d == sysModules) = false ∧ s.heap.get? d = some o ∧ o.ExactDict ∧ ∃ (es : Array DictEntry) (ep : Nat) (vs : List (Key × Value)), o.data = .dict es ep ∧ es.size = kvs.length ∧ KV kvs vs ∧ s.heap.DictAt (mixKind X.prog X.w) d vs ep := by
  obtain ⟨hd, z, hs, vs, kv, o', es, ep, ho, hx, hdt, r⟩ := I.hok d _ h
  rw [hd] at ho
  cases ho
  refine ⟨hs, hd, hx, es, ep, vs, hdt, ?_, kv, o, es, hd, hx, hdt, r⟩
  have l1 := r.2.1.length
  have l2 : kvs.length = vs.length := Paired.length kv
  rw [Array.length_toList] at l1
  omega
end
def Itd (d : Addr) (o : Obj) (kvs : List (Key × V)) : It :=
  ⟨fun i H => H d = some (.frz o (.dK kvs)) ∧ i < kvs.length, fun i H x H' => H' = H ∧ ∃ k, kvs[i]? = some (k, x), fun i H => H d = some (.frz o (.dK kvs)) ∧ kvs.length ≤ i⟩
def Iti (d : Addr) (o : Obj) (kvs : List (Key × V)) : It :=
  ⟨fun i H => H d = some (.frz o (.dK kvs)) ∧ i < kvs.length, fun i H x H' => ∃ T k v, kvs[i]? = some (k, v) ∧ x = .ref T ∧ H T = none ∧ H' = upd H T (.tup [kV k, v]), fun i H => H d = some (.frz o (.dK kvs)) ∧ kvs.length ≤ i⟩
theorem dict_ep {o : Obj} {es es' : Array DictEntry} {ep ep' : Nat} (h : o.data = .dict es ep) (h' : o.data = .dict es' ep') : es' = es ∧ ep' = ep := by
  rw [h] at h'
  cases h'
  exact ⟨rfl, rfl⟩
section
variable {P : Program} {w : World} {K : PySem.W.Frag} {tg : Expr} {d : Addr} {o : Obj} {es : Array DictEntry} {ep : Nat}
theorem turn_vals {kvs : List (Key × V)} (it : Addr) (hod : o.data = .dict es ep) : Turn P w K tg (Itd d o kvs) [it] it (fun i h => h.IsValIter it d i kvs.length ep) where
  mem := by simp
  obj := fun i h st b hb => by
    have e : b = it := by simpa using hb
    subst e
    obtain ⟨oi, e, c, dd⟩ := st
    exact ⟨oi, e, fun v z => by rw [dd] at z; cases z⟩
  keep := fun i h h' st k => st.at fun oi e => k it (by simp) oi e
  item := by
    intro X hP hw hK hc i pins s σ H E I hf st hg
    subst hP hw hK
    obtain ⟨hd, hi⟩ := hg
    obtain ⟨f0, f1, f2, f3, f4, f5⟩ := hf it (by simp)
    obtain ⟨hs, hgd, hx, es', ep', vs, hdt, hsz, kv, hm⟩ := I.frzK hd
    obtain ⟨rfl, rfl⟩ := dict_ep hod hdt
    obtain ⟨⟨k, v⟩, hkv⟩ : ∃ p, kvs[i]? = some p := ⟨kvs[i], List.getElem?_eq_getElem hi⟩
    obtain ⟨u, hu, ru⟩ := kv_get kv hkv
    have hl : kvs.length = vs.length := Paired.length kv
    rw [hl] at st
    refine wpAny_pyNext_values_item st hm hu fun h' st' sb => ?_
    have I1 : Inv X pins σ H { s with heap := h' } := I.turned (t' := s.toks) (fun b ob hb e => (sb.2 b hb).trans e) f0 f1 f3 f4 f5
    obtain ⟨oi, e, c, dd⟩ := id st'
    refine ⟨u, rfl, go_of (s := { s with heap := h' }) e c dd (by decide) ⟨v, H, I1, ru, ⟨rfl, k, hkv⟩, ?_, fun b hb => (hf b hb).1⟩⟩
    show h'.IsValIter it d (i + 1) kvs.length _
    rw [hl]
    exact st'
  done := by
    intro X hP hw hK hc i pins s σ H E I hf st hg
    subst hP hw hK
    obtain ⟨hd, hi⟩ := hg
    obtain ⟨f0, f1, f2, f3, f4, f5⟩ := hf it (by simp)
    obtain ⟨hs, hgd, hx, es', ep', vs, hdt, hsz, kv, hm⟩ := I.frzK hd
    obtain ⟨rfl, rfl⟩ := dict_ep hod hdt
    have hl : kvs.length = vs.length := Paired.length kv
    rw [hl] at st
    exact wpAny_pyNext_values_end (I.ok.hd hc) st hm (List.getElem?_eq_none (by omega)) fun h' eb => ⟨rfl, I.turned (t' := s.toks) (fun b ob hb e => eb b ob hb e) f0 f1 f3 f4 f5⟩
  self := fun A i s Q E st h => wpAny_pyIter_valiter st h
theorem turn_items {kvs : List (Key × V)} {elts : List Expr} {kk : Nat} {tpos : Pos} (it : Addr) (hod : o.data = .dict es ep) :
    Turn P w K (.Tuple elts kk tpos) (Iti d o kvs) [it] it (fun i h => ∃ ok ov, IsItemIter h it d i kvs.length ep ok ov) where
  mem := by simp
  obj := fun i h st b hb => by
    have e : b = it := by simpa using hb
    subst e
    obtain ⟨ok, ov, e⟩ := st
    exact ⟨_, e, fun v z => nomatch z⟩
  keep := fun i h h' st k => let ⟨ok, ov, e⟩ := st; ⟨ok, ov, k it (by simp) _ e⟩
  item := by
    intro X hP hw hK hc i pins s σ H E I hf st hg
    subst hP hw hK
    obtain ⟨hd, hi⟩ := hg
    obtain ⟨hs, hgd, hx, es', ep', vs, hdt, hsz, kv, hm⟩ := I.frzK hd
    obtain ⟨rfl, rfl⟩ := dict_ep hod hdt
    obtain ⟨⟨k, v⟩, hkv⟩ : ∃ p, kvs[i]? = some p := ⟨kvs[i], List.getElem?_eq_getElem hi⟩
    obtain ⟨u, hu, ru⟩ := kv_get kv hkv
    have hl : kvs.length = vs.length := Paired.length kv
    obtain ⟨ok, ov, he⟩ := st
    rw [hl] at he
    have hlt : it < s.heap.objs.size := Heap.lt_size he
    refine wpAny_pyNext_items_item he hm hu fun key h' hkey ho hT hz hk => ?_
    refine ⟨_, rfl, wpAny_letOwnedTupleGo_items (s := { s with heap := h' }) ho fun h'' he' sb => ?_⟩
    have hT2 : h''.get? s.heap.objs.size = some { cls := .type "tuple", data := .seq #[key, u] } := (sb.2 _ (Nat.ne_of_gt hlt)).trans hT
    have new : ObjOk X.prog X.w (upd H s.heap.objs.size (.tup [kV k, v])) h'' s.heap.objs.size (.tup [kV k, v]) :=
      ⟨by show 2 ≤ sizeLine; decide, [key, u], .cons (relV_key (show keyIs k key = true from hkey)) (.cons ru .nil), ⟨_, hT2, rfl, _, rfl⟩⟩
    have I1 : Inv X pins σ (upd H s.heap.objs.size (.tup [kV k, v])) { s with heap := h'' } :=
      I.turnedNew (t' := s.toks) (ch := [it]) (fun b ob hb e => (sb.2 b (by simpa using hb)).trans (hk b ob (by simpa using hb) e)) hf (Nat.le_refl _) new
    refine ⟨.ref s.heap.objs.size, _, I1, rfl, ⟨_, k, v, hkv, rfl, I.hok.fresh (Nat.le_refl _), rfl⟩, ⟨key, u, ?_⟩, fun b hb => ?_⟩
    · rw [hl]; exact he'
    · have e : b = it := by simpa using hb
      rw [e, upd_ne (Nat.ne_of_lt hlt)]
      exact (hf it (by simp)).1
  done := by
    intro X hP hw hK hc i pins s σ H E I hf st hg
    subst hP hw hK
    obtain ⟨hd, hi⟩ := hg
    obtain ⟨f0, f1, f2, f3, f4, f5⟩ := hf it (by simp)
    obtain ⟨hs, hgd, hx, es', ep', vs, hdt, hsz, kv, hm⟩ := I.frzK hd
    obtain ⟨rfl, rfl⟩ := dict_ep hod hdt
    have hl : kvs.length = vs.length := Paired.length kv
    obtain ⟨ok, ov, he⟩ := st
    rw [hl] at he
    exact wpAny_pyNext_items_end (I.ok.hd hc) he hm (List.getElem?_eq_none (by omega)) fun h' eb => ⟨rfl, I.turned (t' := s.toks) (fun b ob hb e => eb b ob hb e) f0 f1 f3 f4 f5⟩
  self := fun A i s Q E st h => let ⟨_, _, e⟩ := st; PySem.W.kcp_self e h
end
def iItems (td : TE) : TI := fun σ H R => td σ H fun x H1 => ∃ d o kvs, x = .ref d ∧ H1 d = some (.frz o (.dK kvs)) ∧ R (Iti d o kvs) H1
section
variable {X : Cx} {tg e : Expr} {td : TE} {apos cpos : Pos}
theorem pi_items {elts : List Expr} {kk : Nat} {tpos : Pos} (he : PE X e td) (hbase : attributeBase e "items" X.env (eval e X.env) = eval e X.env := by rfl) (hline : (apos.endLine == cpos.line) = true := by rfl) :
    PI X (.Tuple elts kk tpos) (.Call (.Attribute e "items" apos) [] [] cpos) (iItems td) := by
  intro pins s σ H R I h
  refine wpAny_Call_method (T := "dict") (id := "dict.items") hbase rfl hline F.plainAttrs_dict F.slot_dict_items F.type_dict_items (thn (he pins s σ H _ I h) fun u s1 ⟨x, H1, I1, rx, d, o, kvs, ex, hd, q⟩ => ?_)
  subst ex
  obtain rfl : u = Value.ref d := rx
  obtain ⟨hs, hgd, hx, es, ep, vs, hdt, hsz, kv, hm⟩ := I1.frzK hd
  have hl : kvs.length = vs.length := Paired.length kv
  refine ⟨hm.dictOf.typeIs, hm.dictOf.mapOf.noDict, ?_⟩
  have I2 : Inv X pins σ H1 { s1 with heap := s1.heap.push { cls := .type "dict_items", data := .fields #[.ref d] } } := I1.kept (t' := s1.toks) fun b ob q => Heap.get?_push_of_some _ q
  have fin : wpAny (model X.prog X.w) X.A (pyIter (.ref s1.heap.objs.size)) (PIE X pins σ (.Tuple elts kk tpos) R) X.xe { s1 with heap := s1.heap.push { cls := .type "dict_items", data := .fields #[.ref d] } } := by
    refine wpAny_pyIter_items (d := d) (knd := mixKind X.prog X.w) ⟨_, Heap.get?_push_size _ rfl, rfl, rfl⟩ (hm.push _) (pi_one (tk := s1.toks) I2 _ (turn_items _ hdt) ⟨.none, .none, ?_⟩ q)
    rw [hl]
    exact Heap.get?_push_size _ rfl
  show wpAny _ _ (callWith cpos (.builtin "dict.items") [.ref d] [] []) _ X.xe s1
  exact method_meetsIn F.slot_dict_items F.entry_dict_items rfl (PySem.evalArgs_none ⟨rfl, hm.dictOf.typeIs, F.args_dict_items_1 _, _, meets_dict_items (mixKind X.prog X.w) d hs, ⟨vs, hm.dictOf⟩, fin⟩)
end
def Ite (K : PySem.W.Frag) (a : Addr) : It :=
  ⟨fun i H => ∃ (xs : List V) (x : V), SqL K H a xs ∧ xs[i]? = some x, fun i H v H' => ∃ T x, v = .ref T ∧ H T = none ∧ H' = upd H T (.tup [.int (i : Nat), x]) ∧ ∀ xs, SqL K H a xs → xs[i]? = some x, fun i H => ∃ xs : List V, SqL K H a xs ∧ xs.length ≤ i⟩
theorem turn_enum {P : Program} {w : World} {K : PySem.W.Frag} {elts : List Expr} {kk : Nat} {tpos : Pos} (a e it : Addr) :
    Turn P w K (.Tuple elts kk tpos) (Ite K a) [e, it] e (fun i h => (∃ old, IsEnum h e it ((i : Nat) : Int) old) ∧ h.IsListIter it a i ∧ e ≠ it) where
  mem := by simp
  obj := fun i h st b hb => by
    obtain ⟨⟨old, he⟩, ⟨o, ho, hc, hd⟩, _⟩ := st
    have e' : b = e ∨ b = it := by simpa using hb
    rcases e' with z | z
    · rw [z]; exact ⟨_, he, fun v q => nomatch q⟩
    · rw [z]; exact ⟨o, ho, fun v q => by rw [hd] at q; cases q⟩
  keep := fun i h h' st k => let ⟨⟨old, he⟩, hi, hne⟩ := st; ⟨⟨old, k e (by simp) _ he⟩, hi.at fun o q => k it (by simp) o q, hne⟩
  item := by
    intro X hP hw hK hc i pins s σ H E I hf st hg
    subst hP hw hK
    obtain ⟨⟨old, he⟩, hit, hne⟩ := st
    obtain ⟨xs, x, hq, hx⟩ := hg
    obtain ⟨its, rv, p, hz⟩ := I.list hq
    obtain ⟨u, hu, ru⟩ := rv.get hx
    have hel : e < s.heap.objs.size := Heap.lt_size he
    have hil : it < s.heap.objs.size := by obtain ⟨_, q, _⟩ := hit; exact Heap.lt_size q
    refine wpAny_pyNext_enum_item he hit p.isList (x := u) (by simpa using hu) hne fun h' ho hit' hT hsz hk => ?_
    refine ⟨_, rfl, wpAny_letOwnedTupleGo_enum (s := { s with heap := h', toks := s.toks + 1 }) ho fun h'' he' sb => ?_⟩
    have hT2 : h''.get? s.heap.objs.size = some { cls := .type "tuple", data := .seq #[.int i s.toks, u] } := (sb.2 _ (Nat.ne_of_gt hel)).trans hT
    have new : ObjOk X.prog X.w (upd H s.heap.objs.size (.tup [.int (i : Nat), x])) h'' s.heap.objs.size (.tup [.int (i : Nat), x]) :=
      ⟨by show 2 ≤ sizeLine; decide, [.int i s.toks, u], .cons ⟨_, rfl⟩ (.cons ru .nil), ⟨_, hT2, rfl, _, rfl⟩⟩
    have I1 : Inv X pins σ (upd H s.heap.objs.size (.tup [.int (i : Nat), x])) { s with heap := h'', toks := s.toks + 1 } :=
      I.turnedNew (ch := [e, it]) (fun b ob hb q => (sb.2 b (fun z => hb (by simp [z]))).trans (hk b ob (fun z => hb (by simp [z])) (fun z => hb (by simp [z])) q)) hf (Nat.le_refl _) new
    refine ⟨.ref s.heap.objs.size, _, I1, rfl, ⟨_, x, rfl, I.hok.fresh (Nat.le_refl _), rfl, fun ys hy => by rw [I.list_inj hy hq]; exact hx⟩, ⟨⟨u, ?_⟩, hit'.at fun o q => (sb.2 it (Ne.symm hne)).trans q, hne⟩, fun b hb => ?_⟩
    · have e1 : ((i + 1 : Nat) : Int) = (i : Int) + 1 := by omega
      rw [e1]; exact he'
    · have hb' : b < s.heap.objs.size := by
        have e' : b = e ∨ b = it := by simpa using hb
        rcases e' with z | z
        · rw [z]; exact hel
        · rw [z]; exact hil
      rw [upd_ne (Nat.ne_of_lt hb')]
      exact (hf b hb).1
  done := by
    intro X hP hw hK hc i pins s σ H E I hf st hg
    subst hP hw hK
    obtain ⟨⟨old, he⟩, hit, hne⟩ := st
    obtain ⟨xs, hq, hx⟩ := hg
    obtain ⟨its, rv, p, hz⟩ := I.list hq
    obtain ⟨f0, f1, f2, f3, f4, f5⟩ := hf it (by simp)
    have hl := rv.length
    exact wpAny_pyNext_enum_end (I.ok.hd hc) he hit p.isList (by simp; omega) fun h' eb => ⟨rfl, I.turned (t' := s.toks) (fun b o hb q => eb b o hb q) f0 f1 f3 f4 f5⟩
  self := fun A i s Q E st h => let ⟨⟨_, he⟩, _⟩ := st; wpAny_pyIter_enum he h
def iEnum (K : PySem.W.Frag) (ta : TA) : TI := fun σ H R => ta σ H fun vs H1 => ∃ a xs, vs = [.ref a] ∧ SqL K H1 a xs ∧ R (Ite K a) H1
theorem pi_enum {X : Cx} {e : Expr} {ta : TA} {p pos tpos : Pos} {elts : List Expr} {kk : Nat} (hg : Gl X "enumerate") (hm : X.mg "enumerate" = none) (ha : PA X [e] ta) (hs : starEach [e] X.env = [(false, eval e X.env)] := by rfl) :
    PI X (.Tuple elts kk tpos) (.Call (.Name "enumerate" p) [e] [] pos) (iEnum X.K ta) := by
  intro pins s σ H R I h
  refine Call_ (ld_blt I hg hm boot_enumerate (PyProof.Rows.callWith_type1 (thn (ha pos pins s σ H _ I h) fun us s1 ⟨vs, H1, I1, r1, q1⟩ => ?_) hs rfl))
  obtain ⟨a, xs, ex, hq, q⟩ := q1
  subst ex
  cases r1 with
  | cons r rr =>
    cases rr
    cases r
    obtain ⟨its, rv, p', hz⟩ := I1.list hq
    refine call_enumerate_list p'.isList fun h' he hit hsz hk => wpAny_pyIter_enum he ?_
    have I2 : Inv X pins σ H1 { s1 with heap := h' } := I1.kept (t' := s1.toks) hk
    refine ⟨s1.heap.objs.size + 1, [s1.heap.objs.size + 1, s1.heap.objs.size], _, _, H1, rfl, I2, turn_enum a (s1.heap.objs.size + 1) s1.heap.objs.size, ⟨⟨.none, he⟩, hit, Nat.succ_ne_self _⟩, fun b hb => ?_, q⟩
    have e' : b = s1.heap.objs.size + 1 ∨ b = s1.heap.objs.size := by simpa using hb
    have hle : s1.heap.objs.size ≤ b := by
      rcases e' with z | z
      · rw [z]; exact Nat.le_add_right _ _
      · rw [z]; exact Nat.le_refl _
    exact I1.fpOk hle (I1.hok.fresh hle)
end L2
section
namespace Bits
open PySem PyProof.Rows
end Bits
end
section
namespace TL
open PySem PySem.Builtin PySem.Builtin.Str PySem.StrLaws
end TL
end
namespace L2
open PySem PySem.Spec PyProof.Rows
section
variable {X : Cx} {pins : List (Addr × Obj)} {σ : St} {H : Hp} {s : Shared} {Q : VK}
end
section
variable {X : Cx}
end
section
variable {X : Cx} {o e : Expr} {to te : TE}
end
end L2
namespace L2
open PySem PySem.Spec PyProof.Rows
section
variable {X : Cx}
end
end L2
namespace Att
open PySem PySem.W PySem.Calls PyProof.Rows
section
variable {prog : Program} {w : World} {A : Around} {E : Value → Shared → Prop} {s : Shared} {K : Frag}
end
end Att
namespace L2
open PySem PySem.Spec PyProof.Rows
end L2
namespace L2
open PySem PySem.Spec PyProof.Rows
end L2
namespace L2
open PySem PySem.Spec PyProof.Rows
def inClass (s : Stmt) (j : Nat) : Stmt := match s with
  | .ClassDef _ _ _ body _ _ _ _ _ _ _ => body.getD j (.Pass ⟨0, 0, 0, 0⟩)
  | _ => .Pass ⟨0, 0, 0, 0⟩
def defArgs (s : Stmt) : Arguments := match s with
  | .FunctionDef _ a _ _ _ _ _ _ _ _ => a
  | _ => { posonlyargs := [], args := [], vararg := none, kwonlyargs := [], kw_defaults := [], kwarg := none, defaults := [] }
def defBody (s : Stmt) : List Stmt := match s with
  | .FunctionDef _ _ b _ _ _ _ _ _ _ => b
  | _ => []
def defScope (s : Stmt) : Scope := match s with
  | .FunctionDef _ _ _ _ _ _ sc _ _ _ => sc
  | _ => { kind := .function, names := [], isGenerator := false, isCoroutine := false }
abbrev CX0 : CXT := fun _ _ _ _ _ _ => False
abbrev E0 : XK := fun _ _ _ => False
theorem pass0 {X : Cx} : Passes CX0 X E0 := fun _ _ _ _ _ _ _ h => h.elim
structure Fun (K : PySem.W.Frag) (x qual : Str) (st : Stmt) (f : Addr) (fd : FuncData) : Prop where
  ex : ∃ (oc : Value) (od : Option Addr) (kV doc pm : Value) (an : Option Addr) (cdv ct : Value) (osl : Array (Option Value)),
    fd = PySem.W.fnOf x qual (defArgs st) (defBody st) (defScope st) .none kV doc pm an cdv ct ∧ K.lookup f = some ⟨oc, od, .func fd, osl⟩ ∧ PySem.W.codeIn K cdv qual = true
  kp : PySem.W.keepIn K (.ref f) = true
section
variable {P : Program} {w : World} {K : PySem.W.Frag} {mg : Str → Option Value} {base : Heap}
theorem Fun.ok {x qual : Str} {st : Stmt} {f : Addr} {fd : FuncData} {N ps : List Str} {k : Nat} {sp : Sp} (F : Fun K x qual st f fd) (S : FnScope N ps (defScope st)) (len : ∀ vs H Q E, sp vs H Q E → vs.length = ps.length)
    (hbody : ∀ (cdv : Value) (A : Around) (outer : List Env) (s : Shared) (H : Hp) (vs : List V) (Q : VK) (E : XK), Room k (A.deeper (envOfC qual (defScope st) s.heap.objs.size f cdv)) → sp vs H Q E →
      ∃ t, PSs (cxOf CX0 P w K mg base N qual (defScope st) f cdv A outer s H E).nox (defBody st) t ∧ t { nx := fun _ H' => Q .non H', rt := Q } (start N vs) H) : FnOk P w K mg base CX0 (k + 1) f fd ps sp := by
  obtain ⟨oc, od, kV, doc, pm, an, cdv, ct, osl, rfl, lk, hcd⟩ := F.ex
  refine fn_of lk hcd S len fun A outer s H vs Q E hr hsp => ?_
  obtain ⟨t, h, q⟩ := hbody cdv A outer s H vs Q E hr hsp
  exact ⟨t, h.nox, q⟩
theorem Fun.binds {x qual : Str} {st : Stmt} {f : Addr} {fd : FuncData} {ps : List Str} (F : Fun K x qual st f fd)
    (h : ∀ (kV doc pm : Value) (an : Option Addr) (cdv ct : Value) (us : List Value), us.length = ps.length → bindArgs (PySem.W.fnOf x qual (defArgs st) (defBody st) (defScope st) .none kV doc pm an cdv ct) ⟨us, []⟩ = pure (ps.zip us)) : Binds K fd ps [] := by
  obtain ⟨oc, od, kV, doc, pm, an, cdv, ct, osl, rfl, lk, hcd⟩ := F.ex
  exact .all (h kV doc pm an cdv ct)
theorem fun_mk {x qual : Str} {st : Stmt} {f : Addr} {oc : Value} {od an : Option Addr} {osl : Array (Option Value)} {kV doc pm cdv ct : Value} (l : K.lookup f = some ⟨oc, od, .func (PySem.W.fnOf x qual (defArgs st) (defBody st) (defScope st) .none kV doc pm an cdv ct), osl⟩)
    (c : PySem.W.codeIn K cdv qual = true) (k : PySem.W.keepIn K (.ref f) = true) : Fun K x qual st f (PySem.W.fnOf x qual (defArgs st) (defBody st) (defScope st) .none kV doc pm an cdv ct) := ⟨⟨oc, od, kV, doc, pm, an, cdv, ct, osl, rfl, l, c⟩, k⟩
end
theorem hu_of {A : Around} {k : Nat} (hr : Room k A) : A.units + 1 < cLine := Nat.lt_of_le_of_lt (Nat.add_le_add_left (by decide : 1 ≤ 64) _) hr.units
theorem small1000 {n : Nat} (h : n ≤ 1000) : n < sizeLine := Nat.lt_of_le_of_lt h (by decide)
section
variable {X : Cx}
theorem pv (i : Nat) {x : Str} {pos : Pos} (hN : X.N[i]? = some x := by rfl) (hv : Vis X.env.scope x := by first | exact Or.inl rfl | exact Or.inr (Or.inl rfl) | exact Or.inr (Or.inr rfl)) (hd : (x == ("__debug__" : Str)) = false := by decide)
    (hcd : (x == ("__classdict__" : Str)) = false := by decide) : PE X (.Name x pos) (tVar i) := pe_var hN hv hd hcd
end
theorem iteF {A B : Prop} (h : B) : if false = true then A else B := by
  rw [if_neg Bool.false_ne_true]
  exact h
theorem iteT {A B : Prop} (h : A) : if true = true then A else B := by
  rw [if_pos rfl]
  exact h
theorem ite2 {c A B : Prop} [Decidable c] (h1 : c → A) (h2 : ¬ c → B) : if c then A else B := by
  by_cases h : c
  · rw [if_pos h]
    exact h1 h
  · rw [if_neg h]
    exact h2 h
def Same (H H' : Hp) : Prop := ∀ b o, H b = some o → H' b = some o
theorem Same.refl (H : Hp) : Same H H := fun _ _ h => h
theorem Same.trans {H H1 H2 : Hp} (a : Same H H1) (b : Same H1 H2) : Same H H2 := fun c o h => b c o (a c o h)
theorem Same.free {H H' : Hp} (e : Same H H') {l : Addr} (h : H' l = Option.none) : H l = Option.none := by
  cases q : H l with
  | none => rfl
  | some o =>
    rw [e l o q] at h
    cases h
theorem Same.seq {K : PySem.W.Frag} {H H' : Hp} {a : Addr} {xs : List V} (e : Same H H') (h : SqL K H a xs) : SqL K H' a xs := by
  rcases h with (h | ⟨o, h⟩) | h
  · exact .inl (.inl (e _ _ h))
  · exact .inl (.inr ⟨o, e _ _ h⟩)
  · exact .inr h
section
variable {κ : Type} [DecidableEq κ]
end
theorem at_of {xs : List V} {z : Int} {j : Nat} {v : V} (e : z = (j : Int)) (h : xs[j]? = some v) : atI xs z = some v := by
  rw [e]
  exact atI_nat h
theorem nd_ix {α : Type} {l : List α} (hN : l.Nodup) {i j : Nat} {x : α} (a : l[i]? = some x) (b : l[j]? = some x) : i = j := by
  obtain ⟨h1, e1⟩ := List.getElem?_eq_some_iff.mp a
  obtain ⟨h2, e2⟩ := List.getElem?_eq_some_iff.mp b
  exact (List.getElem_inj hN).mp (e1.trans e2.symm)
theorem Same.made {H H1 : Hp} {x dx C : Addr} (nx : H x = Option.none) (nd : H dx = Option.none) (k : ∀ b o, (upd (upd H dx (.own x)) x (.ins C dx [])) b = some o → b ≠ x → H1 b = some o) : Same H H1 := fun b o e =>
  k b o (by rw [upd_ne (ne_of_none e nx), upd_ne (ne_of_none e nd)]; exact e) (ne_of_none e nx)
end L2
end
section
set_option Elab.async false
set_option linter.all false
set_option maxRecDepth 100000
set_option maxHeartbeats 2000000
namespace L2
open PySem PySem.Spec PyProof.Rows
open PySem.W (WData Codec OpenSpec Well WellAll ReadsW ReadsAllW)
mutual
inductive Dw (K : PySem.W.Frag) (H : Hp) : V → WData → Prop
  | non : Dw K H .non .none
  | bl (b : Bool) : Dw K H (.bl b) (.bool b)
  | int (i : Int) : Dw K H (.int i) (.int i)
  | str (x : Str) : Dw K H (.str x) (.str x)
  | byt (b : Array UInt8) : Dw K H (.byt b) (.bytes b.toList)
  | lst {a : Addr} {xs : List V} {ds : List WData} : SqL K H a xs → DwAll K H xs ds → Dw K H (.ref a) (.list ds)
  | tup {a : Addr} {xs : List V} {ds : List WData} : SqT K H a xs → DwAll K H xs ds → Dw K H (.ref a) (.tuple ds)
inductive DwAll (K : PySem.W.Frag) (H : Hp) : List V → List WData → Prop
  | nil : DwAll K H [] []
  | cons {v : V} {vs : List V} {d : WData} {ds : List WData} : Dw K H v d → DwAll K H vs ds → DwAll K H (v :: vs) (d :: ds)
end
theorem dw_ints {K : PySem.W.Frag} {H : Hp} : ∀ ns : List Int, DwAll K H (ns.map V.int) (ns.map WData.int)
  | [] => .nil
  | n :: r => .cons (.int n) (dw_ints r)
theorem ints_dw {K : PySem.W.Frag} {H : Hp} : ∀ (ns : List Int) (xs : List V), DwAll K H xs (ns.map WData.int) → xs = ns.map V.int
  | [], xs, h => by
    cases h
    rfl
  | n :: r, xs, h => by
    cases h with
    | cons h1 h2 =>
      cases h1
      rw [ints_dw r _ h2] <;> rfl
section
variable {P : Program} {w : World} {K : PySem.W.Frag} {H : Hp} {h : Heap} {R : PySem.W.WRecords} {cl : Str → Option Addr}
theorem sqL_at {a : Addr} {xs : List V} (hok : HOk P w H h) (KX : K.In h) (q : SqL K H a xs) : ∃ (its : List Value) (o : Obj) (n : Nat), Vals xs its ∧ h.get? a = some o ∧ o.cls = .type "list" ∧ o.data = .seq its.toArray n := by
  rcases q with q | ⟨o, its, n, e, hc, _, hd, _, hv⟩
  · obtain ⟨_, its, n, hv, e⟩ := (show ObjOk P w H h a (.lst xs) from q.ok hok)
    exact ⟨its, _, n, hv, e, rfl, rfl⟩
  · exact ⟨its.toList, o, n, hv, KX _ _ e, hc, by simp [hd]⟩
theorem sqT_at {a : Addr} {xs : List V} (hok : HOk P w H h) (KX : K.In h) (q : SqT K H a xs) : ∃ (its : List Value) (o : Obj) (n : Nat), Vals xs its ∧ h.get? a = some o ∧ o.cls = .type "tuple" ∧ o.data = .seq its.toArray n := by
  rcases q with q | ⟨o, its, n, e, hc, hd, _, hv⟩
  · obtain ⟨_, its, hv, o, e, hc, n, hd⟩ := (show ObjOk P w H h a (.tup xs) from q.ok hok)
    exact ⟨its, o, n, hv, e, hc, hd⟩
  · exact ⟨its.toList, o, n, hv, KX _ _ e, hc, by simp [hd]⟩
mutual
theorem Dw.reads (hok : HOk P w H h) (KX : K.In h) : ∀ (d : WData) (v : V) (u : Value), Dw K H v d → RelV v u → ∃ as, ReadsW R cl h u d as
  | .none, _, _, x, r => by
    cases x
    cases r
    exact ⟨_, ReadsW.none⟩
  | .bool b, _, _, x, r => by
    cases x
    cases r
    exact ⟨_, ReadsW.bool b⟩
  | .int i, _, _, x, r => by
    cases x
    obtain ⟨t, rfl⟩ := r
    exact ⟨_, ReadsW.int i t⟩
  | .str s, _, _, x, r => by
    cases x
    obtain ⟨t, rfl⟩ := r
    exact ⟨_, ReadsW.str s t⟩
  | .bytes b, _, _, x, r => by
    cases x
    obtain ⟨t, rfl⟩ := r
    exact ⟨_, ReadsW.bytes _ t⟩
  | .list ds, _, _, x, r => by
    cases x with
    | lst hs ha =>
      cases r
      obtain ⟨its, o, n, rv, ho, hc, hd⟩ := sqL_at hok KX hs
      obtain ⟨as, hr⟩ := Dw.readsAll hok KX ds _ its ha rv
      exact ⟨_, ReadsW.list ho hc hd hr⟩
  | .tuple ds, _, _, x, r => by
    cases x with
    | tup hs ha =>
      cases r
      obtain ⟨its, o, n, rv, ho, hc, hd⟩ := sqT_at hok KX hs
      obtain ⟨as, hr⟩ := Dw.readsAll hok KX ds _ its ha rv
      exact ⟨_, ReadsW.tuple ho hc hd hr⟩
  | .float _, _, _, x, _ => by cases x
  | .dict _, _, _, x, _ => by cases x
  | .bytearray _, _, _, x, _ => by cases x
  | .set _, _, _, x, _ => by cases x
  | .frozenset _, _, _, x, _ => by cases x
  | .obj _ _, _, _, x, _ => by cases x
theorem Dw.readsAll (hok : HOk P w H h) (KX : K.In h) : ∀ (ds : List WData) (vs : List V) (us : List Value), DwAll K H vs ds → Vals vs us → ∃ as, ReadsAllW R cl h us ds as
  | [], _, _, x, r => by
    cases x
    cases r
    exact ⟨_, ReadsAllW.nil⟩
  | d :: ds, _, _, x, r => by
    cases x with
    | cons h1 h2 =>
      cases r with
      | cons r1 r2 =>
        obtain ⟨as, q1⟩ := Dw.reads hok KX d _ _ h1 r1
        obtain ⟨bs, q2⟩ := Dw.readsAll hok KX ds _ _ h2 r2
        exact ⟨_, ReadsAllW.cons q1 q2⟩
end
end
mutual
def plW : WData → Bool
  | .none => true
  | .bool _ => true
  | .int _ => true
  | .str _ => true
  | .bytes _ => true
  | .list xs => plWs xs
  | .tuple xs => plWs xs
  | _ => false
def plWs : List WData → Bool
  | [] => true
  | x :: r => plW x && plWs r
end
theorem plWs_map {α : Type} {f : α → WData} (h : ∀ a, plW (f a) = true) : ∀ l : List α, plWs (l.map f) = true
  | [] => rfl
  | x :: r => by
    show (plW (f x) && plWs (r.map f)) = true
    rw [h x, plWs_map h r] <;> rfl
theorem pl_enc : ∀ (c : Codec) (a : c.denote), plW (c.enc a) = true
  | .unit, _ => rfl
  | .bool, _ => rfl
  | .int _ _, _ => rfl
  | .nat _ _, _ => rfl
  | .u8, _ => rfl
  | .bytes _ _, _ => rfl
  | .text _ _ _ _, _ => rfl
  | .list _ _ c, a => plWs_map (fun x => pl_enc c x) a
  | .pair c d, a => by
    show (plW (c.enc a.1) && (plW (d.enc a.2) && true)) = true
    rw [pl_enc c a.1, pl_enc d a.2] <;> rfl
  | .triple c d e, a => by
    show (plW (c.enc a.1) && (plW (d.enc a.2.1) && (plW (e.enc a.2.2) && true))) = true
    rw [pl_enc c a.1, pl_enc d a.2.1, pl_enc e a.2.2] <;> rfl
  | .option c, none => rfl
  | .option c, some x => pl_enc c x
theorem pl_encAll : ∀ (cs : List Codec) (a : Codec.denoteAll cs), plWs (Codec.encAll cs a) = true
  | [], _ => rfl
  | c :: cs, a => by
    show (plW (c.enc a.1) && plWs (Codec.encAll cs a.2)) = true
    rw [pl_enc c a.1, pl_encAll cs a.2] <;> rfl
theorem weight_mem : ∀ {xs : List WData} {d : WData}, d ∈ xs → d.weight ≤ WData.weightAll xs
  | [], d, h => absurd h (by simp)
  | x :: r, d, h => by
    show d.weight ≤ x.weight + 1 + WData.weightAll r
    rcases List.mem_cons.mp h with e | m
    · rw [e]
      omega
    · have z := weight_mem m
      omega
def toV : Value → V
  | .none => .non
  | .bool b => .bl b
  | .int i _ => .int i
  | .str x _ => .str x
  | .bytes b _ => .byt b
  | .ref a => .ref a
  | _ => .non
def OkU (A : List Addr) : Value → Prop
  | .none => True
  | .bool _ => True
  | .int _ _ => True
  | .str _ _ => True
  | .bytes _ _ => True
  | .ref a => a ∈ A
  | _ => False
theorem OkU.mono {A B : List Addr} (h : ∀ a ∈ A, a ∈ B) : ∀ {u : Value}, OkU A u → OkU B u := fun {u} x => by
  cases u with
  | ref a => exact h a x
  | none => trivial
  | bool b => trivial
  | int i t => trivial
  | str s t => trivial
  | bytes b t => trivial
  | _ => exact False.elim x
theorem relV_toV {A : List Addr} {u : Value} (x : OkU A u) : RelV (toV u) u := by
  cases u with
  | ref a => rfl
  | none => rfl
  | bool b => rfl
  | int i t => exact ⟨t, rfl⟩
  | str s t => exact ⟨t, rfl⟩
  | bytes b t => exact ⟨t, rfl⟩
  | _ => exact False.elim x
theorem vals_toV {A : List Addr} : ∀ {vs : List Value}, (∀ u ∈ vs, OkU A u) → Vals (vs.map toV) vs
  | [], _ => .nil
  | u :: r, h => .cons (relV_toV (h u (List.mem_cons_self ..))) (vals_toV fun x hx => h x (List.mem_cons_of_mem _ hx))
def ArgOb (h : Heap) (A : List Addr) (a : Addr) : Prop := ∃ vs : List Value, vs.length ≤ sizeLine ∧ (∀ u ∈ vs, OkU A u) ∧
  (h.get? a = some { cls := .type "list", data := .seq vs.toArray } ∨ h.get? a = some { cls := .type "tuple", data := .seq vs.toArray })
theorem ArgOb.mono {h : Heap} {A B : List Addr} {a : Addr} (k : ∀ a ∈ A, a ∈ B) (x : ArgOb h A a) : ArgOb h B a := by
  obtain ⟨vs, h1, h2, h3⟩ := x
  exact ⟨vs, h1, fun u hu => (h2 u hu).mono k, h3⟩
theorem wellAll_len {P : Params} {h : Heap} : ∀ {vs : List Value} {ds : List WData}, WellAll P h vs ds → vs.length = ds.length
  | _, _, .nil => rfl
  | _, _, .cons _ b => by
    show _ + 1 = _ + 1
    rw [wellAll_len b]
theorem well_list {P : Params} {h : Heap} {v : Value} {ds : List WData} (x : Well P h v (.list ds)) : ∃ (a : Addr) (vs : List Value), v = .ref a ∧ h.get? a = some { cls := .type "list", data := .seq vs.toArray } ∧ WellAll P h vs ds := by
  cases x with
  | list ho hall => exact ⟨_, _, rfl, ho, hall⟩
theorem well_tuple {P : Params} {h : Heap} {v : Value} {ds : List WData} (x : Well P h v (.tuple ds)) : ∃ (a : Addr) (vs : List Value), v = .ref a ∧ h.get? a = some { cls := .type "tuple", data := .seq vs.toArray } ∧ WellAll P h vs ds := by
  cases x with
  | tuple ho hall => exact ⟨_, _, rfl, ho, hall⟩
theorem well_cons {P : Params} {h : Heap} {us : List Value} {d : WData} {ds : List WData} (x : WellAll P h us (d :: ds)) : ∃ (v : Value) (vs : List Value), us = v :: vs ∧ Well P h v d ∧ WellAll P h vs ds := by
  cases x with
  | cons a b => exact ⟨_, _, rfl, a, b⟩
theorem line_of {n : Nat} (h : n ≤ 1048576) : n ≤ sizeLine := Nat.le_trans h (by decide)
section
variable {P : Params} {h : Heap}
mutual
theorem area_one : ∀ (d : WData) (v : Value), Well P h v d → plW d = true → d.weight ≤ 1048576 → ∃ A : List Addr, OkU A v ∧ ∀ a ∈ A, ArgOb h A a
  | .none, _, x, _, _ => by
    cases x
    exact ⟨[], trivial, fun a m => absurd m (by simp)⟩
  | .bool b, _, x, _, _ => by
    cases x
    exact ⟨[], trivial, fun a m => absurd m (by simp)⟩
  | .int i, _, x, _, _ => by
    cases x
    exact ⟨[], trivial, fun a m => absurd m (by simp)⟩
  | .str s, _, x, _, _ => by
    cases x
    exact ⟨[], trivial, fun a m => absurd m (by simp)⟩
  | .bytes b, _, x, _, _ => by
    cases x
    exact ⟨[], trivial, fun a m => absurd m (by simp)⟩
  | .list ds, _, x, p, z => by
    obtain ⟨a, vs, rfl, ho, hall⟩ := well_list x
    have z2 : WData.weightAll ds ≤ 1048576 := z
    obtain ⟨A, h1, h2⟩ := area_all ds _ hall p fun d hd => Nat.le_trans (weight_mem hd) z2
    have k : ∀ b ∈ A, b ∈ a :: A := fun b hb => List.mem_cons_of_mem _ hb
    refine ⟨a :: A, List.mem_cons_self .., fun b hb => ?_⟩
    rcases List.mem_cons.mp hb with e | m
    · rw [e]
      exact ⟨vs, line_of (by rw [wellAll_len hall]; exact Nat.le_trans (PySem.W.length_le_weightAllW ds) z2), fun u hu => (h1 u hu).mono k, .inl ho⟩
    · exact (h2 b m).mono k
  | .tuple ds, _, x, p, z => by
    obtain ⟨a, vs, rfl, ho, hall⟩ := well_tuple x
    have z2 : WData.weightAll ds ≤ 1048576 := z
    obtain ⟨A, h1, h2⟩ := area_all ds _ hall p fun d hd => Nat.le_trans (weight_mem hd) z2
    have k : ∀ b ∈ A, b ∈ a :: A := fun b hb => List.mem_cons_of_mem _ hb
    refine ⟨a :: A, List.mem_cons_self .., fun b hb => ?_⟩
    rcases List.mem_cons.mp hb with e | m
    · rw [e]
      exact ⟨vs, line_of (by rw [wellAll_len hall]; exact Nat.le_trans (PySem.W.length_le_weightAllW ds) z2), fun u hu => (h1 u hu).mono k, .inr ho⟩
    · exact (h2 b m).mono k
  | .float _, _, _, p, _ => Bool.noConfusion (show false = true from p)
  | .dict _, _, _, p, _ => Bool.noConfusion (show false = true from p)
  | .bytearray _, _, _, p, _ => Bool.noConfusion (show false = true from p)
  | .set _, _, _, p, _ => Bool.noConfusion (show false = true from p)
  | .frozenset _, _, _, p, _ => Bool.noConfusion (show false = true from p)
  | .obj _ _, _, _, p, _ => Bool.noConfusion (show false = true from p)
theorem area_all : ∀ (ds : List WData) (vs : List Value), WellAll P h vs ds → plWs ds = true → (∀ d ∈ ds, d.weight ≤ 1048576) → ∃ A : List Addr, (∀ u ∈ vs, OkU A u) ∧ ∀ a ∈ A, ArgOb h A a
  | [], _, x, _, _ => by
    cases x
    exact ⟨[], fun u m => absurd m (by simp), fun a m => absurd m (by simp)⟩
  | d :: ds, _, x, p, z => by
    obtain ⟨v, vs, rfl, x1, x2⟩ := well_cons x
    have q : plW d = true ∧ plWs ds = true := Bool.and_eq_true_iff.mp p
    obtain ⟨A, a1, a2⟩ := area_one d v x1 q.1 (z d (List.mem_cons_self ..))
    obtain ⟨B, b1, b2⟩ := area_all ds vs x2 q.2 fun e he => z e (List.mem_cons_of_mem _ he)
    have kA : ∀ b ∈ A, b ∈ A ++ B := fun b hb => List.mem_append.mpr (.inl hb)
    have kB : ∀ b ∈ B, b ∈ A ++ B := fun b hb => List.mem_append.mpr (.inr hb)
    refine ⟨A ++ B, fun u hu => ?_, fun b hb => ?_⟩
    · rcases List.mem_cons.mp hu with e | m
      · rw [e]
        exact a1.mono kA
      · exact (b1 u m).mono kB
    · rcases List.mem_append.mp hb with m | m
      · exact (a2 b m).mono kA
      · exact (b2 b m).mono kB
end
end
def hoOf (o : Obj) : Option HO := match o.data with
  | .seq vs _ => if (o.cls == Value.type "list") = true then some (.frz o (.lst (vs.toList.map toV))) else some (.frz o (.tup (vs.toList.map toV)))
  | _ => none
def argH (K : PySem.W.Frag) (h : Heap) (A : List Addr) : Hp := fun b => if b ∈ A then (if (K.lookup b).isNone = true then (h.get? b).bind hoOf else none) else none
def OnlyF (H : Hp) : Prop := ∀ b, H b = none ∨ ∃ o u, H b = some (.frz o u)
theorem hoOf_lst (vs : List Value) : hoOf { cls := .type "list", data := .seq vs.toArray } = some (.frz { cls := .type "list", data := .seq vs.toArray } (.lst (vs.map toV))) := by
  show (if (Value.type "list" == Value.type "list") = true then some (HO.frz { cls := .type "list", data := .seq vs.toArray } (.lst (vs.toArray.toList.map toV))) else some (HO.frz { cls := .type "list", data := .seq vs.toArray } (.tup (vs.toArray.toList.map toV)))) = _
  rw [if_pos (beq_self_eq_true _)]
theorem hoOf_tup (vs : List Value) : hoOf { cls := .type "tuple", data := .seq vs.toArray } = some (.frz { cls := .type "tuple", data := .seq vs.toArray } (.tup (vs.map toV))) := by
  show (if (Value.type "tuple" == Value.type "list") = true then some (HO.frz { cls := .type "tuple", data := .seq vs.toArray } (.lst (vs.toArray.toList.map toV))) else some (HO.frz { cls := .type "tuple", data := .seq vs.toArray } (.tup (vs.toArray.toList.map toV)))) = _
  rw [if_neg (by decide)]
section
variable {P : Program} {w : World} {K : PySem.W.Frag} {h : Heap} {A : List Addr}
theorem argH_at {b : Addr} {o : Obj} (hb : b ∈ A) (hk : K.lookup b = none) (e : h.get? b = some o) : argH K h A b = hoOf o := by
  unfold argH
  rw [if_pos hb, hk, if_pos (show (none : Option Obj).isNone = true from rfl), e] <;> rfl
theorem of_argH {b : Addr} {u : HO} (q : argH K h A b = some u) : b ∈ A ∧ K.lookup b = none := by
  unfold argH at q
  by_cases hb : b ∈ A
  · rw [if_pos hb] at q
    cases hk : K.lookup b with
    | none => exact ⟨hb, rfl⟩
    | some o =>
      rw [hk, if_neg (by simp)] at q
      cases q
  · rw [if_neg hb] at q
    cases q
theorem argH_is (ar : ∀ a ∈ A, ArgOb h A a) {b : Addr} {u : HO} (q : argH K h A b = some u) : K.lookup b = none ∧ ∃ vs : List Value, vs.length ≤ sizeLine ∧ (∀ u ∈ vs, OkU A u) ∧
    ((h.get? b = some { cls := .type "list", data := .seq vs.toArray } ∧ u = .frz { cls := .type "list", data := .seq vs.toArray } (.lst (vs.map toV))) ∨
     (h.get? b = some { cls := .type "tuple", data := .seq vs.toArray } ∧ u = .frz { cls := .type "tuple", data := .seq vs.toArray } (.tup (vs.map toV)))) := by
  obtain ⟨hb, hk⟩ := of_argH q
  obtain ⟨vs, h1, h2, h3⟩ := ar b hb
  refine ⟨hk, vs, h1, h2, ?_⟩
  rcases h3 with e | e
  · rw [argH_at hb hk e, hoOf_lst] at q
    exact .inl ⟨e, (Option.some.inj q).symm⟩
  · rw [argH_at hb hk e, hoOf_tup] at q
    exact .inr ⟨e, (Option.some.inj q).symm⟩
theorem argH_only (ar : ∀ a ∈ A, ArgOb h A a) : OnlyF (argH K h A) := fun b => by
  cases q : argH K h A b with
  | none => exact .inl rfl
  | some u =>
    obtain ⟨_, vs, _, _, ⟨_, e⟩ | ⟨_, e⟩⟩ := argH_is ar q
    · exact .inr ⟨_, _, by rw [e]⟩
    · exact .inr ⟨_, _, by rw [e]⟩
theorem argH_ok (ar : ∀ a ∈ A, ArgOb h A a) : HOk P w (argH K h A) h := fun b u q => by
  obtain ⟨_, vs, h1, h2, ⟨e, rfl⟩ | ⟨e, rfl⟩⟩ := argH_is ar q
  · exact ⟨e, by rw [List.length_map]; exact h1, vs, _, vals_toV h2, e⟩
  · exact ⟨e, by rw [List.length_map]; exact h1, vs, vals_toV h2, _, e, rfl, _, rfl⟩
theorem seq_inj {c c' : Value} {vs us : List Value} (e : (some { cls := c, data := .seq vs.toArray } : Option Obj) = some { cls := c', data := .seq us.toArray }) : c = c' ∧ vs = us := by
  have e1 := Option.some.inj e
  have e2 : c = c' := congrArg Obj.cls e1
  have e3 : Data.seq vs.toArray = Data.seq us.toArray := congrArg Obj.data e1
  injection e3 with e4
  refine ⟨e2, ?_⟩
  have e5 := congrArg Array.toList e4
  simpa using e5
theorem argL (KX : K.In h) (ar : ∀ a ∈ A, ArgOb h A a) {a : Addr} {vs : List Value} (ha : a ∈ A) (e : h.get? a = some { cls := .type "list", data := .seq vs.toArray }) : (∀ u ∈ vs, OkU A u) ∧ SqL K (argH K h A) a (vs.map toV) := by
  obtain ⟨us, h1, h2, h3⟩ := ar a ha
  have hu : us = vs := by
    rcases h3 with q | q
    · rw [e] at q
      exact (seq_inj q).2.symm
    · rw [e] at q
      exact absurd (Value.type.inj (seq_inj q).1) (by decide)
  subst hu
  refine ⟨h2, ?_⟩
  cases hk : K.lookup a with
  | none => exact .inl (.inr ⟨_, by rw [argH_at ha hk e, hoOf_lst]⟩)
  | some o =>
    have e2 := KX a o hk
    rw [e] at e2
    obtain rfl := Option.some.inj e2
    exact .inr ⟨_, us.toArray, _, hk, rfl, rfl, rfl, by rw [List.size_toArray]; exact h1, by simpa using vals_toV h2⟩
theorem argT (KX : K.In h) (ar : ∀ a ∈ A, ArgOb h A a) {a : Addr} {vs : List Value} (ha : a ∈ A) (e : h.get? a = some { cls := .type "tuple", data := .seq vs.toArray }) : (∀ u ∈ vs, OkU A u) ∧ SqT K (argH K h A) a (vs.map toV) := by
  obtain ⟨us, h1, h2, h3⟩ := ar a ha
  have hu : us = vs := by
    rcases h3 with q | q
    · rw [e] at q
      exact absurd (Value.type.inj (seq_inj q).1) (by decide)
    · rw [e] at q
      exact (seq_inj q).2.symm
  subst hu
  refine ⟨h2, ?_⟩
  cases hk : K.lookup a with
  | none => exact .inl (.inr ⟨_, by rw [argH_at ha hk e, hoOf_tup]⟩)
  | some o =>
    have e2 := KX a o hk
    rw [e] at e2
    obtain rfl := Option.some.inj e2
    exact .inr ⟨_, us.toArray, _, hk, rfl, rfl, by rw [List.size_toArray]; exact h1, by simpa using vals_toV h2⟩
mutual
theorem dw_one {Pm : Params} (KX : K.In h) (ar : ∀ a ∈ A, ArgOb h A a) : ∀ (d : WData) (v : Value), Well Pm h v d → plW d = true → OkU A v → Dw K (argH K h A) (toV v) d
  | .none, _, x, _, _ => by
    cases x
    exact .non
  | .bool b, _, x, _, _ => by
    cases x
    exact .bl b
  | .int i, _, x, _, _ => by
    cases x
    exact .int i
  | .str s, _, x, _, _ => by
    cases x
    exact .str s
  | .bytes b, _, x, _, _ => by
    cases x
    have z := Dw.byt (K := K) (H := argH K h A) b.toArray
    exact z
  | .list ds, _, x, p, hu => by
    obtain ⟨a, vs, rfl, ho, hall⟩ := well_list x
    obtain ⟨h2, hs⟩ := argL KX ar hu ho
    exact .lst hs (dw_all KX ar ds _ hall p h2)
  | .tuple ds, _, x, p, hu => by
    obtain ⟨a, vs, rfl, ho, hall⟩ := well_tuple x
    obtain ⟨h2, hs⟩ := argT KX ar hu ho
    exact .tup hs (dw_all KX ar ds _ hall p h2)
  | .float _, _, _, p, _ => Bool.noConfusion (show false = true from p)
  | .dict _, _, _, p, _ => Bool.noConfusion (show false = true from p)
  | .bytearray _, _, _, p, _ => Bool.noConfusion (show false = true from p)
  | .set _, _, _, p, _ => Bool.noConfusion (show false = true from p)
  | .frozenset _, _, _, p, _ => Bool.noConfusion (show false = true from p)
  | .obj _ _, _, _, p, _ => Bool.noConfusion (show false = true from p)
theorem dw_all {Pm : Params} (KX : K.In h) (ar : ∀ a ∈ A, ArgOb h A a) : ∀ (ds : List WData) (vs : List Value), WellAll Pm h vs ds → plWs ds = true → (∀ u ∈ vs, OkU A u) → DwAll K (argH K h A) (vs.map toV) ds
  | [], _, x, _, _ => by
    cases x
    exact .nil
  | d :: ds, _, x, p, hu => by
    obtain ⟨v, vs, rfl, x1, x2⟩ := well_cons x
    have q : plW d = true ∧ plWs ds = true := Bool.and_eq_true_iff.mp p
    exact .cons (dw_one KX ar d v x1 q.1 (hu _ (List.mem_cons_self ..))) (dw_all KX ar ds vs x2 q.2 fun u m => hu u (List.mem_cons_of_mem _ m))
end
end
theorem layable_weight {ds : List WData} (h : WData.layableAll ds = true) : ∀ d ∈ ds, d.weight ≤ 1048576 := fun d hd =>
  (PySem.W.layableW_iff.mp (List.all_eq_true.mp h d hd)).2.2
theorem encAll_len : ∀ (cs : List Codec) (a : Codec.denoteAll cs), (Codec.encAll cs a).length = cs.length
  | [], _ => rfl
  | c :: cs, a => by
    show (Codec.encAll cs a.2).length + 1 = cs.length + 1
    rw [encAll_len cs a.2]
end L2
end
section
set_option linter.all false
namespace Hs
open Kp261
def Adj (l : List Seam) (p q : Nat) : Prop := ∃ s, s ∈ l ∧ ((s.x = p ∧ s.y = q) ∨ (s.y = p ∧ s.x = q))
inductive Conn (l : List Seam) : Nat → Nat → Prop
  | refl (x : Nat) : Conn l x x
  | step {x y z : Nat} : Conn l x y → Adj l y z → Conn l x z
theorem Adj.symm {l : List Seam} {p q : Nat} (h : Adj l p q) : Adj l q p := by
  obtain ⟨s, hs, h⟩ := h
  exact ⟨s, hs, h.elim (fun h => .inr ⟨h.2, h.1⟩) (fun h => .inl ⟨h.2, h.1⟩)⟩
theorem Conn.trans {l : List Seam} {x y z : Nat} (h : Conn l x y) (g : Conn l y z) : Conn l x z := by
  induction g with
  | refl => exact h
  | step _ a ih => exact ih.step a
theorem Conn.one {l : List Seam} {x y : Nat} (a : Adj l x y) : Conn l x y := (Conn.refl x).step a
theorem Conn.symm {l : List Seam} {x y : Nat} (h : Conn l x y) : Conn l y x := by
  induction h with
  | refl => exact .refl _
  | step _ a ih => exact (Conn.one a.symm).trans ih
theorem Conn.congr {l l' : List Seam} (h : ∀ p q, Adj l p q → Adj l' p q) {x y : Nat} (c : Conn l x y) : Conn l' x y := by
  induction c with
  | refl => exact .refl _
  | step _ a ih => exact ih.step (h _ _ a)
theorem Adj.mono {l l' : List Seam} (h : ∀ s, s ∈ l → s ∈ l') {p q : Nat} (a : Adj l p q) : Adj l' p q := by
  obtain ⟨s, hs, a⟩ := a
  exact ⟨s, h s hs, a⟩
theorem Conn.mono {l l' : List Seam} (h : ∀ s, s ∈ l → s ∈ l') {x y : Nat} (c : Conn l x y) : Conn l' x y := c.congr fun _ _ a => a.mono h
theorem adj_of {l : List Seam} {s : Seam} (h : s ∈ l) : Adj l s.x s.y := ⟨s, h, .inl ⟨rfl, rfl⟩⟩
theorem conn_snoc {l : List Seam} {s : Seam} {u v : Nat} : Conn (l ++ [s]) u v ↔ Conn l u v ∨ (Conn l u s.x ∧ Conn l s.y v) ∨ (Conn l u s.y ∧ Conn l s.x v) := by
  constructor
  · intro h
    induction h with
    | refl => exact .inl (.refl _)
    | @step y z _ a ih =>
      obtain ⟨t, ht, a⟩ := a
      rcases List.mem_append.mp ht with ht | ht
      · have a' : Adj l y z := ⟨t, ht, a⟩
        rcases ih with h | ⟨h1, h2⟩ | ⟨h1, h2⟩
        · exact .inl (h.step a')
        · exact .inr (.inl ⟨h1, h2.step a'⟩)
        · exact .inr (.inr ⟨h1, h2.step a'⟩)
      · have e : t = s := by simpa using ht
        subst e
        rcases a with ⟨rfl, rfl⟩ | ⟨rfl, rfl⟩
        · rcases ih with h | ⟨h1, h2⟩ | ⟨h1, h2⟩
          · exact .inr (.inl ⟨h, .refl _⟩)
          · exact .inr (.inl ⟨h1, .refl _⟩)
          · exact .inl h1
        · rcases ih with h | ⟨h1, h2⟩ | ⟨h1, h2⟩
          · exact .inr (.inr ⟨h, .refl _⟩)
          · exact .inl h1
          · exact .inr (.inr ⟨h1, .refl _⟩)
  · have m : ∀ t, t ∈ l → t ∈ l ++ [s] := fun t ht => List.mem_append_left _ ht
    have a : Adj (l ++ [s]) s.x s.y := adj_of (List.mem_append_right _ (by simp))
    rintro (h | ⟨h1, h2⟩ | ⟨h1, h2⟩)
    · exact h.mono m
    · exact ((h1.mono m).step a).trans (h2.mono m)
    · exact ((h1.mono m).step a.symm).trans (h2.mono m)
theorem other_some {s : Seam} {p q : Nat} (h : other s p = some q) : (s.x = p ∧ s.y = q) ∨ (s.y = p ∧ s.x = q) := by
  unfold other at h
  split at h
  · exact .inl ⟨by assumption, Option.some.inj h⟩
  · split at h
    · exact .inr ⟨by assumption, Option.some.inj h⟩
    · cases h
theorem other_of {s : Seam} {p q : Nat} (h : (s.x = p ∧ s.y = q) ∨ (s.y = p ∧ s.x = q)) : other s p = some q := by
  unfold other
  rcases h with ⟨h1, h2⟩ | ⟨h1, h2⟩
  · rw [if_pos h1, h2]
  · by_cases e : s.x = p
    · rw [if_pos e, h1, ← e, h2]
    · rw [if_neg e, if_pos h1, h2]
theorem mem_spread {n : Nat} {l : List Seam} {r : List Nat} {p : Nat} : p ∈ spread n l r ↔ p < n ∧ (p ∈ r ∨ ∃ q, Adj l p q ∧ q ∈ r) := by
  unfold spread
  rw [List.mem_filter, List.mem_range, Bool.or_eq_true, List.contains_iff_mem, List.any_eq_true]
  constructor
  · rintro ⟨h, h' | ⟨s, hs, h'⟩⟩
    · exact ⟨h, .inl h'⟩
    · refine ⟨h, .inr ?_⟩
      cases e : other s p with
      | none => rw [e] at h'; cases h'
      | some q =>
        rw [e] at h'
        exact ⟨q, ⟨s, hs, other_some e⟩, List.contains_iff_mem.mp h'⟩
  · rintro ⟨h, h' | ⟨q, ⟨s, hs, a⟩, hq⟩⟩
    · exact ⟨h, .inl h'⟩
    · refine ⟨h, .inr ⟨s, hs, ?_⟩⟩
      rw [other_of a]
      exact List.contains_iff_mem.mpr hq
theorem filter_len {α : Type} {P Q : α → Bool} (h : ∀ a, P a = true → Q a = true) : ∀ l : List α, (l.filter P).length ≤ (l.filter Q).length ∧ ((l.filter P).length = (l.filter Q).length → l.filter P = l.filter Q)
  | [] => ⟨Nat.le_refl _, fun _ => rfl⟩
  | a :: l => by
    have ih := filter_len h l
    rw [List.filter_cons, List.filter_cons]
    by_cases hP : P a = true
    · rw [if_pos hP, if_pos (h a hP), List.length_cons, List.length_cons]
      exact ⟨Nat.succ_le_succ ih.1, fun e => by rw [ih.2 (Nat.succ.inj e)]⟩
    · rw [if_neg hP]
      by_cases hQ : Q a = true
      · rw [if_pos hQ, List.length_cons]
        exact ⟨Nat.le_succ_of_le ih.1, fun e => by omega⟩
      · rw [if_neg hQ]
        exact ih
def Row (n : Nat) (r : List Nat) : Prop := ∃ P : Nat → Bool, r = (List.range n).filter P
theorem row_spread (n : Nat) (l : List Seam) (r : List Nat) : Row n (spread n l r) := ⟨_, rfl⟩
theorem row_lt {n : Nat} {r : List Nat} (h : Row n r) {p : Nat} (hp : p ∈ r) : p < n := by
  obtain ⟨P, rfl⟩ := h
  exact List.mem_range.mp (List.mem_filter.mp hp).1
theorem row_mem {n : Nat} {r : List Nat} (h : Row n r) : r = (List.range n).filter fun p => decide (p ∈ r) := by
  obtain ⟨P, rfl⟩ := h
  refine List.filter_congr fun p hp => ?_
  rw [Bool.eq_iff_iff, decide_eq_true_iff, List.mem_filter]
  exact ⟨fun h => ⟨hp, h⟩, fun h => h.2⟩
theorem spread_grows {n : Nat} {l : List Seam} {r : List Nat} (h : Row n r) : spread n l r = r ∨ r.length + 1 ≤ (spread n l r).length := by
  have hs := row_spread n l r
  have sub : ∀ p, decide (p ∈ r) = true → decide (p ∈ spread n l r) = true := fun p hp => by
    rw [decide_eq_true_iff] at hp ⊢
    exact mem_spread.mpr ⟨row_lt h hp, .inl hp⟩
  have f := filter_len sub (List.range n)
  rw [← row_mem h, ← row_mem hs] at f
  by_cases e : r.length = (spread n l r).length
  · exact .inl (f.2 e).symm
  · right; have := f.1; omega
theorem near_closed {n : Nat} {l : List Seam} : ∀ (f : Nat) {r : List Nat}, spread n l r = r → near n l f r = r
  | 0, _, _ => rfl
  | f + 1, r, h => by
    show near n l f (spread n l r) = r
    rw [h]
    exact near_closed f h
theorem near_row {n : Nat} {l : List Seam} : ∀ (f : Nat) {r : List Nat}, Row n r → Row n (near n l f r) ∧ (spread n l (near n l f r) = near n l f r ∨ r.length + f ≤ (near n l f r).length)
  | 0, r, h => ⟨h, .inr (Nat.le_refl _)⟩
  | f + 1, r, h => by
    show Row n (near n l f (spread n l r)) ∧ _
    have ih := near_row (l := l) f (row_spread n l r)
    refine ⟨ih.1, ?_⟩
    rcases spread_grows (l := l) h with e | e
    · left
      show spread n l (near n l f (spread n l r)) = near n l f (spread n l r)
      rw [e, near_closed f e, e]
    · rcases ih.2 with g | g
      · exact .inl g
      · right
        show r.length + (f + 1) ≤ (near n l f (spread n l r)).length
        omega
def Ok (n : Nat) (l : List Seam) : Prop := ∀ s, s ∈ l → s.x < n ∧ s.y < n
theorem Ok.adj {n : Nat} {l : List Seam} (h : Ok n l) {p q : Nat} (a : Adj l p q) : p < n ∧ q < n := by
  obtain ⟨s, hs, ⟨e1, e2⟩ | ⟨e1, e2⟩⟩ := a
  · exact ⟨e1 ▸ (h s hs).1, e2 ▸ (h s hs).2⟩
  · exact ⟨e1 ▸ (h s hs).2, e2 ▸ (h s hs).1⟩
theorem near_sound {n : Nat} {l : List Seam} {x : Nat} : ∀ (f : Nat) {r : List Nat}, (∀ p, p ∈ r → Conn l x p) → ∀ p, p ∈ near n l f r → Conn l x p
  | 0, _, h => h
  | f + 1, r, h => near_sound f fun p hp => by
    rcases (mem_spread.mp hp).2 with g | ⟨q, a, hq⟩
    · exact h p g
    · exact (h q hq).step a.symm
theorem near_sub {n : Nat} {l : List Seam} {x : Nat} (hx : x < n) : ∀ (f : Nat) {r : List Nat}, x ∈ r → x ∈ near n l f r
  | 0, _, h => h
  | f + 1, r, h => near_sub hx f (mem_spread.mpr ⟨hx, .inl h⟩)
theorem filter_range_all {n : Nat} {P : Nat → Bool} (h : n ≤ ((List.range n).filter P).length) {p : Nat} (hp : p < n) : p ∈ (List.range n).filter P := by
  have e : ((List.range n).filter P).length = (List.range n).length := by
    have := List.length_filter_le P (List.range n)
    rw [List.length_range] at this ⊢
    omega
  rw [List.filter_eq_self.mpr (List.length_filter_eq_length_iff.mp e)]
  exact List.mem_range.mpr hp
theorem hang_iff {n : Nat} {l : List Seam} (h : Ok n l) {x y : Nat} (hx : x < n) : hang n l x y = true ↔ Conn l x y := by
  unfold hang
  rw [List.contains_iff_mem]
  constructor
  · exact near_sound n (fun p hp => by rw [List.mem_singleton.mp hp]; exact .refl _) y
  · intro c
    obtain ⟨m, rfl⟩ : ∃ m, n = m + 1 := ⟨n - 1, by omega⟩
    show y ∈ near (m + 1) l m (spread (m + 1) l [x])
    have hx1 : x ∈ spread (m + 1) l [x] := mem_spread.mpr ⟨hx, .inl (by simp)⟩
    have hn := near_sub hx m (l := l) hx1
    have hr := near_row (n := m + 1) (l := l) m (row_spread (m + 1) l [x])
    have cl : ∀ p q, p ∈ near (m + 1) l m (spread (m + 1) l [x]) → Adj l p q → q ∈ near (m + 1) l m (spread (m + 1) l [x]) := by
      intro p q hp a
      rcases hr.2 with e | e
      · rw [← e]
        exact mem_spread.mpr ⟨(h.adj a).2, .inr ⟨p, a.symm, hp⟩⟩
      · have l1 : 0 < (spread (m + 1) l [x]).length := List.length_pos_of_mem hx1
        obtain ⟨P, eP⟩ := hr.1
        rw [eP] at e ⊢
        exact filter_range_all (by omega) (h.adj a).2
    induction c with
    | refl => exact hn
    | step _ a ih => exact cl _ _ ih a
end Hs
end
section
set_option linter.all false
namespace Hs
open Kp261
theorem hang_eq {n : Nat} {l l' : List Seam} (h : Ok n l) (h' : Ok n l') {x y x' y' : Nat} (hx : x < n) (hx' : x' < n) (e : Conn l x y ↔ Conn l' x' y') : hang n l x y = hang n l' x' y' := by
  rw [Bool.eq_iff_iff, hang_iff h hx, hang_iff h' hx', e]
theorem Ok.append {n : Nat} {l l' : List Seam} (h : Ok n l) (h' : Ok n l') : Ok n (l ++ l') := fun s hs => (List.mem_append.mp hs).elim (h s) (h' s)
theorem Ok.one {n : Nat} {s : Seam} (h : s.x < n ∧ s.y < n) : Ok n [s] := fun t ht => by rw [List.mem_singleton.mp ht]; exact h
theorem Ok.snoc {n : Nat} {l : List Seam} {s : Seam} (h : Ok n l) (h' : s.x < n ∧ s.y < n) : Ok n (l ++ [s]) := h.append (Ok.one h')
theorem Ok.mono {n m : Nat} {l : List Seam} (h : Ok n l) (hm : n ≤ m) : Ok m l := fun s hs => ⟨Nat.lt_of_lt_of_le (h s hs).1 hm, Nat.lt_of_lt_of_le (h s hs).2 hm⟩
def joined (m : List Int) (s : Seam) : List Int := m.map fun z => if z = m.getD s.y 0 then m.getD s.x 0 else z
structure Marks (n : Nat) (l : List Seam) (m : List Int) : Prop where
  len : m.length = n
  iff : ∀ u v, u < n → v < n → (m.getD u 0 = m.getD v 0 ↔ Conn l u v)
theorem getD_map {f : Int → Int} {m : List Int} {u : Nat} (h : u < m.length) : (m.map f).getD u 0 = f (m.getD u 0) := by
  rw [List.getD_eq_getElem?_getD, List.getD_eq_getElem?_getD, List.getElem?_map, List.getElem?_eq_getElem h]
  rfl
theorem marks_start (n : Nat) : Marks n [] ((List.range n).map fun (i : Nat) => (i : Int)) := by
  refine ⟨by simp, fun u v hu hv => ?_⟩
  have g : ∀ u, u < n → ((List.range n).map fun (i : Nat) => (i : Int)).getD u 0 = (u : Int) := fun u hu => by
    rw [List.getD_eq_getElem?_getD, List.getElem?_map, List.getElem?_range hu]
    rfl
  rw [g u hu, g v hv]
  constructor
  · intro e
    have e : u = v := by omega
    rw [e]; exact .refl _
  · intro c
    cases c with
    | refl => rfl
    | step _ a => obtain ⟨_, hs, _⟩ := a; cases hs
theorem Marks.join {n : Nat} {l : List Seam} {m : List Int} {s : Seam} (M : Marks n l m) (h : s.x < n ∧ s.y < n) : Marks n (l ++ [s]) (joined m s) := by
  refine ⟨by unfold joined; rw [List.length_map]; exact M.len, fun u v hu hv => ?_⟩
  have lu : u < m.length := M.len.symm ▸ hu
  have lv : v < m.length := M.len.symm ▸ hv
  rw [conn_snoc, ← M.iff u v hu hv, ← M.iff u s.x hu h.1, ← M.iff s.y v h.2 hv, ← M.iff u s.y hu h.2, ← M.iff s.x v h.1 hv]
  unfold joined
  rw [getD_map lu, getD_map lv]
  generalize m.getD u 0 = a
  generalize m.getD v 0 = b
  generalize m.getD s.x 0 = c
  generalize m.getD s.y 0 = d
  by_cases e1 : a = d
  · rw [if_pos e1]
    by_cases e2 : b = d
    · rw [if_pos e2]
      constructor
      · intro _; left; omega
      · intro _; rfl
    · rw [if_neg e2]
      omega
  · rw [if_neg e1]
    by_cases e2 : b = d
    · rw [if_pos e2]; omega
    · rw [if_neg e2]; omega
theorem Marks.congr {n : Nat} {l l' : List Seam} {m : List Int} (M : Marks n l m) (e : ∀ u v, Conn l u v ↔ Conn l' u v) : Marks n l' m := ⟨M.len, fun u v hu hv => (M.iff u v hu hv).trans (e u v)⟩
theorem Marks.hang {n : Nat} {l : List Seam} {m : List Int} (M : Marks n l m) (h : Ok n l) {x y : Nat} (hx : x < n) (hy : y < n) : hang n l x y = decide (m.getD x 0 = m.getD y 0) := by
  rw [Bool.eq_iff_iff, hang_iff h hx, decide_eq_true_iff, M.iff x y hx hy]
theorem marks_fold {n : Nat} : ∀ (r l : List Seam) (m : List Int), Marks n l m → Ok n r → Marks n (l ++ r) (r.foldl joined m)
  | [], l, m, M, _ => by rw [List.append_nil]; exact M
  | s :: r, l, m, M, h => by
    have e : l ++ s :: r = (l ++ [s]) ++ r := by simp
    rw [e]
    exact marks_fold r (l ++ [s]) (joined m s) (M.join (h s (by simp))) fun t ht => h t (by simp [ht])
def okYard (y : Yard) : Prop := Ok y.parts y.seams
theorem seamAt_of {y : Yard} {k : Nat} (h : k < y.seams.length) : y.seams[k]? = some (seamAt y k) := by
  unfold seamAt
  rw [List.getD_eq_getElem?_getD, List.getElem?_eq_getElem h]
  rfl
theorem seamAt_mem {y : Yard} {k : Nat} (h : k < y.seams.length) : seamAt y k ∈ y.seams := List.mem_of_getElem? (seamAt_of h)
theorem seamAt_eq {y : Yard} {k : Nat} {s : Seam} (h : y.seams[k]? = some s) : seamAt y k = s := by
  unfold seamAt
  rw [List.getD_eq_getElem?_getD, h]
  rfl
theorem okYard.at {y : Yard} (h : okYard y) {k : Nat} (hk : k < y.seams.length) : (seamAt y k).x < y.parts ∧ (seamAt y k).y < y.parts := h _ (seamAt_mem hk)
theorem mem_nums {y : Yard} {k : Nat} : k ∈ nums y ↔ k < y.seams.length := List.mem_range
theorem mem_open {y : Yard} {k : Nat} : k ∈ open_ y ↔ k < y.seams.length ∧ (seamAt y k).welded = false := by
  unfold open_
  rw [List.mem_filter, mem_nums]
  simp
def wnums (y : Yard) : List Nat := (nums y).filter fun k => (seamAt y k).welded
theorem mem_wnums {y : Yard} {k : Nat} : k ∈ wnums y ↔ k < y.seams.length ∧ (seamAt y k).welded = true := by
  unfold wnums
  rw [List.mem_filter, mem_nums]
theorem range_filter_map {α : Type} (d : α) (P : α → Bool) : ∀ l : List α, ((List.range l.length).filter fun k => P (l.getD k d)).map (fun k => l.getD k d) = l.filter P
  | [] => rfl
  | a :: l => by
    rw [List.length_cons, List.range_succ_eq_map, List.filter_cons, List.filter_map]
    have e : (fun k => P ((a :: l).getD k d)) ∘ Nat.succ = fun k => P (l.getD k d) := by funext k; simp
    rw [e]
    have ih := range_filter_map d P l
    have g : ((List.filter (fun k => P (l.getD k d)) (List.range l.length)).map Nat.succ).map (fun k => (a :: l).getD k d) = l.filter P := by
      rw [List.map_map, ← ih]
      refine List.map_congr_left fun k _ => ?_
      simp
    rw [List.filter_cons]
    by_cases h : P a = true
    · rw [if_pos (by simpa using h), if_pos h, List.map_cons, g]
      simp
    · rw [if_neg (by simpa using h), if_neg h, g]
theorem wnums_seams (y : Yard) : seamsOf y (wnums y) = welded y := range_filter_map (⟨0, 0, 0, false, false⟩ : Seam) (fun s => s.welded) y.seams
theorem nums_seams (y : Yard) : seamsOf y (nums y) = y.seams := by
  have h := range_filter_map (⟨0, 0, 0, false, false⟩ : Seam) (fun _ => true) y.seams
  have e1 : (List.range y.seams.length).filter (fun _ => true) = List.range y.seams.length := List.filter_eq_self.mpr fun _ _ => rfl
  have e2 : y.seams.filter (fun _ => true) = y.seams := List.filter_eq_self.mpr fun _ _ => rfl
  simp only [e1, e2] at h
  exact h
theorem Ok.welded {y : Yard} (h : okYard y) : Ok y.parts (Kp261.welded y) := fun s hs => h s (List.mem_filter.mp hs).1
theorem Ok.seamsOf {y : Yard} (h : okYard y) {l : List Nat} (hl : ∀ k, k ∈ l → k < y.seams.length) : Ok y.parts (seamsOf y l) := fun s hs => by
  obtain ⟨k, hk, rfl⟩ := List.mem_map.mp hs
  exact h.at (hl k hk)
def lockRec (n : Nat) (at_ : Nat → Seam) (w : List Seam) : List Nat → List Nat
  | [] => []
  | k :: r => if hang n w (at_ k).x (at_ k).y then k :: lockRec n at_ (w ++ [at_ k]) r else lockRec n at_ (w ++ [at_ k]) r
theorem locked_rec {n : Nat} {at_ : Nat → Seam} : ∀ (l : List Nat) (w : List Seam), ((List.range l.length).filter fun i => (run n w (l.map at_)).getD i false).map (fun i => l.getD i 0) = lockRec n at_ w l
  | [], _ => rfl
  | k :: r, w => by
    rw [List.length_cons, List.range_succ_eq_map, List.filter_cons, List.filter_map]
    have ih := locked_rec (at_ := at_) (n := n) r (w ++ [at_ k])
    have e : (fun i => (run n w ((k :: r).map at_)).getD i false) ∘ Nat.succ = fun i => (run n (w ++ [at_ k]) (r.map at_)).getD i false := by
      funext i
      simp [run]
    rw [e]
    have g : ((List.filter (fun i => (run n (w ++ [at_ k]) (r.map at_)).getD i false) (List.range r.length)).map Nat.succ).map (fun i => (k :: r).getD i 0) = lockRec n at_ (w ++ [at_ k]) r := by
      rw [List.map_map, ← ih]
      refine List.map_congr_left fun k _ => ?_
      simp
    have z : (run n w ((k :: r).map at_)).getD 0 false = hang n w (at_ k).x (at_ k).y := by simp [run]
    rw [z]
    unfold lockRec
    by_cases h : hang n w (at_ k).x (at_ k).y = true
    · rw [if_pos h, if_pos h, List.map_cons, g]
      simp
    · rw [if_neg h, if_neg h, g]
theorem lockedOf_eq (y : Yard) (l : List Nat) : lockedOf y l = lockRec y.parts (seamAt y) (welded y) l := locked_rec l (welded y)
theorem strainOf_eq {n : Nat} {at_ : Nat → Seam} : ∀ (l : List Nat) (w : List Seam), strainOf n w (l.map at_) = ((lockRec n at_ w l).map fun k => (at_ k).strain).sum
  | [], _ => rfl
  | k :: r, w => by
    rw [List.map_cons]
    unfold strainOf lockRec
    rw [strainOf_eq r (w ++ [at_ k])]
    by_cases h : hang n w (at_ k).x (at_ k).y = true
    · rw [if_pos h, if_pos h, List.map_cons, List.sum_cons]
    · rw [if_neg h, if_neg h, Nat.zero_add]
theorem least_eq (y : Yard) : least y = ((lockedOf y (order y)).map fun k => (seamAt y k).strain).sum := by
  rw [lockedOf_eq]
  exact strainOf_eq (order y) (welded y)
theorem lockRec_sub {n : Nat} {at_ : Nat → Seam} : ∀ (l : List Nat) (w : List Seam) (k : Nat), k ∈ lockRec n at_ w l → k ∈ l
  | [], _, _, h => h
  | j :: r, w, k, h => by
    unfold lockRec at h
    split at h
    · rcases List.mem_cons.mp h with e | h
      · rw [e]; simp
      · exact List.mem_cons_of_mem _ (lockRec_sub r _ k h)
    · exact List.mem_cons_of_mem _ (lockRec_sub r _ k h)
theorem lockRec_len {n : Nat} {at_ : Nat → Seam} : ∀ (l : List Nat) (w : List Seam), (lockRec n at_ w l).length ≤ l.length
  | [], _ => Nat.le_refl _
  | j :: r, w => by
    unfold lockRec
    have := lockRec_len (n := n) (at_ := at_) r (w ++ [at_ j])
    split
    · rw [List.length_cons, List.length_cons]; omega
    · rw [List.length_cons]; omega
theorem lockRec_cons {n : Nat} {at_ : Nat → Seam} (k : Nat) (r : List Nat) (w : List Seam) : lockRec n at_ w (k :: r) = (if hang n w (at_ k).x (at_ k).y then [k] else []) ++ lockRec n at_ (w ++ [at_ k]) r := by
  show (if hang n w (at_ k).x (at_ k).y then k :: lockRec n at_ (w ++ [at_ k]) r else lockRec n at_ (w ++ [at_ k]) r) = _
  split <;> rfl
theorem lockRec_append {n : Nat} {at_ : Nat → Seam} : ∀ (l r : List Nat) (w : List Seam), lockRec n at_ w (l ++ r) = lockRec n at_ w l ++ lockRec n at_ (w ++ l.map at_) r
  | [], r, w => by rw [List.map_nil, List.append_nil]; rfl
  | k :: l, r, w => by
    have ih := lockRec_append (n := n) (at_ := at_) l r (w ++ [at_ k])
    rw [List.append_assoc] at ih
    rw [List.cons_append, lockRec_cons, lockRec_cons, ih, List.append_assoc, List.map_cons]
    rfl
def Before (y : Yard) (i j : Nat) : Prop := (seamAt y j).strain < (seamAt y i).strain ∨ ((seamAt y i).strain = (seamAt y j).strain ∧ i < j)
theorem put_perm (y : Yard) (k : Nat) : ∀ l : List Nat, (put y k l).Perm (k :: l)
  | [] => .refl _
  | j :: l => by
    unfold put
    split
    · exact .refl _
    · exact ((put_perm y k l).cons j).trans (.swap k j l)
theorem put_before {y : Yard} {k : Nat} : ∀ {l : List Nat}, l.Pairwise (Before y) → (∀ j, j ∈ l → j < k) → (put y k l).Pairwise (Before y)
  | [], _, _ => by simp [put]
  | j :: l, h, hk => by
    obtain ⟨h1, h2⟩ := List.pairwise_cons.mp h
    unfold put
    split
    · rename_i c
      refine List.pairwise_cons.mpr ⟨fun i hi => ?_, h⟩
      rcases List.mem_cons.mp hi with e | hi
      · rw [e]; exact .inl c
      · rcases h1 i hi with g | g
        · exact .inl (Nat.lt_trans g c)
        · exact .inl (g.1 ▸ c)
    · rename_i c
      refine List.pairwise_cons.mpr ⟨fun i hi => ?_, put_before h2 fun i hi => hk i (List.mem_cons_of_mem _ hi)⟩
      rcases List.mem_cons.mp ((put_perm y k l).mem_iff.mp hi) with e | hi
      · rw [e]
        rcases Nat.lt_or_ge (seamAt y k).strain (seamAt y j).strain with g | g
        · exact .inl g
        · exact .inr ⟨by omega, hk j (by simp)⟩
      · exact h1 i hi
theorem fold_put {y : Yard} : ∀ (l acc : List Nat), l.Pairwise (· < ·) → acc.Pairwise (Before y) → (∀ i j, i ∈ acc → j ∈ l → i < j) →
    (l.foldl (fun (l : List Nat) (k : Nat) => put y k l) acc).Pairwise (Before y) ∧ (l.foldl (fun (l : List Nat) (k : Nat) => put y k l) acc).Perm (acc ++ l)
  | [], acc, _, h, _ => ⟨h, by rw [List.append_nil]; exact .refl _⟩
  | k :: l, acc, hl, h, hk => by
    obtain ⟨l1, l2⟩ := List.pairwise_cons.mp hl
    have hp := put_perm y k acc
    have ih := fold_put l (put y k acc) l2 (put_before h fun j hj => hk j k hj (by simp)) fun i j hi hj => by
      rcases List.mem_cons.mp (hp.mem_iff.mp hi) with e | hi
      · rw [e]; exact l1 j hj
      · exact hk i j hi (List.mem_cons_of_mem _ hj)
    refine ⟨ih.1, ih.2.trans ?_⟩
    exact (hp.append_right l).trans (List.perm_middle.symm)
theorem pairwise_range (n : Nat) : (List.range n).Pairwise (· < ·) := List.pairwise_lt_range
theorem order_told (y : Yard) : (order y).Pairwise (Before y) ∧ (order y).Perm (open_ y) := by
  have h := fold_put (y := y) (open_ y) [] ((pairwise_range _).filter _) .nil (fun _ _ h => nomatch h)
  exact h
theorem perm_unique {α : Type} {R : α → α → Prop} (anti : ∀ a b, R a b → R b a → False) : ∀ {l l' : List α}, l.Pairwise R → l'.Pairwise R → l.Perm l' → l = l'
  | [], l', _, _, p => (List.Perm.nil_eq p)
  | a :: l, [], _, _, p => absurd p.length_eq (by simp)
  | a :: l, b :: l', h, h', p => by
    obtain ⟨h1, h2⟩ := List.pairwise_cons.mp h
    obtain ⟨h1', h2'⟩ := List.pairwise_cons.mp h'
    by_cases e : a = b
    · subst e
      rw [perm_unique anti h2 h2' (List.Perm.cons_inv p)]
    · exfalso
      have ha : a ∈ l' := (List.mem_cons.mp (p.mem_iff.mp (by simp))).resolve_left e
      have hb : b ∈ l := (List.mem_cons.mp (p.mem_iff.mpr (by simp))).resolve_left fun z => e z.symm
      exact anti a b (h1 b hb) (h1' a ha)
theorem Before.anti {y : Yard} (a b : Nat) (h : Before y a b) (g : Before y b a) : False := by
  rcases h with h | h <;> rcases g with g | g <;> omega
theorem order_unique {y : Yard} {l : List Nat} (h : l.Pairwise (Before y)) (p : l.Perm (open_ y)) : l = order y :=
  perm_unique Before.anti h (order_told y).1 (p.trans (order_told y).2.symm)
theorem mem_order {y : Yard} {k : Nat} : k ∈ order y ↔ k < y.seams.length ∧ (seamAt y k).welded = false := (order_told y).2.mem_iff.trans mem_open
end Hs
end
section
set_option linter.all false
namespace Hs
open Kp261
theorem strainOf_congr {n : Nat} : ∀ (r w w' : List Seam), Ok n w → Ok n w' → Ok n r → (∀ u v, Conn w u v ↔ Conn w' u v) → strainOf n w r = strainOf n w' r
  | [], _, _, _, _, _, _ => rfl
  | s :: r, w, w', h, h', hr, e => by
    have hs := hr s (by simp)
    unfold strainOf
    rw [hang_eq h h' hs.1 hs.1 (e s.x s.y), strainOf_congr r (w ++ [s]) (w' ++ [s]) (h.snoc hs) (h'.snoc hs) (fun t ht => hr t (by simp [ht])) fun u v => by
      rw [conn_snoc, conn_snoc, e, e, e, e, e]]
theorem strainOf_cons {n : Nat} (s : Seam) (r w : List Seam) : strainOf n w (s :: r) = (if hang n w s.x s.y then s.strain else 0) + strainOf n (w ++ [s]) r := rfl
theorem swap_le {n : Nat} {w r : List Seam} {a b : Seam} (h : Ok n w) (ha : a.x < n ∧ a.y < n) (hb : b.x < n ∧ b.y < n) (hr : Ok n r) (hs : b.strain ≤ a.strain) : strainOf n w (a :: b :: r) ≤ strainOf n w (b :: a :: r) := by
  rw [strainOf_cons, strainOf_cons, strainOf_cons, strainOf_cons]
  have e : strainOf n (w ++ [a] ++ [b]) r = strainOf n (w ++ [b] ++ [a]) r := by
    refine strainOf_congr r _ _ ((h.snoc ha).snoc hb) ((h.snoc hb).snoc ha) hr fun u v => ?_
    have m : ∀ {p q : Seam} (t : Seam), t ∈ w ++ [p] ++ [q] → t ∈ w ++ [q] ++ [p] := fun t ht => by
      simp only [List.mem_append, List.mem_singleton] at ht ⊢
      rcases ht with (ht | ht) | ht
      · exact .inl (.inl ht)
      · exact .inr ht
      · exact .inl (.inr ht)
    exact ⟨fun c => c.mono m, fun c => c.mono m⟩
  rw [e]
  have mA : hang n w a.x a.y = true → hang n (w ++ [b]) a.x a.y = true := fun c => by
    rw [hang_iff h ha.1] at c
    rw [hang_iff (h.snoc hb) ha.1]
    exact c.mono fun t ht => List.mem_append_left _ ht
  have mK : hang n (w ++ [a]) b.x b.y = true → ¬ hang n w b.x b.y = true → hang n (w ++ [b]) a.x a.y = true ∧ ¬ hang n w a.x a.y = true := fun c d => by
    rw [hang_iff (h.snoc ha) hb.1, conn_snoc] at c
    rw [hang_iff h hb.1] at d
    rw [hang_iff (h.snoc hb) ha.1, hang_iff h ha.1, conn_snoc]
    rcases c with c | ⟨c1, c2⟩ | ⟨c1, c2⟩
    · exact absurd c d
    · exact ⟨.inr (.inl ⟨c1.symm, c2.symm⟩), fun z => d ((c1.trans z).trans c2)⟩
    · exact ⟨.inr (.inr ⟨c2, c1⟩), fun z => d ((c1.trans z.symm).trans c2)⟩
  by_cases k1 : hang n w b.x b.y = true
  · rw [if_pos k1]
    by_cases a1 : hang n w a.x a.y = true
    · rw [if_pos a1, if_pos (mA a1)]
      split <;> omega
    · rw [if_neg a1]
      split <;> split <;> omega
  · rw [if_neg k1]
    by_cases k2 : hang n (w ++ [a]) b.x b.y = true
    · obtain ⟨g1, g2⟩ := mK k2 k1
      rw [if_neg g2, if_pos k2, if_pos g1]
      omega
    · rw [if_neg k2]
      by_cases a1 : hang n w a.x a.y = true
      · rw [if_pos a1, if_pos (mA a1)]
        omega
      · rw [if_neg a1]
        omega
theorem front_le {n : Nat} {b : Seam} (hb : b.x < n ∧ b.y < n) : ∀ (pre r w : List Seam), Ok n w → Ok n pre → Ok n r → (∀ a, a ∈ pre → b.strain ≤ a.strain) → strainOf n w (pre ++ b :: r) ≤ strainOf n w (b :: (pre ++ r))
  | [], _, _, _, _, _, _ => Nat.le_refl _
  | a :: pre, r, w, h, hp, hr, hs => by
    have ha := hp a (by simp)
    have hp' : Ok n pre := fun t ht => hp t (by simp [ht])
    have ih := front_le hb pre r (w ++ [a]) (h.snoc ha) hp' hr fun t ht => hs t (by simp [ht])
    have sw := swap_le (r := pre ++ r) h ha hb (hp'.append hr) (hs a (by simp))
    rw [strainOf_cons a (b :: (pre ++ r)) w] at sw
    rw [List.cons_append, strainOf_cons, List.cons_append]
    omega
theorem weldIt_len (y : Yard) (k : Nat) : (weldIt y k).seams.length = y.seams.length := by
  unfold weldIt
  rw [List.length_set]
theorem set_at {y : Yard} {s : Seam} {k j : Nat} (h : j < y.seams.length) : seamAt { y with seams := y.seams.set k s } j = if j = k then s else seamAt y j := by
  unfold seamAt
  rw [List.getD_eq_getElem?_getD, List.getD_eq_getElem?_getD]
  by_cases e : j = k
  · subst e
    rw [if_pos rfl, List.getElem?_set_self h]
    rfl
  · rw [if_neg e, List.getElem?_set_ne (fun z => e z.symm)]
theorem weldIt_at {y : Yard} {k j : Nat} (h : j < y.seams.length) : seamAt (weldIt y k) j = if j = k then { seamAt y k with welded := true, locked := Kp261.hang y.parts (welded y) (seamAt y k).x (seamAt y k).y } else seamAt y j := set_at h
theorem weldIt_x {y : Yard} {k j : Nat} (h : j < y.seams.length) : (seamAt (weldIt y k) j).x = (seamAt y j).x ∧ (seamAt (weldIt y k) j).y = (seamAt y j).y ∧ (seamAt (weldIt y k) j).strain = (seamAt y j).strain := by
  rw [weldIt_at h]
  by_cases e : j = k
  · rw [if_pos e, e]; exact ⟨rfl, rfl, rfl⟩
  · rw [if_neg e]; exact ⟨rfl, rfl, rfl⟩
theorem weldIt_w {y : Yard} {k j : Nat} (h : j < y.seams.length) : (seamAt (weldIt y k) j).welded = (decide (j = k) || (seamAt y j).welded) := by
  rw [weldIt_at h]
  by_cases e : j = k
  · rw [if_pos e, decide_eq_true e]; rfl
  · rw [if_neg e, decide_eq_false e]; rfl
theorem ok_set {y : Yard} {s : Seam} {k : Nat} (h : okYard y) (hs : s.x < y.parts ∧ s.y < y.parts) : okYard { y with seams := y.seams.set k s } := fun t ht => by
  rcases List.mem_or_eq_of_mem_set ht with z | z
  · exact h t z
  · rw [z]; exact hs
theorem weldIt_ok {y : Yard} {k : Nat} (h : okYard y) (hk : k < y.seams.length) : okYard (weldIt y k) := ok_set h (h.at hk)
theorem adj_welded {y : Yard} {p q : Nat} : Adj (welded y) p q ↔ ∃ j, j < y.seams.length ∧ (seamAt y j).welded = true ∧ (((seamAt y j).x = p ∧ (seamAt y j).y = q) ∨ ((seamAt y j).y = p ∧ (seamAt y j).x = q)) := by
  constructor
  · rintro ⟨s, hs, a⟩
    obtain ⟨hm, hw⟩ := List.mem_filter.mp hs
    obtain ⟨j, hj⟩ := List.getElem?_of_mem hm
    have hl : j < y.seams.length := (List.getElem?_eq_some_iff.mp hj).1
    have e := seamAt_eq hj
    refine ⟨j, hl, by rw [e]; exact hw, by rw [e]; exact a⟩
  · rintro ⟨j, hj, hw, a⟩
    exact ⟨seamAt y j, List.mem_filter.mpr ⟨seamAt_mem hj, hw⟩, a⟩
theorem adj_snoc {l : List Seam} {s : Seam} {p q : Nat} : Adj (l ++ [s]) p q ↔ Adj l p q ∨ ((s.x = p ∧ s.y = q) ∨ (s.y = p ∧ s.x = q)) := by
  constructor
  · rintro ⟨t, ht, a⟩
    rcases List.mem_append.mp ht with z | z
    · exact .inl ⟨t, z, a⟩
    · rw [List.mem_singleton.mp z] at a; exact .inr a
  · rintro (⟨t, ht, a⟩ | a)
    · exact ⟨t, List.mem_append_left _ ht, a⟩
    · exact ⟨s, List.mem_append_right _ (by simp), a⟩
theorem weldIt_adj {y : Yard} {k : Nat} (hk : k < y.seams.length) {p q : Nat} : Adj (welded (weldIt y k)) p q ↔ Adj (welded y ++ [seamAt y k]) p q := by
  rw [adj_snoc, adj_welded, adj_welded]
  constructor
  · rintro ⟨j, hj, hw, a⟩
    rw [weldIt_len] at hj
    obtain ⟨e1, e2, _⟩ := weldIt_x (k := k) hj
    rw [e1, e2] at a
    rw [weldIt_w hj] at hw
    by_cases e : j = k
    · subst e; exact .inr a
    · rw [decide_eq_false e, Bool.false_or] at hw
      exact .inl ⟨j, hj, hw, a⟩
  · rintro (⟨j, hj, hw, a⟩ | a)
    · obtain ⟨e1, e2, _⟩ := weldIt_x (k := k) hj
      refine ⟨j, by rw [weldIt_len]; exact hj, ?_, by rw [e1, e2]; exact a⟩
      rw [weldIt_w hj, hw, Bool.or_true]
    · obtain ⟨e1, e2, _⟩ := weldIt_x (k := k) hk
      refine ⟨k, by rw [weldIt_len]; exact hk, ?_, by rw [e1, e2]; exact a⟩
      rw [weldIt_w hk, decide_eq_true rfl, Bool.true_or]
theorem weldIt_conn {y : Yard} {k : Nat} (hk : k < y.seams.length) {u v : Nat} : Conn (welded (weldIt y k)) u v ↔ Conn (welded y ++ [seamAt y k]) u v :=
  ⟨fun c => c.congr fun _ _ a => (weldIt_adj hk).mp a, fun c => c.congr fun _ _ a => (weldIt_adj hk).mpr a⟩
theorem weldIt_open {y : Yard} {k : Nat} : open_ (weldIt y k) = (open_ y).filter fun j => decide (j ≠ k) := by
  unfold open_ nums
  rw [weldIt_len, List.filter_filter]
  refine List.filter_congr fun j hj => ?_
  rw [weldIt_w (List.mem_range.mp hj)]
  by_cases e : j = k
  · simp [e]
  · simp [e]
theorem order_nodup (y : Yard) : (order y).Nodup := (order_told y).1.imp fun h e => by
  subst e
  exact Before.anti _ _ h h
theorem filter_ne_self {k : Nat} {l : List Nat} (h : k ∉ l) : l.filter (fun j => decide (j ≠ k)) = l := List.filter_eq_self.mpr fun j hj => decide_eq_true fun e => h (e ▸ hj)
theorem split_filter {k : Nat} {pre post : List Nat} (h : (pre ++ k :: post).Nodup) : (pre ++ k :: post).filter (fun j => decide (j ≠ k)) = pre ++ post := by
  have h' := List.nodup_append.mp h
  have h2 := List.nodup_cons.mp h'.2.1
  rw [List.filter_append, List.filter_cons, if_neg (by simp), filter_ne_self h2.1, filter_ne_self fun z => h'.2.2 k z k (by simp) rfl]
theorem weldIt_order {y : Yard} {k : Nat} : order (weldIt y k) = (order y).filter fun j => decide (j ≠ k) := by
  refine (order_unique ?_ ?_).symm
  · have h := (order_told y).1.filter fun j => decide (j ≠ k)
    refine h.imp_of_mem fun {i j} hi hj b => ?_
    have hi' := (mem_order.mp (List.mem_filter.mp hi).1).1
    have hj' := (mem_order.mp (List.mem_filter.mp hj).1).1
    unfold Before
    rw [(weldIt_x hi').2.2, (weldIt_x hj').2.2]
    exact b
  · rw [weldIt_open]
    exact (order_told y).2.filter _
theorem seams_ok {y : Yard} (h : okYard y) {l : List Nat} (hl : ∀ k, k ∈ l → k < y.seams.length) : Ok y.parts (l.map (seamAt y)) := Ok.seamsOf h hl
theorem least_le {y : Yard} {k : Nat} (h : okYard y) (hk : k < y.seams.length) (hw : (seamAt y k).welded = false) :
    least y ≤ (if hang y.parts (welded y) (seamAt y k).x (seamAt y k).y then (seamAt y k).strain else 0) + least (weldIt y k) := by
  have hm : k ∈ order y := mem_order.mpr ⟨hk, hw⟩
  obtain ⟨pre, post, e⟩ := List.append_of_mem hm
  have nd := order_nodup y
  have eo : order (weldIt y k) = pre ++ post := by rw [weldIt_order, e, split_filter (e ▸ nd)]
  have all : ∀ j, j ∈ pre ++ k :: post → j < y.seams.length := fun j hj => (mem_order.mp (e ▸ hj)).1
  have allp : ∀ j, j ∈ pre → j < y.seams.length := fun j hj => all j (List.mem_append_left _ hj)
  have allq : ∀ j, j ∈ post → j < y.seams.length := fun j hj => all j (List.mem_append_right _ (List.mem_cons_of_mem _ hj))
  have es : seamsOf (weldIt y k) (pre ++ post) = seamsOf y (pre ++ post) := by
    refine List.map_congr_left fun j hj => ?_
    have hj' : j < y.seams.length := (List.mem_append.mp hj).elim (allp j) (allq j)
    have ne : j ≠ k := by
      intro z
      rw [z, ← split_filter (e ▸ nd)] at hj
      have := (List.mem_filter.mp hj).2
      simp at this
    rw [weldIt_at hj', if_neg ne]
  have e1 : least y = strainOf y.parts (welded y) (pre.map (seamAt y) ++ seamAt y k :: post.map (seamAt y)) := by
    unfold least seamsOf
    rw [e, List.map_append, List.map_cons]
  have e2 : least (weldIt y k) = strainOf y.parts (welded y ++ [seamAt y k]) (pre.map (seamAt y) ++ post.map (seamAt y)) := by
    unfold least
    rw [eo, es]
    show strainOf y.parts (welded (weldIt y k)) ((pre ++ post).map (seamAt y)) = _
    rw [List.map_append]
    exact strainOf_congr _ _ _ (Ok.welded (weldIt_ok h hk)) ((Ok.welded h).snoc (h.at hk)) ((seams_ok h allp).append (seams_ok h allq)) fun u v => weldIt_conn hk
  have b := (order_told y).1
  rw [e] at b
  have hs : ∀ a, a ∈ pre.map (seamAt y) → (seamAt y k).strain ≤ a.strain := fun a ha => by
    obtain ⟨j, hj, rfl⟩ := List.mem_map.mp ha
    rcases (List.pairwise_append.mp b).2.2 j hj k (by simp) with z | z <;> omega
  have f := front_le (h.at hk) (pre.map (seamAt y)) (post.map (seamAt y)) (welded y) (Ok.welded h) (seams_ok h allp) (seams_ok h allq) hs
  rw [strainOf_cons] at f
  rw [e1, e2]
  exact f
end Hs
end
section
set_option linter.all false
namespace Hs
open Kp261
def Walk (y : Yard) (to : Nat) : Nat → List Nat → Prop
  | p, [] => p = to
  | p, k :: r => ∃ q, k ∈ wnums y ∧ other (seamAt y k) p = some q ∧ Walk y to q r
def lexLe : List Nat → List Nat → Prop
  | [], _ => True
  | _ :: _, [] => False
  | a :: l, b :: m => a < b ∨ (a = b ∧ lexLe l m)
theorem lexLe_refl : ∀ l, lexLe l l
  | [] => trivial
  | _ :: l => .inr ⟨rfl, lexLe_refl l⟩
theorem lexLe_anti : ∀ {l m : List Nat}, l.length = m.length → lexLe l m → lexLe m l → l = m
  | [], [], _, _, _ => rfl
  | [], _ :: _, e, _, _ => by simp at e
  | _ :: _, [], _, h, _ => h.elim
  | a :: l, b :: m, e, h, g => by
    rcases h with h | ⟨h1, h2⟩
    · rcases g with g | ⟨g1, _⟩
      · omega
      · omega
    · rcases g with g | ⟨_, g2⟩
      · omega
      · rw [h1, lexLe_anti (by simpa using e) h2 g2]
structure Best (y : Yard) (to p : Nat) (l : List Nat) : Prop where
  walk : Walk y to p l
  least : ∀ m, Walk y to p m → l.length < m.length ∨ (l.length = m.length ∧ lexLe l m)
theorem Best.unique {y : Yard} {to p : Nat} {l m : List Nat} (h : Best y to p l) (g : Best y to p m) : l = m := by
  rcases h.least m g.walk with a | a <;> rcases g.least l h.walk with b | b
  · omega
  · omega
  · omega
  · exact lexLe_anti a.1 a.2 b.2
theorem findSome_first {β : Type} {f : Nat → Option β} {k : Nat} {b : β} : ∀ {l : List Nat}, l.Pairwise (· < ·) → k ∈ l → f k = some b → (∀ j, j ∈ l → j < k → f j = none) → l.findSome? f = some b
  | [], _, h, _, _ => nomatch h
  | a :: l, hl, hk, e, h => by
    obtain ⟨l1, l2⟩ := List.pairwise_cons.mp hl
    rw [List.findSome?_cons]
    rcases List.mem_cons.mp hk with z | z
    · rw [← z, e]
    · rw [h a (by simp) (l1 k z)]
      exact findSome_first l2 z e fun j hj hjk => h j (by simp [hj]) hjk
theorem wnums_lt (y : Yard) : (wnums y).Pairwise (· < ·) := (pairwise_range _).filter _
def wayStep (y : Yard) (to f p : Nat) (seen : List Nat) (k : Nat) : Option (List Nat) := match other (seamAt y k) p with
    | some q => if seen.contains q then none else (wayFrom y to f q (q :: seen)).map fun l => k :: l
    | none => none
theorem wayFrom_zero (y : Yard) (to p : Nat) (seen : List Nat) : wayFrom y to 0 p seen = if p = to then some [] else none := rfl
theorem wayFrom_succ (y : Yard) (to f p : Nat) (seen : List Nat) : wayFrom y to (f + 1) p seen = if p = to then some [] else (wnums y).findSome? (wayStep y to f p seen) := rfl
theorem way_sound {y : Yard} {to : Nat} : ∀ (f p : Nat) (seen l : List Nat), wayFrom y to f p seen = some l → Walk y to p l ∧ l.length ≤ f
  | 0, p, seen, l, h => by
    rw [wayFrom_zero] at h
    split at h
    · cases h
      exact ⟨by assumption, Nat.le_refl _⟩
    · cases h
  | f + 1, p, seen, l, h => by
    rw [wayFrom_succ] at h
    split at h
    · cases h
      exact ⟨by assumption, Nat.zero_le _⟩
    · obtain ⟨k, hk, e⟩ := List.exists_of_findSome?_eq_some h
      unfold wayStep at e
      split at e
      · rename_i q hq
        split at e
        · cases e
        · cases c : wayFrom y to f q (q :: seen) with
          | none => rw [c] at e; cases e
          | some m =>
            rw [c] at e
            have e' : k :: m = l := Option.some.inj e
            obtain ⟨w, hl⟩ := way_sound f q (q :: seen) m c
            rw [← e']
            exact ⟨⟨q, hk, hq, w⟩, Nat.succ_le_succ hl⟩
      · cases e
def Far (y : Yard) (to d p : Nat) : Prop := ∀ l, Walk y to p l → d ≤ l.length
theorem Far.mono {y : Yard} {to d e p : Nat} (h : Far y to d p) (he : e ≤ d) : Far y to e p := fun l w => Nat.le_trans he (h l w)
theorem way_best {y : Yard} {to : Nat} : ∀ (d p : Nat) (seen : List Nat), (∃ l, Walk y to p l ∧ l.length = d) → Far y to d p → (∀ q, q ∈ seen → Far y to d q) → ∃ l, wayFrom y to d p seen = some l ∧ Walk y to p l ∧ l.length = d ∧ ∀ m, Walk y to p m → m.length = d → lexLe l m
  | 0, p, seen, ⟨l, w, e⟩, _, _ => by
    have e0 : l = [] := List.eq_nil_of_length_eq_zero e
    subst e0
    have hp : p = to := w
    exact ⟨[], by rw [wayFrom_zero, if_pos hp], w, rfl, fun _ _ _ => trivial⟩
  | d + 1, p, seen, hex, far, hs => by
    have hp : ¬ p = to := fun e => by
      have := far [] e
      simp at this
    have far1 : ∀ k q, k ∈ wnums y → other (seamAt y k) p = some q → Far y to d q := fun k q hk hq l w => by
      have := far (k :: l) ⟨q, hk, hq, w⟩
      rw [List.length_cons] at this
      omega
    have good : ∀ k q, k ∈ wnums y → other (seamAt y k) p = some q → (∃ l, Walk y to q l ∧ l.length = d) → ∃ l, wayStep y to d p seen k = some (k :: l) ∧ Walk y to q l ∧ l.length = d ∧ ∀ m, Walk y to q m → m.length = d → lexLe l m := fun k q hk hq hx => by
      have ns : seen.contains q = false := by
        rw [Bool.eq_false_iff]
        intro z
        obtain ⟨l, w, e⟩ := hx
        have := hs q (List.contains_iff_mem.mp z) l w
        omega
      obtain ⟨l, h1, h2, h3, h4⟩ := way_best d q (q :: seen) hx (far1 k q hk hq) fun r hr => by
        rcases List.mem_cons.mp hr with z | z
        · rw [z]; exact far1 k q hk hq
        · exact (hs r z).mono (Nat.le_succ _)
      refine ⟨l, ?_, h2, h3, h4⟩
      unfold wayStep
      rw [hq]
      show (if seen.contains q then none else (wayFrom y to d q (q :: seen)).map fun l => k :: l) = _
      rw [ns, h1]
      rfl
    have bad : ∀ k, k ∈ wnums y → (∀ q, other (seamAt y k) p = some q → ¬ ∃ l, Walk y to q l ∧ l.length = d) → wayStep y to d p seen k = none := fun k hk hx => by
      unfold wayStep
      cases hq : other (seamAt y k) p with
      | none => rfl
      | some q =>
        show (if seen.contains q then none else (wayFrom y to d q (q :: seen)).map fun l => k :: l) = none
        split
        · rfl
        · cases c : wayFrom y to d q (q :: seen) with
          | none => rfl
          | some m =>
            exfalso
            obtain ⟨w, hl⟩ := way_sound d q _ m c
            have := far1 k q hk hq m w
            exact hx q hq ⟨m, w, by omega⟩
    have key : ∀ (n : Nat) (k : Nat), k ≤ n → k ∈ wnums y → (∃ q, other (seamAt y k) p = some q ∧ ∃ l, Walk y to q l ∧ l.length = d) →
        ∃ k0 q0, k0 ≤ k ∧ k0 ∈ wnums y ∧ other (seamAt y k0) p = some q0 ∧ (∃ l, Walk y to q0 l ∧ l.length = d) ∧ ∀ j, j ∈ wnums y → j < k0 → ∀ q, other (seamAt y j) p = some q → ¬ ∃ l, Walk y to q l ∧ l.length = d := by
      intro n
      induction n with
      | zero =>
        intro k hk hm ⟨q, hq, hx⟩
        exact ⟨k, q, Nat.le_refl _, hm, hq, hx, fun j _ hj => by omega⟩
      | succ n ih =>
        intro k hk hm ⟨q, hq, hx⟩
        by_cases c : ∃ j, j ∈ wnums y ∧ j < k ∧ ∃ q, other (seamAt y j) p = some q ∧ ∃ l, Walk y to q l ∧ l.length = d
        · obtain ⟨j, hj, hjk, hjq⟩ := c
          obtain ⟨k0, q0, h1, h2⟩ := ih j (by omega) hj hjq
          exact ⟨k0, q0, by omega, h2⟩
        · exact ⟨k, q, Nat.le_refl _, hm, hq, hx, fun j hj hjk q hq hx => c ⟨j, hj, hjk, q, hq, hx⟩⟩
    have first : ∀ m, Walk y to p m → m.length = d + 1 → ∃ k r q, m = k :: r ∧ k ∈ wnums y ∧ other (seamAt y k) p = some q ∧ Walk y to q r ∧ r.length = d := fun m w e => by
      match m, w, e with
      | [], _, e => simp at e
      | k :: r, ⟨q, hk, hq, w⟩, e => exact ⟨k, r, q, rfl, hk, hq, w, by simpa using e⟩
    obtain ⟨m, wm, em⟩ := hex
    obtain ⟨k, r, q, _, hk, hq, wr, er⟩ := first m wm em
    obtain ⟨k0, q0, _, hk0, hq0, hx0, hmin⟩ := key k k (Nat.le_refl _) hk ⟨q, hq, r, wr, er⟩
    obtain ⟨l, g1, g2, g3, g4⟩ := good k0 q0 hk0 hq0 hx0
    refine ⟨k0 :: l, ?_, ⟨q0, hk0, hq0, g2⟩, by rw [List.length_cons, g3], fun m wm em => ?_⟩
    · rw [wayFrom_succ, if_neg hp]
      exact findSome_first (wnums_lt y) hk0 g1 fun j hj hjk => bad j hj fun q hq => hmin j hj hjk q hq
    · obtain ⟨k', r', q', rfl, hk', hq', wr', er'⟩ := first m wm em
      rcases Nat.lt_trichotomy k0 k' with z | z | z
      · exact .inl z
      · subst z
        have eq : q' = q0 := Option.some.inj (hq'.symm.trans hq0)
        subst eq
        exact .inr ⟨rfl, g4 r' wr' er'⟩
      · exact absurd ⟨r', wr', er'⟩ (hmin k' hk' z q' hq')
theorem row_one {n x : Nat} (h : x < n) : Row n [x] := by
  refine ⟨fun p => p == x, ?_⟩
  induction n with
  | zero => omega
  | succ n ih =>
    rw [List.range_succ, List.filter_append]
    by_cases e : x = n
    · subst e
      have : (List.range x).filter (fun p => p == x) = [] := List.filter_eq_nil_iff.mpr fun p hp => by
        have := List.mem_range.mp hp
        simp; omega
      rw [this]
      simp
    · rw [← ih (by omega)]
      have : (n == x) = false := by simp; omega
      simp [this]
theorem adj_step {y : Yard} {p q : Nat} (a : Adj (welded y) p q) : ∃ k, k ∈ wnums y ∧ other (seamAt y k) p = some q := by
  obtain ⟨j, hj, hw, a⟩ := adj_welded.mp a
  exact ⟨j, mem_wnums.mpr ⟨hj, hw⟩, other_of a⟩
theorem near_walk {y : Yard} {to n : Nat} : ∀ (f g : Nat) {r : List Nat}, (∀ p, p ∈ r → ∃ l, Walk y to p l ∧ l.length ≤ g) → ∀ p, p ∈ near n (welded y) f r → ∃ l, Walk y to p l ∧ l.length ≤ g + f
  | 0, _, _, h => h
  | f + 1, g, r, h => fun p hp => by
    obtain ⟨l, w, e⟩ := near_walk f (g + 1) (r := spread n (welded y) r) (fun p hp => by
      rcases (mem_spread.mp hp).2 with z | ⟨q, a, hq⟩
      · obtain ⟨l, w, e⟩ := h p z
        exact ⟨l, w, by omega⟩
      · obtain ⟨l, w, e⟩ := h q hq
        obtain ⟨k, hk, ho⟩ := adj_step a
        exact ⟨k :: l, ⟨q, hk, ho, w⟩, by rw [List.length_cons]; omega⟩) p hp
    exact ⟨l, w, by omega⟩
theorem walk_conn {y : Yard} {to : Nat} : ∀ {l : List Nat} {p : Nat}, Walk y to p l → Conn (welded y) p to
  | [], p, h => by have e : p = to := h; rw [e]; exact .refl _
  | k :: l, p, ⟨q, hk, hq, w⟩ => by
    obtain ⟨hl, hw⟩ := mem_wnums.mp hk
    exact (Conn.one (adj_welded.mpr ⟨k, hl, hw, other_some hq⟩)).trans (walk_conn w)
theorem conn_walk {y : Yard} (h : okYard y) {x z : Nat} (hz : z < y.parts) (c : Conn (welded y) x z) : ∃ l, Walk y z x l ∧ l.length < y.parts := by
  obtain ⟨m, em⟩ : ∃ m, y.parts = m + 1 := ⟨y.parts - 1, by omega⟩
  have ok := Ok.welded h
  rw [em] at hz ok
  have hr := near_row (n := m + 1) (l := welded y) m (row_one hz)
  have hz1 := near_sub hz m (l := welded y) (r := [z]) (by simp)
  have cl : ∀ p q, p ∈ near (m + 1) (welded y) m [z] → Adj (welded y) p q → q ∈ near (m + 1) (welded y) m [z] := by
    intro p q hp a
    rcases hr.2 with e | e
    · rw [← e]
      exact mem_spread.mpr ⟨(ok.adj a).2, .inr ⟨p, a.symm, hp⟩⟩
    · obtain ⟨P, eP⟩ := hr.1
      rw [eP] at e ⊢
      exact filter_range_all (by rw [List.length_singleton] at e; omega) (ok.adj a).2
  have hx : x ∈ near (m + 1) (welded y) m [z] := by
    have c' := c.symm
    clear c
    induction c' with
    | refl => exact hz1
    | step _ a ih => exact cl _ _ ih a
  obtain ⟨l, w, e⟩ := near_walk (y := y) (to := z) m 0 (r := [z]) (fun p hp => ⟨[], List.mem_singleton.mp hp, Nat.le_refl _⟩) x hx
  exact ⟨l, w, by omega⟩
theorem shortest {y : Yard} {to p : Nat} : ∀ (n : Nat) (l : List Nat), l.length ≤ n → Walk y to p l → ∃ m, Walk y to p m ∧ m.length ≤ l.length ∧ Far y to m.length p
  | 0, l, e, w => ⟨l, w, Nat.le_refl _, fun m _ => by omega⟩
  | n + 1, l, e, w => by
    by_cases c : ∃ m, Walk y to p m ∧ m.length < l.length
    · obtain ⟨m, wm, em⟩ := c
      obtain ⟨m', h1, h2, h3⟩ := shortest n m (by omega) wm
      exact ⟨m', h1, by omega, h3⟩
    · exact ⟨l, w, Nat.le_refl _, fun m wm => Nat.le_of_not_lt fun z => c ⟨m, wm, z⟩⟩
theorem way_some {y : Yard} (h : okYard y) {x z : Nat} (hx : x < y.parts) (hz : z < y.parts) (hh : hang y.parts (welded y) x z = true) : ∃ l, way y x z = some l ∧ Best y z x l := by
  obtain ⟨l, w, e⟩ := conn_walk h hz ((hang_iff (Ok.welded h) hx).mp hh)
  obtain ⟨m, wm, em, far⟩ := shortest l.length l (Nat.le_refl _) w
  obtain ⟨b, hb, wb, eb, lb⟩ := way_best (y := y) (to := z) m.length x [x] ⟨m, wm, rfl⟩ far fun q hq => by rw [List.mem_singleton.mp hq]; exact far
  refine ⟨b, ?_, wb, fun c wc => ?_⟩
  · unfold way
    rw [if_pos hh]
    refine findSome_first (pairwise_range _) (List.mem_range.mpr (by omega)) hb fun j _ hj => ?_
    cases c : wayFrom y z j x [x] with
    | none => rfl
    | some d =>
      obtain ⟨w', e'⟩ := way_sound j x [x] d c
      have := far d w'
      omega
  · have := far c wc
    rcases Nat.lt_or_ge b.length c.length with g | g
    · exact .inl g
    · exact .inr ⟨by omega, lb c wc (by omega)⟩
theorem way_none {y : Yard} {x z : Nat} (hh : hang y.parts (welded y) x z = false) : way y x z = none := by
  unfold way
  rw [if_neg (by rw [hh]; decide)]
theorem way_is {y : Yard} (h : okYard y) {x z : Nat} (hx : x < y.parts) (hz : z < y.parts) {l : List Nat} (b : Best y z x l) : way y x z = some l := by
  have hh : hang y.parts (welded y) x z = true := (hang_iff (Ok.welded h) hx).mpr (walk_conn b.walk)
  obtain ⟨m, e, g⟩ := way_some h hx hz hh
  rw [e, b.unique g]
end Hs
end
section
set_option linter.all false
namespace Hs
open Kp261
structure Good (y : Yard) : Prop where
  ok : okYard y
  few : y.parts ≤ 7
  fewS : y.seams.length ≤ 10
  lw : ∀ s, s ∈ y.seams → s.locked = true → s.welded = true
def GoodS (st : State) : Prop := ∀ y, st = some y → Good y
theorem good_start : GoodS start := fun y h => by cases h
theorem Good.set {y : Yard} (g : Good y) {k : Nat} {s : Seam} (hs : s.x < y.parts ∧ s.y < y.parts) (hl : s.locked = true → s.welded = true) : Good { y with seams := y.seams.set k s } :=
  ⟨ok_set g.ok hs, g.few, by show (y.seams.set k s).length ≤ 10; rw [List.length_set]; exact g.fewS, fun t ht => by
    rcases List.mem_or_eq_of_mem_set ht with z | z
    · exact g.lw t z
    · rw [z]; exact hl⟩
theorem good_begin {n : Nat} (h : n ≤ 7) : Good ⟨n, []⟩ := ⟨fun s hs => (nomatch hs), h, Nat.zero_le _, fun s hs => (nomatch hs)⟩
theorem Good.part {y : Yard} (g : Good y) (h : ¬ PARTS ≤ y.parts) : Good { y with parts := y.parts + 1 } :=
  ⟨g.ok.mono (Nat.le_succ _), by have : PARTS = 7 := rfl; show y.parts + 1 ≤ 7; omega, g.fewS, g.lw⟩
theorem Good.seam {y : Yard} (g : Good y) {x z s : Nat} (hx : x < y.parts) (hz : z < y.parts) (h : ¬ SEAMS ≤ y.seams.length) : Good { y with seams := y.seams ++ [⟨x, z, s, false, false⟩] } :=
  ⟨fun t ht => by
    rcases List.mem_append.mp ht with q | q
    · exact g.ok t q
    · rw [List.mem_singleton.mp q]; exact ⟨hx, hz⟩, g.few, by
      have : SEAMS = 10 := rfl
      show (y.seams ++ [_]).length ≤ 10
      rw [List.length_append, List.length_singleton]; omega, fun t ht => by
    rcases List.mem_append.mp ht with q | q
    · exact g.lw t q
    · rw [List.mem_singleton.mp q]; intro h; cases h⟩
theorem Good.weld {y : Yard} (g : Good y) {k : Nat} (hk : k < y.seams.length) : Good (weldIt y k) := g.set (g.ok.at hk) fun _ => rfl
theorem isSeam_lt {y : Yard} {k : Nat} (h : ¬ isSeam y k = false) : k < y.seams.length := by
  unfold isSeam at h
  simpa using h
theorem isPart_lt {y : Yard} {k : Nat} (h : ¬ isPart y k = false) : k < y.parts := by
  unfold isPart at h
  simpa using h
theorem good_step {st : State} (g : GoodS st) (c : Call) : GoodS (step st c).1 := by
  cases c with
  | begin_ n =>
    show GoodS (if PARTS < n then (st, say (-22)) else (some ⟨n, []⟩, say 0)).1
    split
    · exact g
    · intro y h
      cases h
      exact good_begin (by have : PARTS = 7 := rfl; omega)
  | part =>
    cases st with
    | none => exact g
    | some y =>
      show GoodS (if PARTS ≤ y.parts then (some y, say (-28)) else (some { y with parts := y.parts + 1 }, say (y.parts : Int))).1
      split
      · exact g
      · intro y' h
        cases h
        exact (g y rfl).part (by assumption)
  | seam x z s =>
    cases st with
    | none => exact g
    | some y =>
      show GoodS (if isPart y x = false ∨ isPart y z = false then (some y, say (-2)) else if x = z ∨ s = 0 ∨ 1000 < s then (some y, say (-22)) else if SEAMS ≤ y.seams.length then (some y, say (-28)) else (some { y with seams := y.seams ++ [⟨x, z, s, false, false⟩] }, say (y.seams.length : Int))).1
      split
      · exact g
      · split
        · exact g
        · split
          · exact g
          · rename_i h1 _ h3
            intro y' h
            cases h
            exact (g y rfl).seam (isPart_lt fun q => h1 (.inl q)) (isPart_lt fun q => h1 (.inr q)) h3
  | weld k =>
    cases st with
    | none => exact g
    | some y =>
      show GoodS (if isSeam y k = false then (some y, say (-2)) else if (seamAt y k).welded then (some y, say (-17)) else (some (weldIt y k), _)).1
      split
      · exact g
      · split
        · exact g
        · rename_i h1 _
          intro y' h
          cases h
          exact (g y rfl).weld (isSeam_lt h1)
  | cut k =>
    cases st with
    | none => exact g
    | some y =>
      show GoodS (if isSeam y k = false then (some y, say (-2)) else if (seamAt y k).welded = false then (some y, say (-6)) else (some { y with seams := y.seams.set k { seamAt y k with welded := false, locked := false } }, _)).1
      split
      · exact g
      · split
        · exact g
        · rename_i h1 _
          intro y' h
          cases h
          exact (g y rfl).set ((g y rfl).ok.at (isSeam_lt h1)) (fun z => by cases z)
  | strain k s =>
    cases st with
    | none => exact g
    | some y =>
      show GoodS (if isSeam y k = false then (some y, say (-2)) else if s = 0 ∨ 1000 < s then (some y, say (-22)) else (some { y with seams := y.seams.set k { seamAt y k with strain := s } }, _)).1
      split
      · exact g
      · split
        · exact g
        · rename_i h1 _
          intro y' h
          cases h
          exact (g y rfl).set ((g y rfl).ok.at (isSeam_lt h1)) (fun z => (g y rfl).lw (seamAt y k) (seamAt_mem (isSeam_lt h1)) z)
  | _ =>
    cases st with
    | none => exact g
    | some y => exact g
theorem foldl_add (l : List Seam) : ∀ a : Nat, l.foldl (fun (a : Nat) (s : Seam) => a + s.strain) a = a + (l.map fun s => s.strain).sum := by
  induction l with
  | nil => intro a; simp
  | cons s r ih =>
    intro a
    rw [List.foldl_cons, ih, List.map_cons, List.sum_cons]
    omega
theorem sofar_eq {y : Yard} (g : Good y) : sofar y = ((y.seams.filter fun s => s.locked).map fun s => s.strain).sum := by
  unfold sofar
  rw [foldl_add, Nat.zero_add]
  congr 2
  refine List.filter_congr fun s hs => ?_
  cases h : s.locked with
  | false => simp
  | true => rw [g.lw s hs h]; rfl
theorem ite_zero {c : Prop} [Decidable c] {a : Nat} {x : Option (Nat × Nat)} (hx : ∀ n k, x = some (n, k) → k = 0) : ∀ n k, (if c then some (a, 0) else x) = some (n, k) → k = 0 := by
  intro n k e
  by_cases h : c
  · rw [if_pos h] at e
    exact ((Prod.mk.inj (Option.some.inj e)).2).symm
  · rw [if_neg h] at e
    exact hx n k e
theorem shape_zero {p : Int} : ∀ n k, PyKp261.shape p = some (n, k) → k = 0 := by
  unfold PyKp261.shape
  iterate 21 refine ite_zero ?_
  intro n k e
  cases e
theorem calls_cons {f : Nat} {p : Int} {r : List Int} {cs : List (List (List Int))} (h : PyFlat.calls PyKp261.shape f (p :: r) = some cs) :
    ∃ n f' cs', PyKp261.shape p = some (n, 0) ∧ n ≤ r.length ∧ cs = [p :: r.take n] :: cs' ∧ PyFlat.calls PyKp261.shape f' (r.drop n) = some cs' := by
  cases f with
  | zero => cases h
  | succ f =>
    unfold PyFlat.calls PyFlat.call at h
    dsimp only at h
    cases e : PyKp261.shape p with
    | none => rw [e] at h; cases h
    | some nk =>
      obtain ⟨n, k⟩ := nk
      have hk : k = 0 := shape_zero n k e
      subst hk
      rw [e] at h
      simp only at h
      by_cases hl : r.length < n
      · rw [if_pos hl] at h; cases h
      · rw [if_neg hl] at h
        simp only [PyFlat.rows] at h
        cases e2 : PyFlat.calls PyKp261.shape f (r.drop n) with
        | none => rw [e2] at h; cases h
        | some cs' =>
          rw [e2] at h
          exact ⟨n, f, cs', rfl, by omega, (Option.some.inj h).symm, e2⟩
theorem calls_nil {f : Nat} {cs : List (List (List Int))} (h : PyFlat.calls PyKp261.shape f [] = some cs) : cs = [] := by
  cases f <;> exact (Option.some.inj h).symm
end Hs
end
section
set_option linter.all false
namespace Hs
open Kp261
def firsts (m : List Int) (n : Nat) : List Nat := (List.range n).filter fun p => (List.range p).all fun q => !decide (m.getD p 0 = m.getD q 0)
theorem pieces_firsts {n : Nat} {l : List Seam} {m : List Int} (M : Marks n l m) (h : Ok n l) : pieces n l = (firsts m n).length := by
  unfold pieces firsts
  congr 1
  refine List.filter_congr fun p hp => ?_
  have hp' := List.mem_range.mp hp
  rw [Bool.eq_iff_iff, List.all_eq_true, List.all_eq_true]
  constructor
  · intro a q hq
    have hq' := List.mem_range.mp hq
    have := a q hq
    rwa [M.hang h hp' (by omega)] at this
  · intro a q hq
    have hq' := List.mem_range.mp hq
    have := a q hq
    rwa [M.hang h hp' (by omega)]
theorem first_of {m : List Int} {n : Nat} : ∀ (k p : Nat), p ≤ k → p < n → ∃ q, q ∈ firsts m n ∧ m.getD q 0 = m.getD p 0
  | k, p, hk, hp => by
    by_cases c : ∃ q, q < p ∧ m.getD p 0 = m.getD q 0
    · obtain ⟨q, hq, e⟩ := c
      match k, hk with
      | 0, hk => omega
      | k + 1, hk =>
        obtain ⟨r, hr, e'⟩ := first_of (m := m) (n := n) k q (by omega) (by omega)
        exact ⟨r, hr, e'.trans e.symm⟩
    · refine ⟨p, List.mem_filter.mpr ⟨List.mem_range.mpr hp, List.all_eq_true.mpr fun q hq => ?_⟩, rfl⟩
      have hq' := List.mem_range.mp hq
      rw [decide_eq_false (fun z => c ⟨q, hq', z⟩)]
      rfl
theorem firsts_nodup (m : List Int) (n : Nat) : ((firsts m n).map fun p => m.getD p 0).Nodup := by
  unfold List.Nodup
  rw [List.pairwise_map]
  refine ((pairwise_range n).filter _).imp_of_mem fun {a b} ha hb hab => ?_
  have hb' := (List.mem_filter.mp hb).2
  have := List.all_eq_true.mp hb' a (List.mem_range.mpr hab)
  intro e
  rw [decide_eq_true e.symm] at this
  cases this
theorem firsts_mem {m : List Int} {z : Int} : z ∈ ((firsts m m.length).map fun p => m.getD p 0) ↔ z ∈ m := by
  constructor
  · intro h
    obtain ⟨p, hp, rfl⟩ := List.mem_map.mp h
    have hp' := List.mem_range.mp (List.mem_filter.mp hp).1
    rw [List.getD_eq_getElem?_getD, List.getElem?_eq_getElem hp']
    exact List.getElem_mem hp'
  · intro h
    obtain ⟨p, hp⟩ := List.getElem?_of_mem h
    have hp' : p < m.length := (List.getElem?_eq_some_iff.mp hp).1
    obtain ⟨q, hq, e⟩ := first_of (m := m) (n := m.length) p p (Nat.le_refl _) hp'
    refine List.mem_map.mpr ⟨q, hq, ?_⟩
    rw [e, List.getD_eq_getElem?_getD, hp]
    rfl
theorem pieces_distinct {n : Nat} {l : List Seam} {m d : List Int} (M : Marks n l m) (h : Ok n l) (nd : d.Nodup) (hd : ∀ z, z ∈ d ↔ z ∈ m) : pieces n l = d.length := by
  rw [pieces_firsts M h]
  have e : (firsts m n).length = ((firsts m n).map fun p => m.getD p 0).length := by rw [List.length_map]
  rw [e]
  have hn := M.len
  subst hn
  exact ((List.perm_ext_iff_of_nodup (firsts_nodup m m.length) nd).mpr fun z => firsts_mem.trans (hd z).symm).length_eq
def Reps (n : Nat) (m : List Int) : Prop := ∀ u, u < n → ∃ r : Nat, r < n ∧ m.getD u 0 = (r : Int) ∧ m.getD r 0 = (r : Int)
theorem Reps.join {n : Nat} {m : List Int} {s : Seam} (R : Reps n m) (hl : m.length = n) (hx : s.x < n) : Reps n (joined m s) := fun u hu => by
  obtain ⟨r, hr, e1, e2⟩ := R u hu
  obtain ⟨t, ht, f1, f2⟩ := R s.x hx
  unfold joined
  have gu := getD_map (f := fun z => if z = m.getD s.y 0 then m.getD s.x 0 else z) (m := m) (u := u) (by omega)
  rw [gu]
  by_cases c : m.getD u 0 = m.getD s.y 0
  · rw [if_pos c]
    refine ⟨t, ht, f1, ?_⟩
    rw [getD_map (by omega)]
    split
    · exact f1
    · exact f2
  · rw [if_neg c]
    refine ⟨r, hr, e1, ?_⟩
    rw [getD_map (by omega)]
    rw [if_neg (by rw [e2, ← e1]; exact c)]
    exact e2
end Hs
end
section
set_option linter.all false
namespace Hs
open Kp261
theorem walk_append {y : Yard} {z : Nat} : ∀ {l m : List Nat} {x : Nat}, Walk y z x (l ++ m) ↔ ∃ p, Walk y p x l ∧ Walk y z p m
  | [], m, x => ⟨fun h => ⟨x, rfl, h⟩, fun ⟨p, h1, h2⟩ => by
    have e : x = p := h1
    rw [e]; exact h2⟩
  | k :: l, m, x => by
    constructor
    · rintro ⟨q, hk, hq, w⟩
      obtain ⟨p, w1, w2⟩ := walk_append.mp w
      exact ⟨p, ⟨q, hk, hq, w1⟩, w2⟩
    · rintro ⟨p, ⟨q, hk, hq, w1⟩, w2⟩
      exact ⟨q, hk, hq, walk_append.mpr ⟨p, w1, w2⟩⟩
theorem walk_snoc {y : Yard} {z x k : Nat} {l : List Nat} : Walk y z x (l ++ [k]) ↔ ∃ p, Walk y p x l ∧ k ∈ wnums y ∧ other (seamAt y k) p = some z := by
  rw [walk_append]
  constructor
  · rintro ⟨p, w, q, hk, hq, e⟩
    have e' : q = z := e
    exact ⟨p, w, hk, e' ▸ hq⟩
  · rintro ⟨p, w, hk, hq⟩
    exact ⟨p, w, z, hk, hq, rfl⟩
theorem lexLe_trans : ∀ {a b c : List Nat}, a.length = b.length → b.length = c.length → lexLe a b → lexLe b c → lexLe a c
  | [], _, _, _, _, _, _ => trivial
  | _ :: _, [], _, e, _, _, _ => by simp at e
  | _ :: _, _ :: _, [], _, e, _, _ => by simp at e
  | x :: a, y :: b, z :: c, e, f, h, g => by
    rcases h with h | ⟨h1, h2⟩
    · rcases g with g | ⟨g1, _⟩
      · exact .inl (by omega)
      · exact .inl (by omega)
    · rcases g with g | ⟨g1, g2⟩
      · exact .inl (by omega)
      · exact .inr ⟨by omega, lexLe_trans (by simpa using e) (by simpa using f) h2 g2⟩
theorem lexLe_append : ∀ {a b c d : List Nat}, a.length = b.length → lexLe a b → (a = b → lexLe c d) → lexLe (a ++ c) (b ++ d)
  | [], [], _, _, _, _, h => h rfl
  | [], _ :: _, _, _, e, _, _ => by simp at e
  | _ :: _, [], _, _, e, _, _ => by simp at e
  | x :: a, y :: b, c, d, e, h, g => by
    rcases h with h | ⟨h1, h2⟩
    · exact .inl h
    · exact .inr ⟨h1, lexLe_append (by simpa using e) h2 fun z => g (by rw [h1, z])⟩
theorem best_nil {y : Yard} {to : Nat} : Best y to to [] := ⟨rfl, fun m _ => by
  cases m with
  | nil => exact .inr ⟨rfl, trivial⟩
  | cons a m => exact .inl (by simp)⟩
theorem best_exists {y : Yard} {to p : Nat} {l : List Nat} (w : Walk y to p l) : ∃ b, Best y to p b := by
  obtain ⟨m, wm, em, far⟩ := shortest l.length l (Nat.le_refl _) w
  obtain ⟨b, _, wb, eb, lb⟩ := way_best (y := y) (to := to) m.length p [p] ⟨m, wm, rfl⟩ far fun q hq => by rw [List.mem_singleton.mp hq]; exact far
  refine ⟨b, wb, fun c wc => ?_⟩
  have := far c wc
  rcases Nat.lt_or_ge b.length c.length with g | g
  · exact .inl g
  · exact .inr ⟨by omega, lb c wc (by omega)⟩
theorem Best.far {y : Yard} {to p : Nat} {l : List Nat} (B : Best y to p l) : Far y to l.length p := fun m w => by
  rcases B.least m w with h | h <;> omega
theorem best_snoc {y : Yard} {x p q k : Nat} {l : List Nat} (B : Best y p x l) (hk : k ∈ wnums y) (ho : other (seamAt y k) p = some q) (far : Far y q (l.length + 1) x)
    (first : ∀ p' l' k', Best y p' x l' → l'.length = l.length → k' ∈ wnums y → other (seamAt y k') p' = some q → lexLe l l' ∧ (l = l' → k ≤ k')) : Best y q x (l ++ [k]) := by
  refine ⟨walk_snoc.mpr ⟨p, B.walk, hk, ho⟩, fun m w => ?_⟩
  have f := far m w
  rw [List.length_append, List.length_singleton]
  rcases Nat.lt_or_ge (l.length + 1) m.length with g | g
  · exact .inl g
  · refine .inr ⟨by omega, ?_⟩
    obtain ⟨m', k', rfl⟩ : ∃ m' k', m = m' ++ [k'] := by
      rcases List.eq_nil_or_concat m with e | ⟨m', k', e⟩
      · rw [e] at f; simp at f
      · exact ⟨m', k', by rw [e, List.concat_eq_append]⟩
    obtain ⟨p', w', hk', ho'⟩ := walk_snoc.mp w
    rw [List.length_append, List.length_singleton] at f g
    obtain ⟨l', B'⟩ := best_exists w'
    have e1 : l'.length = m'.length := by
      rcases B'.least m' w' with h | h
      · have := far (l' ++ [k']) (walk_snoc.mpr ⟨p', B'.walk, hk', ho'⟩)
        rw [List.length_append, List.length_singleton] at this
        omega
      · exact h.1
    obtain ⟨h1, h2⟩ := first p' l' k' B' (by omega) hk' ho'
    have h3 : lexLe l' m' := by
      rcases B'.least m' w' with h | h
      · omega
      · exact h.2
    refine lexLe_trans (b := l' ++ [k']) (by simp; omega) (by simp; omega) (lexLe_append (by omega) h1 fun e => ?_) (lexLe_append e1 h3 fun _ => lexLe_refl _)
    have := h2 e
    rcases Nat.lt_or_ge k k' with z | z
    · exact .inl z
    · exact .inr ⟨by omega, trivial⟩
end Hs
end
section
set_option linter.all false
namespace Hs
open Kp261
theorem lexLe_snoc_inv : ∀ {a b : List Nat} {c d : Nat}, a.length = b.length → lexLe (a ++ [c]) (b ++ [d]) → lexLe a b ∧ (a = b → c ≤ d)
  | [], [], c, d, _, h => by
    refine ⟨trivial, fun _ => ?_⟩
    rcases h with h | ⟨h, _⟩ <;> omega
  | [], _ :: _, _, _, e, _ => by simp at e
  | _ :: _, [], _, _, e, _ => by simp at e
  | x :: a, y :: b, c, d, e, h => by
    rcases h with h | ⟨h1, h2⟩
    · exact ⟨.inl h, fun z => by injection z with z _; omega⟩
    · obtain ⟨g1, g2⟩ := lexLe_snoc_inv (a := a) (b := b) (by simpa using e) h2
      exact ⟨.inr ⟨h1, g1⟩, fun z => by injection z with _ z; exact g2 z⟩
theorem best_lt {y : Yard} (h : okYard y) {x p : Nat} {l : List Nat} (hp : p < y.parts) (B : Best y p x l) : l.length < y.parts := by
  obtain ⟨m, wm, em⟩ := conn_walk h hp (walk_conn B.walk)
  rcases B.least m wm with g | g <;> omega
theorem best_prev {y : Yard} {x q : Nat} {w : List Nat} {r : Nat} (B : Best y q x w) (e : w.length = r + 1) : ∃ p b k, Best y p x b ∧ b.length = r ∧ k ∈ wnums y ∧ other (seamAt y k) p = some q := by
  obtain ⟨l, k, rfl⟩ : ∃ l k, w = l ++ [k] := by
    rcases List.eq_nil_or_concat w with z | ⟨l, k, z⟩
    · rw [z] at e; simp at e
    · exact ⟨l, k, by rw [z, List.concat_eq_append]⟩
  obtain ⟨p, wl, hk, ho⟩ := walk_snoc.mp B.walk
  rw [List.length_append, List.length_singleton] at e
  obtain ⟨b, Bb⟩ := best_exists wl
  refine ⟨p, b, k, Bb, ?_, hk, ho⟩
  have f := B.far (b ++ [k]) (walk_snoc.mpr ⟨p, Bb.walk, hk, ho⟩)
  rw [List.length_append, List.length_append, List.length_singleton] at f
  have g := Bb.far l wl
  omega
theorem level_none {y : Yard} {x r : Nat} (h : ∀ p w, Best y p x w → w.length ≠ r) : ∀ (d : Nat) (p : Nat) (w : List Nat), Best y p x w → w.length ≠ r + d
  | 0, p, w, B, e => h p w B (by omega)
  | d + 1, p, w, B, e => by
    obtain ⟨p', b, _, Bb, eb, _⟩ := best_prev (r := r + d) B (by omega)
    exact level_none h d p' b Bb eb
theorem level_end {y : Yard} {x r : Nat} (h : ∀ p w, Best y p x w → w.length ≠ r) {p : Nat} {w : List Nat} (B : Best y p x w) : w.length < r := by
  rcases Nat.lt_or_ge w.length r with z | z
  · exact z
  · exact absurd (show w.length = r + (w.length - r) by omega) (level_none h (w.length - r) p w B)
def putM (m : List (Nat × List Nat)) (q : Nat) (w : List Nat) : List (Nat × List Nat) :=
  if m.any fun kv => decide (kv.1 = q) then m.map fun kv => if kv.1 = q then (kv.1, w) else kv else m ++ [(q, w)]
theorem mem_putM {m : List (Nat × List Nat)} {q : Nat} {w : List Nat} {a : Nat} {b : List Nat} : (a, b) ∈ putM m q w ↔ (a ≠ q ∧ (a, b) ∈ m) ∨ (a = q ∧ b = w) := by
  unfold putM
  by_cases c : (m.any fun kv => decide (kv.1 = q)) = true
  · rw [if_pos c, List.mem_map]
    obtain ⟨⟨k0, v0⟩, hm, e0⟩ := List.any_eq_true.mp c
    have e0 : k0 = q := of_decide_eq_true e0
    constructor
    · rintro ⟨⟨k, v⟩, hkv, e⟩
      by_cases z : k = q
      · rw [if_pos z] at e
        injection e with e1 e2
        exact .inr ⟨by rw [← e1]; exact z, e2.symm⟩
      · rw [if_neg z] at e
        injection e with e1 e2
        subst e1 e2
        exact .inl ⟨z, hkv⟩
    · rintro (⟨h1, h2⟩ | ⟨h1, h2⟩)
      · exact ⟨(a, b), h2, by rw [if_neg h1]⟩
      · exact ⟨(k0, v0), hm, by rw [if_pos e0, h1, h2, e0]⟩
  · rw [if_neg c, List.mem_append, List.mem_singleton]
    constructor
    · rintro (h | h)
      · refine .inl ⟨fun z => c (List.any_eq_true.mpr ⟨(a, b), h, decide_eq_true z⟩), h⟩
      · injection h with h1 h2
        exact .inr ⟨h1, h2⟩
    · rintro (⟨_, h⟩ | ⟨h1, h2⟩)
      · exact .inl h
      · exact .inr (by rw [h1, h2])
theorem putM_nodup {m : List (Nat × List Nat)} {q : Nat} {w : List Nat} (h : (m.map (·.1)).Nodup) : ((putM m q w).map (·.1)).Nodup := by
  unfold putM
  by_cases c : (m.any fun kv => decide (kv.1 = q)) = true
  · rw [if_pos c, List.map_map]
    have e : m.map ((fun kv : Nat × List Nat => kv.1) ∘ fun kv => if kv.1 = q then (kv.1, w) else kv) = m.map (·.1) := List.map_congr_left fun kv _ => by
      show (if kv.1 = q then (kv.1, w) else kv).1 = kv.1
      split <;> rfl
    rw [e]; exact h
  · rw [if_neg c, List.map_append, List.nodup_append]
    refine ⟨h, by simp, fun a ha b hb => ?_⟩
    obtain ⟨kv, hkv, rfl⟩ := List.mem_map.mp ha
    have e : b = q := by simpa using hb
    rw [e]
    exact fun z => c (List.any_eq_true.mpr ⟨kv, hkv, decide_eq_true z⟩)
def mergeM (m n : List (Nat × List Nat)) : List (Nat × List Nat) := n.foldl (fun acc kv => putM acc kv.1 kv.2) m
theorem mem_mergeM {R : Nat → List Nat → Prop} (fn : ∀ a b c, R a b → R a c → b = c) : ∀ {n m : List (Nat × List Nat)}, (∀ a b, (a, b) ∈ m → R a b) → (∀ a b, (a, b) ∈ n → R a b) → ∀ a b, (a, b) ∈ mergeM m n ↔ (a, b) ∈ m ∨ (a, b) ∈ n
  | [], m, _, _, a, b => by simp [mergeM]
  | (q, w) :: n, m, hm, hn, a, b => by
    have hq := hn q w (by simp)
    have hm' : ∀ a b, (a, b) ∈ putM m q w → R a b := fun a b h => by
      rcases mem_putM.mp h with h | h
      · exact hm a b h.2
      · rw [h.1, h.2]; exact hq
    show (a, b) ∈ mergeM (putM m q w) n ↔ _
    rw [mem_mergeM fn hm' (fun a b h => hn a b (by simp [h])) a b, mem_putM, List.mem_cons]
    constructor
    · rintro ((⟨_, h⟩ | ⟨h1, h2⟩) | h)
      · exact .inl h
      · exact .inr (.inl (by rw [h1, h2]))
      · exact .inr (.inr h)
    · rintro (h | h | h)
      · by_cases z : a = q
        · refine .inl (.inr ⟨z, fn a b w (hm a b h) (z ▸ hq)⟩)
        · exact .inl (.inl ⟨z, h⟩)
      · injection h with h1 h2
        exact .inl (.inr ⟨h1, h2⟩)
      · exact .inr h
theorem mergeM_nodup : ∀ (n : List (Nat × List Nat)) {m : List (Nat × List Nat)}, (m.map (·.1)).Nodup → ((mergeM m n).map (·.1)).Nodup
  | [], _, h => h
  | (q, w) :: n, m, h => mergeM_nodup n (m := putM m q w) (putM_nodup h)
theorem nodup_lt : ∀ (n : Nat) {l : List Nat}, l.Nodup → (∀ a, a ∈ l → a < n) → l.length ≤ n
  | 0, l, _, h => by
    cases l with
    | nil => exact Nat.le_refl _
    | cons a l => exact absurd (h a (by simp)) (by omega)
  | n + 1, l, nd, h => by
    have ih := nodup_lt n (l := l.erase n) (nd.erase n) fun a ha => by
      have h1 := h a (List.mem_of_mem_erase ha)
      have h2 : a ≠ n := fun z => by
        rw [z] at ha
        exact (List.Nodup.not_mem_erase nd) ha
      omega
    rw [List.length_erase] at ih
    split at ih <;> omega
theorem keys_few {n : Nat} {m : List (Nat × List Nat)} (nd : (m.map (·.1)).Nodup) (h : ∀ a b, (a, b) ∈ m → a < n) : m.length ≤ n := by
  have := nodup_lt n nd fun a ha => by
    obtain ⟨⟨k, v⟩, hkv, rfl⟩ := List.mem_map.mp ha
    exact h k v hkv
  rwa [List.length_map] at this
structure Fur (m cs : List (Nat × List Nat)) : Prop where
  lo : ∀ q w, (q, w) ∈ m → (q, w) ∈ cs ∧ ∀ l, (q, l) ∈ cs → lexLe w l
  all : ∀ q l, (q, l) ∈ cs → ∃ w, (q, w) ∈ m
  nd : (m.map (·.1)).Nodup
theorem fur_nil : Fur [] [] := ⟨fun _ _ h => (nomatch h), fun _ _ h => (nomatch h), .nil⟩
theorem Fur.put {m cs : List (Nat × List Nat)} {q : Nat} {l w : List Nat} (F : Fur m cs) (hw : w = l ∨ (q, w) ∈ m) (h1 : lexLe w l) (h2 : ∀ v, (q, v) ∈ m → lexLe w v) (hl : ∀ v, (q, v) ∈ cs → v.length = l.length) : Fur (putM m q w) (cs ++ [(q, l)]) := by
  have lw : w.length = l.length := by
    rcases hw with z | z
    · rw [z]
    · exact hl w (F.lo q w z).1
  refine ⟨fun a b h => ?_, fun a b h => ?_, putM_nodup F.nd⟩
  · rcases mem_putM.mp h with ⟨hne, h⟩ | ⟨ha, hb⟩
    · obtain ⟨g1, g2⟩ := F.lo a b h
      refine ⟨List.mem_append_left _ g1, fun v hv => ?_⟩
      rcases List.mem_append.mp hv with z | z
      · exact g2 v z
      · rw [List.mem_singleton] at z
        injection z with z _
        exact absurd z hne
    · subst ha hb
      refine ⟨?_, fun v hv => ?_⟩
      · rcases hw with z | z
        · exact List.mem_append_right _ (by rw [z]; simp)
        · exact List.mem_append_left _ (F.lo _ _ z).1
      · rcases List.mem_append.mp hv with z | z
        · obtain ⟨u, hu⟩ := F.all _ v z
          obtain ⟨g1, g2⟩ := F.lo _ u hu
          exact lexLe_trans (b := u) (by rw [lw, hl u g1]) (by rw [hl u g1, hl v z]) (h2 u hu) (g2 v z)
        · rw [List.mem_singleton] at z
          injection z with _ z
          rw [z]; exact h1
  · rcases List.mem_append.mp h with z | z
    · obtain ⟨u, hu⟩ := F.all a b z
      by_cases c : a = q
      · exact ⟨w, mem_putM.mpr (.inr ⟨c, rfl⟩)⟩
      · exact ⟨u, mem_putM.mpr (.inl ⟨c, hu⟩)⟩
    · rw [List.mem_singleton] at z
      injection z with z1 _
      exact ⟨w, mem_putM.mpr (.inr ⟨z1, rfl⟩)⟩
def candK (y : Yard) (inW : Nat → Bool) (p : Nat) (w : List Nat) (k : Nat) : List (Nat × List Nat) := match other (seamAt y k) p with
  | some q => if inW q then [] else [(q, w ++ [k])]
  | none => []
def cand (y : Yard) (inW : Nat → Bool) (ks : List Nat) (pw : Nat × List Nat) : List (Nat × List Nat) := ks.flatMap (candK y inW pw.1 pw.2)
theorem mem_candK {y : Yard} {inW : Nat → Bool} {p k q : Nat} {w l : List Nat} : (q, l) ∈ candK y inW p w k ↔ other (seamAt y k) p = some q ∧ inW q = false ∧ l = w ++ [k] := by
  unfold candK
  cases e : other (seamAt y k) p with
  | none => simp
  | some q' =>
    simp only [Option.some.injEq]
    cases c : inW q' with
    | true =>
      simp only [if_true, List.not_mem_nil, false_iff, not_and]
      intro z; rw [← z, c]; simp
    | false =>
      simp only [Bool.false_eq_true, if_false, List.mem_singleton, Prod.mk.injEq]
      constructor
      · rintro ⟨rfl, rfl⟩; exact ⟨rfl, c, rfl⟩
      · rintro ⟨rfl, _, rfl⟩; exact ⟨rfl, rfl⟩
theorem mem_cands {y : Yard} {inW : Nat → Bool} {ks : List Nat} {n : List (Nat × List Nat)} {q : Nat} {l : List Nat} : (q, l) ∈ n.flatMap (cand y inW ks) ↔ ∃ p w k, (p, w) ∈ n ∧ k ∈ ks ∧ other (seamAt y k) p = some q ∧ inW q = false ∧ l = w ++ [k] := by
  rw [List.mem_flatMap]
  constructor
  · rintro ⟨⟨p, w⟩, hn, h⟩
    obtain ⟨k, hk, h⟩ := List.mem_flatMap.mp h
    obtain ⟨h1, h2, h3⟩ := mem_candK.mp h
    exact ⟨p, w, k, hn, hk, h1, h2, h3⟩
  · rintro ⟨p, w, k, hn, hk, h1, h2, h3⟩
    exact ⟨(p, w), hn, List.mem_flatMap.mpr ⟨k, hk, mem_candK.mpr ⟨h1, h2, h3⟩⟩⟩
def Level (y : Yard) (x r : Nat) (n : List (Nat × List Nat)) : Prop := ∀ p w, (p, w) ∈ n ↔ Best y p x w ∧ w.length = r
theorem level_next {y : Yard} {x r : Nat} {n m : List (Nat × List Nat)} {inW : Nat → Bool} (N : Level y x r n) (hW : ∀ q, inW q = true ↔ ∃ w, Best y q x w ∧ w.length ≤ r) (F : Fur m (n.flatMap (cand y inW (wnums y)))) : Level y x (r + 1) m := by
  have one : ∀ q w, (q, w) ∈ m → Best y q x w ∧ w.length = r + 1 := fun q w h => by
    obtain ⟨h1, h2⟩ := F.lo q w h
    obtain ⟨p, l, k, hn, hk, ho, hi, rfl⟩ := mem_cands.mp h1
    obtain ⟨B, e⟩ := (N p l).mp hn
    refine ⟨best_snoc B hk ho (fun v wv => ?_) (fun p' l' k' B' e' hk' ho' => ?_), by rw [List.length_append, List.length_singleton, e]⟩
    · obtain ⟨b, Bb⟩ := best_exists wv
      have f := Bb.far v wv
      rcases Nat.lt_or_ge r b.length with z | z
      · omega
      · rw [(hW q).mpr ⟨b, Bb, z⟩] at hi; cases hi
    · exact lexLe_snoc_inv (by omega) (h2 (l' ++ [k']) (mem_cands.mpr ⟨p', l', k', (N p' l').mpr ⟨B', by omega⟩, hk', ho', hi, rfl⟩))
  refine fun q w => ⟨one q w, fun ⟨B, e⟩ => ?_⟩
  obtain ⟨p, b, k, Bb, eb, hk, ho⟩ := best_prev B e
  have hi : inW q = false := by
    cases c : inW q with
    | false => rfl
    | true =>
      obtain ⟨v, Bv, lv⟩ := (hW q).mp c
      rw [B.unique Bv] at e
      omega
  obtain ⟨v, hv⟩ := F.all q (b ++ [k]) (mem_cands.mpr ⟨p, b, k, (N p b).mpr ⟨Bb, eb⟩, hk, ho, hi, rfl⟩)
  rw [B.unique (one q v hv).1]
  exact hv
theorem level_zero {y : Yard} {x : Nat} : Level y x 0 [(x, [])] := fun p w => by
  rw [List.mem_singleton]
  constructor
  · intro h
    injection h with h1 h2
    rw [h1, h2]
    exact ⟨best_nil, rfl⟩
  · rintro ⟨B, e⟩
    have e0 : w = [] := List.eq_nil_of_length_eq_zero e
    subst e0
    have : x = p := B.walk
    rw [this]
theorem way_found {y : Yard} (h : okYard y) {x z : Nat} (hx : x < y.parts) (hz : z < y.parts) {m : List (Nat × List Nat)} (M : ∀ p w, (p, w) ∈ m ↔ Best y p x w) :
    (∀ w, (z, w) ∈ m → way y x z = some w) ∧ ((∀ w, (z, w) ∉ m) → way y x z = none) := by
  refine ⟨fun w hw => way_is h hx hz ((M z w).mp hw), fun hn => way_none ?_⟩
  cases c : hang y.parts (welded y) x z with
  | false => rfl
  | true =>
    obtain ⟨l, _, B⟩ := way_some h hx hz c
    exact absurd ((M z l).mpr B) (hn l)
end Hs
end
section
set_option linter.all false
namespace Hs
open Kp261
theorem worth_eq {y : Yard} {k : Nat} (h : okYard y) (hk : k < y.seams.length) (hw : (seamAt y k).welded = false) :
    ((lockRec y.parts (seamAt y) (welded y) (k :: (order y).filter fun j => decide (j ≠ k))).map fun j => (seamAt y j).strain).sum = (if hang y.parts (welded y) (seamAt y k).x (seamAt y k).y then (seamAt y k).strain else 0) + least (weldIt y k) := by
  rw [← strainOf_eq, List.map_cons, strainOf_cons]
  congr 1
  have all : ∀ j, j ∈ (order y).filter (fun j => decide (j ≠ k)) → j < y.seams.length := fun j hj => (mem_order.mp (List.mem_filter.mp hj).1).1
  have es : seamsOf (weldIt y k) ((order y).filter fun j => decide (j ≠ k)) = ((order y).filter fun j => decide (j ≠ k)).map (seamAt y) := by
    refine List.map_congr_left fun j hj => ?_
    rw [weldIt_at (all j hj), if_neg (of_decide_eq_true (List.mem_filter.mp hj).2)]
  unfold least
  rw [weldIt_order, es]
  show _ = strainOf y.parts (welded (weldIt y k)) _
  exact (strainOf_congr _ _ _ (Ok.welded (weldIt_ok h hk)) ((Ok.welded h).snoc (h.at hk)) (seams_ok h all) fun u v => weldIt_conn hk).symm
end Hs
end
section
set_option Elab.async false
set_option linter.all false
set_option maxRecDepth 100000
set_option maxHeartbeats 2000000
namespace L2
open PySem PySem.Spec PyProof.Rows
def tCallX (X : Cx) (tf : TE) (t : TA) : TE := fun σ H Q => tf σ H fun x H1 => ∃ f, x = .ref f ∧ PySem.W.keepIn X.K (.ref f) = true ∧ t σ H1 fun vs H2 =>
  ∃ k fd ps sp, FnOk X.prog X.w X.K X.mg X.base CX0 k f fd ps sp ∧ Room k X.A ∧ Binds X.K fd ps [] ∧ sp vs H2 Q E0
theorem pe_callX {X : Cx} {fe e : Expr} {es : List Expr} {pos : Pos} {tf : TE} {t : TA} (hf : PE X fe tf) (ha : PA X (e :: es) t)
    (hev : eval (.Call fe (e :: es) [] pos) X.env = (do callWith pos (← eval fe X.env) [] (backTo pos (starEach (e :: es) X.env)) (backToKw pos (keywordEach [] X.env))) := by rfl)
    (he : starEach (e :: es) X.env = (false, eval e X.env) :: starEach es X.env := by rfl) (hpl : (backTo pos (starEach es X.env)).any (·.1) = false := by rfl) :
    PE X (.Call fe (e :: es) [] pos) (tCallX X tf t) := by
  intro pins s σ H Q I h
  rw [hev]
  refine wpAny_bind (thn (hf pins s σ H _ I h) fun u s1 ⟨x, H1, I1, rx, f, ex, hk, q⟩ => ?_)
  subst ex
  obtain rfl : u = Value.ref f := rx
  refine PySem.W.callWith_K (first := []) (h₀ := X.base) I.ok.mod.kin hk (thn (ha pos pins s1 σ H1 _ I1 q) fun us s2 ⟨vs, H2, I2, r, k, fd, ps, sp, F, hr, hb, q2⟩ => ⟨I2.kIn, ?_⟩) he hpl
  exact run_fn (dvs := []) (ds := []) F hr hb .nil pass0 I2 r (by rw [List.append_nil]; exact q2)
def CodeO (c : Addr) (qual : Str) : HO := .ext fun h => h.CodeRec (.ref c) qual
def TabOk (P : Addr) (line col : Nat) (qual : Str) (H : Hp) : Prop :=
  H P = some (.tbl #[]) ∨ ∃ c, H P = some (.tbl #[rawInt line, rawInt col, .ref c]) ∧ H c = some (CodeO c qual)
def BMod (mg : Str → Option Value) (base : Heap) : Prop :=
  ∃ bm o, mg "__builtins__" = some (.ref bm) ∧ bm ≠ builtinsNs ∧ bm ≠ mainGlobals ∧ base.get? bm = some o ∧ o.cls = .type "module" ∧ o.dict = some builtinsNs ∧ o.data = .plain
def SameBut1 (P : Addr) (H H' : Hp) : Prop := ∀ b o, H b = some o → b ≠ P → H' b = some o
theorem codeO_rec {P : Program} {w : World} {H : Hp} {h : Heap} {c : Addr} {qual : Str} (hok : HOk P w H h) (e : H c = some (CodeO c qual)) : h.CodeRec (.ref c) qual := by
  obtain ⟨q, _⟩ := hok c _ e
  exact q
section
variable {X : Cx} {pins : List (Addr × Obj)} {σ : St} {H : Hp} {s : Shared}
theorem Inv.tabAt (I : Inv X pins σ H s) {P : Addr} {ps : Array Value} (e : H P = some (.tbl ps)) : s.heap.get? P = some (PySem.W.tabObj ps) := I.hok P _ e
theorem lam_made {params : Arguments} {body : Expr} {scope : Scope} {pos : Pos} {c P : Addr} {clos : List (Str × Addr)} {A : Around} {E : Value → Shared → Prop} {Q : Value → Shared → Prop}
    (I : Inv X pins σ H s) (hcode : X.env.code = .ref c) (C : PySem.W.CodeHd X.base c P) (hb : BMod X.mg X.base) (hT : TabOk P pos.line pos.col (X.env.qual ++ "<lambda>") H)
    (hdef : defaultsOf params X.env = ([], [])) (hcl : closureFor scope X.env = pure clos)
    (h : ∀ (f c' : Addr) (ctv : Value) (s' : Shared) (H' : Hp), Inv X pins σ H' s' → SameBut1 P H H' → TabOk P pos.line pos.col (X.env.qual ++ "<lambda>") H' → H' c' = some (CodeO c' (X.env.qual ++ "<lambda>")) →
      s'.heap.get? f = some (PySem.W.kla_obj "<lambda>" (X.env.qual ++ "<lambda>") params body scope clos ((X.mg "__name__").getD .none) c' ctv) → FpOk X pins H' f → Q (.ref f) s') :
    wpAny (model X.prog X.w) A (eval (.Lambda params body scope pos) X.env) Q E s := by
  have hg : s.heap.Ns mainGlobals X.mg := I.ok.mod.glob.keeps I.bk
  have C' : PySem.W.CodeHd s.heap c P := C.keeps I.bk
  have nP : ∀ {b : Addr}, H b = none → ∀ ps, H P = some (.tbl ps) → b ≠ P := fun {b} n ps e z => by rw [z, e] at n; cases n
  have nG : H mainGlobals = none := by
    obtain ⟨o, _, _, e, _⟩ := I.ok.mod.glob
    exact (I.bs _ _ e).2
  obtain ⟨bm, ob, b1, b2, b3, b4, b5, b6, b7⟩ := hb
  have nB : H bm = none := (I.bs _ _ b4).2
  rcases hT with hT | ⟨c', hT, hc'⟩
  · have hP := I.tabAt hT
    have lP : P < s.heap.objs.size := Heap.lt_size hP
    refine PySem.W.kla_eval hdef (PySem.W.kla_makeFunction (mg := X.mg) hcl I.ok.glob hg hcode C' hP trivial rfl (nP nG _ hT) ⟨bm, ob, b1, b2, b3, nP nB _ hT, I.bk _ _ b4, b5, b6, b7⟩ fun c' ctv h' tk hx hge hlt hrec htb => ?_)
    have ne : ∀ {b : Addr} {u : HO}, H b = some u → b ≠ c' := fun {b u} e => Nat.ne_of_lt (Nat.lt_of_lt_of_le (I.hok.lt e) hge)
    have ne' : ∀ {b : Addr} {u : Obj}, s.heap.get? b = some u → b ≠ c' := fun {b u} e => Nat.ne_of_lt (Nat.lt_of_lt_of_le (Heap.lt_size e) hge)
    have nPc : P ≠ c' := ne hT
    have hP' : upd (upd H P (.tbl #[rawInt pos.line, rawInt pos.col, .ref c'])) c' (CodeO c' (X.env.qual ++ "<lambda>")) P = some (.tbl #[rawInt pos.line, rawInt pos.col, .ref c']) := by
      rw [upd_ne nPc, upd_same]
    have old : ∀ {b : Addr}, b ≠ P → b ≠ c' → upd (upd H P (.tbl #[rawInt pos.line, rawInt pos.col, .ref c'])) c' (CodeO c' (X.env.qual ++ "<lambda>")) b = H b := fun {b} h1 h2 => by
      rw [upd_ne h2, upd_ne h1]
    have I' : Inv X pins σ (upd (upd H P (.tbl #[rawInt pos.line, rawInt pos.col, .ref c'])) c' (CodeO c' (X.env.qual ++ "<lambda>")))
        { s with heap := h'.push (PySem.W.kla_obj "<lambda>" (X.env.qual ++ "<lambda>") params body scope clos ((X.mg "__name__").getD .none) c' ctv), gens := s.gens, drawn := s.drawn, toks := tk } := by
      refine I.step (ch := []) (fun _ z => nomatch z) (fun b o _ _ _ e n => Heap.get?_push_of_some _ (hx b o (nP n _ hT) e)) (fun b o _ _ _ e n => ⟨o.slots, Heap.get?_push_of_some _ (hx b o (nP n _ hT) e)⟩)
        (fun b o _ e n => by rw [old (nP n _ hT) (ne' e)]; exact n) (fun b o _ e => ?_) (fun b xs e => ?_) (fun b o u e => ?_) (fun b ps e => ?_) (fun m hm => ?_) (fun a o e => ?_) I.bare
      · by_cases z : b = P
        · subst z; exact ⟨_, Heap.get?_push_of_some _ htb⟩
        · exact ⟨o, Heap.get?_push_of_some _ (hx b o z e)⟩
      · rw [old (fun z => by rw [z, hT] at e; cases e) (ne e)]; exact e
      · rw [old (fun z => by rw [z, hT] at e; cases e) (ne e)]; exact e
      · by_cases z : b = P
        · subst z
          rw [hT] at e
          cases e
          exact ⟨#[rawInt pos.line, rawInt pos.col, .ref c'], by rw [hP']; rfl⟩
        · exact ⟨#[], by rw [old z (ne e), e]; simp⟩
      · exact (hm.extBut hx (nP I.free _ hT)).push _
      · by_cases z1 : a = c'
        · subst z1
          rw [upd_same] at e
          cases e
          refine ⟨hrec.push _, ?_, fun h1 h2 q k => ?_⟩
          · obtain ⟨c2, o2, _, _, e2, g2, _⟩ := hrec
            cases e2
            exact ⟨_, Heap.get?_push_of_some _ g2⟩
          · obtain ⟨c2, o2, vs2, t2, e2, g2, r2⟩ := q
            cases e2
            exact ⟨_, o2, vs2, t2, rfl, k _ g2, r2⟩
        · by_cases z2 : a = P
          · subst z2
            rw [hP'] at e
            cases e
            exact Heap.get?_push_of_some _ htb
          · rw [old z2 z1] at e
            refine (I.hok a o e).stay (fun b u hb q => ?_) (fun b q => ?_) (fun b xs q => ?_)
            · have zb : b ≠ P := by
                rcases hb with hb | hb
                · rw [hb]; exact z2
                · intro z; rw [z, hT] at hb; cases hb
              exact Heap.get?_push_of_some _ (hx b u zb q)
            · rw [old (fun z => by rw [z, hT] at q; cases q) (ne q)]; exact q
            · rw [old (fun z => by rw [z, hT] at q; cases q) (ne q)]; exact q
    have sz : s.heap.objs.size ≤ h'.objs.size := Nat.le_trans hge (Nat.le_of_lt hlt)
    refine h h'.objs.size c' ctv _ _ I' (fun b o e z => by rw [old z (ne e)]; exact e) (.inr ⟨c', hP', upd_same⟩) upd_same (Heap.get?_push_size _ rfl) (I.fpOk sz ?_)
    rw [old (Nat.ne_of_gt (Nat.lt_of_lt_of_le lP sz)) (Nat.ne_of_gt hlt)]
    exact I.hok.fresh sz
  · have hP := I.tabAt hT
    refine PySem.W.kla_eval hdef (PySem.W.kla_makeFunctionHit (mg := X.mg) hcl I.ok.glob hg hcode C' hP (by simp [TriplesOk, rawInt]) (cv := .ref c') (by simp [codeAmong, rawInt]) ⟨bm, ob, b1, b2, b3, nP nB _ hT, I.bk _ _ b4, b5, b6, b7⟩ fun ctv h' tk hk hsz => ?_)
    have I' : Inv X pins σ H { s with heap := h'.push (PySem.W.kla_obj "<lambda>" (X.env.qual ++ "<lambda>") params body scope clos ((X.mg "__name__").getD .none) c' ctv), toks := tk } :=
      I.kept fun b o e => Heap.get?_push_of_some _ (hk b o e)
    exact h h'.objs.size c' ctv _ _ I' (fun b o e _ => e) (.inr ⟨c', hT, hc'⟩) hc' (Heap.get?_push_size _ rfl) (I.fpOk hsz (I.hok.fresh hsz))
end
abbrev cxLam (P : Program) (w : World) (K : PySem.W.Frag) (mg : Str → Option Value) (base : Heap) (N : List Str) (qual : Str) (scope : Scope) (f : Addr) (cd : Value) (cl : List (Str × Addr)) (A : Around) (outer : List Env) (s : Shared) (H : Hp) : Cx where
  prog := P
  w := w
  K := K
  mg := mg
  base := base
  A := A.deeper (PySem.W.envX qual scope s.heap.objs.size f cd cl)
  N := N
  s_0 := s
  H_0 := H
  env := PySem.W.envX qual scope s.heap.objs.size f cd cl
  outer := outer
  stack := PySem.W.envX qual scope s.heap.objs.size f cd cl :: outer
  ex := []
  calm := true
  fn := fun _ => false
  pn := []
  xe := fun _ _ => False
structure LamScope (x y : Str) (sc : Scope) : Prop where
  kind : sc.kind = .function
  co : sc.isCoroutine = false
  gen : sc.isGenerator = false
  lx : sc.names.lookup x = some .local
  ly : sc.names.lookup y = some .free
  no : ∀ p ∈ sc.names, p.2 ≠ .cell
  fr : ∀ p ∈ sc.names, p.2 = .free → p.1 = y
theorem lam_run {P : Program} {w : World} {K : PySem.W.Frag} {mg : Str → Option Value} {base : Heap} {A : Around} {outer : List Env} {s : Shared} {H : Hp} {k : Nat} {x y qual : Str} {params : Arguments} {body : Expr} {scope : Scope} {pm ctv : Value} {c c' f : Addr}
    {u uy : Value} {v vy : V} {Q : VK} {t : TE} (e0 : Env0 P w K mg base A outer s H) (hr : Room (k + 1) A) (S : LamScope x y scope) (hxy : x ≠ y)
    (hf : s.heap.get? f = some (PySem.W.kla_obj "<lambda>" qual params body scope [(y, c)] pm c' ctv)) (hcd : s.heap.CodeRec (.ref c') qual)
    (hbind : bindArgs (PySem.W.kla_fn "<lambda>" qual params body scope [(y, c)] pm (.ref c') ctv) ⟨[u], []⟩ = pure [(x, u)])
    (hc : s.heap.IsCell c (some uy)) (hcH : H c = none) (r : RelV v u) (ry : RelV vy uy)
    (hb : Room k (A.deeper (PySem.W.envX qual scope s.heap.objs.size f (.ref c') [(y, c)])) → PE (cxLam P w K mg base [x, y] qual scope f (.ref c') [(y, c)] A outer s H) body t) (q : t [some v, some vy] H Q) :
    codeAny (model P w) A (.call (.ref f) ⟨[u], []⟩) (CR CX0 outer P w H s Q E0) s := by
  have lim : s.heap.NoLimit := e0.mod.nolimit.keeps fun b o e => (e0.bs b o e).1
  refine PySem.W.kla_callFunE hr.depth hf rfl S.co S.gen rfl hcd ?_
  rw [hbind]
  refine wpAny_pure (wpAny_newFunctionEnv S.no (fun z hz => by rw [List.mem_singleton.mp hz]; exact S.lx) (fun h1 hns hsb => ?_) S.kind)
  have hk : ∀ b o, s.heap.get? b = some o → h1.get? b = some o := fun b o e => (hsb.2 b (Nat.ne_of_lt (Heap.lt_size e))).trans (Heap.get?_push_of_some _ e)
  refine ⟨lim.keeps hk, ?_⟩
  show codeAny _ _ (.expr body (PySem.W.envX qual scope s.heap.objs.size f (.ref c') [(y, c)])) _ _
  have noA : ∀ b : Addr, b ∉ (cxLam P w K mg base [x, y] qual scope f (.ref c') [(y, c)] A outer s H).ex := fun b z => absurd (show b ∈ ([] : List Addr) from z) (by simp)
  have cl1 : ∀ z d, ([(y, c)] : List (Str × Addr)).lookup z = some d → z = y ∧ d = c := fun z d e => by
    rw [List.lookup_cons] at e
    cases hz : z == y with
    | true => rw [hz] at e; exact ⟨eq_of_beq hz, (Option.some.inj e).symm⟩
    | false => rw [hz] at e; cases e
  have hly : ([(y, c)] : List (Str × Addr)).lookup y = some c := by rw [List.lookup_cons, beq_self_eq_true]
  have I : Inv (cxLam P w K mg base [x, y] qual scope f (.ref c') [(y, c)] A outer s H) [] [some v, some vy] H { s with heap := h1, toks := s.toks + 1 } := by
    refine ⟨⟨e0.mod, S.kind, rfl, rfl, Nat.le_refl _, fun z z' d h1 h2 => ?_, fun z hz => ?_, fun z d hz => ?_, fun _ => hr.hd, Around.frames_deeper e0.frames, .inr ⟨rfl, rfl⟩, fun b z => absurd z (noA b), e0.bs, e0.bsz, fun b _ _ => noA b, fun b z => absurd z (noA b), e0.funs, e0.frf⟩,
      rfl, e0.bare, Un.kept hk, ⟨_, hns, fun i z v' h1 h2 h3 => ?_⟩, fun z d hz => ?_, e0.hok.fresh (Nat.le_refl _), fun z d hz => ?_, fun p hp => absurd (show p ∈ ([] : List (Addr × Obj)) from hp) (by simp), e0.hok.kept hk, rfl⟩
    · exact (cl1 z d h1).1.trans (cl1 z' d h2).1.symm
    · have hz : scope.names.lookup z = some .cell ∨ scope.names.lookup z = some .free := hz
      rcases hz with hz | hz
      · exact absurd rfl (S.no _ (PySem.mem_of_lookup hz))
      · have ez := S.fr _ (PySem.mem_of_lookup hz) rfl
        exact ⟨c, by rw [show z = y from ez]; exact hly⟩
    · exact absurd hz (by intro z'; cases z')
    · match i, h1, h2 with
      | 0, h1, h2 =>
        have ez : x = z := Option.some.inj h1
        have ev : v = v' := Option.some.inj (Option.some.inj h2)
        subst ez ev
        refine ⟨u, r, .inl ⟨S.lx, ?_⟩⟩
        show ([(x, u)] : List (Str × Value)).reverse.lookup x = some u
        simp
      | 1, h1, h2 =>
        have ez : y = z := Option.some.inj h1
        have ev : vy = v' := Option.some.inj (Option.some.inj h2)
        subst ez ev
        exact ⟨uy, ry, .inr ⟨.inr S.ly, c, hly, hc.keeps hk⟩⟩
      | i + 2, h1, h2 => simp at h1
    · obtain ⟨_, rfl⟩ := cl1 z d hz
      exact ⟨_, hc.keeps hk⟩
    · obtain ⟨_, rfl⟩ := cl1 z d hz
      exact hcH
  refine PySem.W.kla_codeExpr (wpAny_mono (hb (hr.deeper _) [] _ [some v, some vy] H Q I q) (fun v1 s1 hq => ?_) fun _ _ z => False.elim z)
  obtain ⟨v2, H', J, rv, q2⟩ := hq
  exact ⟨v2, H', J.os, J.bare, J.base, J.hok, rv, q2⟩
end L2
end
section
set_option Elab.async false
set_option linter.all false
set_option maxRecDepth 100000
set_option maxHeartbeats 4000000
namespace L2
open PySem PySem.Spec PyProof.Rows
section
variable {X : Cx} {pins : List (Addr × Obj)} {σ : St} {H : Hp} {s : Shared}
theorem Inv.adopt {D : Addr} {its : List Value} {n : Nat} {xs : List V} (I : Inv X pins σ H s) (hD : s.heap.get? D = some { cls := .type "list", data := .seq its.toArray n }) (hf : FpOk X pins H D) (hv : Vals xs its)
    (hz : xs.length ≤ sizeLine) : Inv X pins σ (upd H D (.lst xs)) s := by
  obtain ⟨f0, f1, f2, f3, f4, f5⟩ := hf
  have ne : ∀ {b : Addr} {u : HO}, H b = some u → b ≠ D := fun {b u} e => ne_of_none e f0
  exact I.step (h' := s.heap) (g' := s.gens) (d' := s.drawn) (t' := s.toks) (ch := [D]) (fun b hb => by rw [List.mem_singleton.mp hb]; exact ⟨f3, f1, f4, f5⟩) (fun b o _ _ _ e _ => e) (fun b o _ _ _ e _ => ⟨o.slots, e⟩)
    (fun b o hc e m => by rw [upd_ne (fun z => hc (by rw [z]; simp))]; exact m) (fun b o _ e => ⟨o, e⟩) (fun b ys e => by rw [upd_ne (ne e)]; exact e) (fun b o u e => by rw [upd_ne (ne e)]; exact e)
    (fun b ps e => ⟨#[], by rw [upd_ne (ne e), e]; simp⟩) (fun m hm => hm) (fun a o e => by
      by_cases z : a = D
      · subst z
        rw [upd_same] at e
        cases e
        exact ⟨hz, its, n, hv, hD⟩
      · rw [upd_ne z] at e
        exact (I.hok a o e).stay (fun b u _ q => q) (fun b q => by rw [upd_ne (ne q)]; exact q) fun b ys q => by rw [upd_ne (ne q)]; exact q) I.bare
theorem Inv.turnFp {t' : Nat} {it : Addr} {h' : Heap} (I : Inv X pins σ H s) (hs : Heap.SameBut it s.heap h') (hf : FpOk X pins H it) : Inv X pins σ H { s with heap := h', toks := t' } :=
  I.turned (fun b o hb e => (hs.2 b hb).trans e) hf.1 hf.2.1 hf.2.2.2.1 hf.2.2.2.2.1 hf.2.2.2.2.2
theorem FpOk.at {H' : Hp} {b : Addr} (f : FpOk X pins H b) (n : H' b = none) : FpOk X pins H' b := ⟨n, f.2⟩
def KeyAt (key : Int → Int × Int) (H : Hp) (a : Addr) (k : Int) : Prop := H a = some (.tup [.int (key k).1, .int (key k).2])
abbrev shI : Nat → Bool := fun _ => false
def kz (p : Int × Int) : List (Int ⊕ List Nat) := [Sum.inl p.1, Sum.inl p.2]
theorem key_tup {P : Program} {w : World} {h : Heap} {key : Int → Int × Int} {a : Addr} {k : Int} (hok : HOk P w H h) (e : KeyAt key H a k) :
    ∃ (o : Obj) (t u : Tok) (n : Nat), h.get? a = some o ∧ o.cls = .type "tuple" ∧ o.data = .seq #[.int (key k).1 t, .int (key k).2 u] n := by
  obtain ⟨_, its, hv, o, ho, hc, n, hd⟩ := hok a _ e
  cases hv with
  | cons r1 h2 =>
    cases h2 with
    | cons r2 h3 =>
      cases h3
      obtain ⟨t, rfl⟩ := r1
      obtain ⟨u, rfl⟩ := r2
      exact ⟨o, t, u, n, ho, hc, hd⟩
theorem key_of_tup {P : Program} {w : World} {h : Heap} {key : Int → Int × Int} {a : Addr} {k : Int} (hok : HOk P w H h) (e : KeyAt key H a k) : G.tupKeyC h shI (.ref a) = some (kz (key k)) := by
  obtain ⟨o, t, u, n, ho, hc, hd⟩ := key_tup hok e
  unfold G.tupKeyC
  have h1 : G.isTupObj h (.ref a) = true := by
    simp only [G.isTupObj, ho, hc]
    rfl
  rw [if_pos h1]
  simp only [tupKey, ho, hd]
  rfl
theorem tupOf_key {P : Program} {w : World} {h : Heap} {key : Int → Int × Int} {a : Addr} {k : Int} (hok : HOk P w H h) (e : KeyAt key H a k) : ∃ f, TupOf h shI (.ref a) f := by
  obtain ⟨o, t, u, n, ho, hc, hd⟩ := key_tup hok e
  exact ⟨.int (key k).1 t, a, o, _, n, rfl, ho, hc, hd, rfl, fun _ => ⟨_, _, rfl⟩, fun z => by cases z⟩
inductive Keys (key : Int → Int × Int) (H : Hp) : List Value → List Int → Prop
  | nil : Keys key H [] []
  | cons {a : Addr} {k : Int} {vs : List Value} {ks : List Int} : KeyAt key H a k → Keys key H vs ks → Keys key H (.ref a :: vs) (k :: ks)
theorem Keys.mono {key : Int → Int × Int} {H H' : Hp} (k : Same H H') : ∀ {vs : List Value} {ks : List Int}, Keys key H vs ks → Keys key H' vs ks
  | _, _, .nil => .nil
  | _, _, .cons a r => .cons (k _ _ a) (Keys.mono k r)
theorem Keys.snoc {key : Int → Int × Int} {H : Hp} {a : Addr} {k : Int} (q : KeyAt key H a k) : ∀ {vs : List Value} {ks : List Int}, Keys key H vs ks → Keys key H (vs ++ [.ref a]) (ks ++ [k])
  | _, _, .nil => .cons q .nil
  | _, _, .cons a r => .cons a (Keys.snoc q r)
theorem Keys.length {key : Int → Int × Int} {H : Hp} : ∀ {vs : List Value} {ks : List Int}, Keys key H vs ks → vs.length = ks.length
  | _, _, .nil => rfl
  | _, _, .cons _ r => by rw [List.length_cons, List.length_cons, Keys.length r]
theorem Keys.tups {P : Program} {w : World} {h : Heap} {key : Int → Int × Int} {H : Hp} (hok : HOk P w H h) : ∀ {vs : List Value} {ks : List Int}, Keys key H vs ks → ∃ fs, TupsOf h shI vs fs ∧ fs.length = vs.length
  | _, _, .nil => ⟨[], .nil, rfl⟩
  | _, _, .cons a r => by
    obtain ⟨fs, h1, h2⟩ := Keys.tups hok r
    obtain ⟨f, h3⟩ := tupOf_key hok a
    exact ⟨f :: fs, .cons h3 h1, by rw [List.length_cons, List.length_cons, h2]⟩
theorem Keys.zip {P : Program} {w : World} {h : Heap} {key : Int → Int × Int} {H : Hp} (hok : HOk P w H h) : ∀ {vs : List Value} {ks : List Int} {us : List Value}, Keys key H vs ks → IntsAre us ks →
    ∀ p, p ∈ vs.zip us → ∃ k t, p.2 = Value.int k t ∧ G.tupKeyC h shI p.1 = some (kz (key k))
  | _, _, _, .nil, _, p, hp => by simp at hp
  | _, _, _, .cons (k := k) a r, .cons _ t hi, p, hp => by
    rw [List.zip_cons_cons] at hp
    rcases List.mem_cons.mp hp with rfl | hp
    · exact ⟨k, t, rfl, key_of_tup hok a⟩
    · exact Keys.zip hok r hi p hp
theorem snd_zip {α β : Type} : ∀ {l : List α} {m : List β}, l.length = m.length → (l.zip m).map Prod.snd = m
  | [], [], _ => rfl
  | [], _ :: _, e => by simp at e
  | _ :: _, [], e => by simp at e
  | a :: l, b :: m, e => by rw [List.zip_cons_cons, List.map_cons, snd_zip (by simpa using e)]
def pairLe (p q : Int × Int) : Prop := p.1 < q.1 ∨ (p.1 = q.1 ∧ p.2 ≤ q.2)
theorem kle_pair {p q : Int × Int} (h : PyProof.Rows.lexLt itemOrd (kz q) (kz p) = false) : pairLe p q := by
  unfold kz at h
  rw [lex_false] at h
  obtain ⟨h1, h2⟩ := h
  have e1 : ¬ q.1 < p.1 := by
    have h1' : decide (q.1 < p.1) = false := h1
    simpa using h1'
  rcases h2 with h2 | h2
  · have h2' : decide (p.1 < q.1) = true := h2
    exact .inl (by simpa using h2')
  · rw [lex_false] at h2
    have h3 : decide (q.2 < p.2) = false := h2.1
    have h3' : ¬ q.2 < p.2 := by simpa using h3
    unfold pairLe
    omega
theorem out_of {P : Program} {w : World} {h : Heap} {key : Int → Int × Int} {ks us : List Value} {ns : List Int} {xs : Array Keyed} (hok : HOk P w H h) (K : Keys key H ks ns) (hi : IntsAre us ns) (hp : xs.Perm (ks.toArray.zip us.toArray))
    (hs : SortedToK (G.tupKindC h shI) xs xs.size) : ∃ out : List Int, Vals (out.map V.int) (xs.map (·.2)).toList ∧ out.Perm ns ∧ out.Pairwise fun i j => pairLe (key i) (key j) := by
  have hl : xs.toList.Perm (ks.zip us) := by
    have := Array.perm_iff_toList_perm.mp hp
    simpa using this
  have mem : ∀ p, p ∈ xs.toList → ∃ k t, p.2 = Value.int k t ∧ G.tupKeyC h shI p.1 = some (kz (key k)) := fun p hq => Keys.zip hok K hi p (hl.mem_iff.mp hq)
  refine ⟨xs.toList.map fun p => numOf p.2, ?_, ?_, ?_⟩
  · rw [Array.toList_map]
    have go : ∀ l : List Keyed, (∀ p, p ∈ l → ∃ k t, p.2 = Value.int k t ∧ G.tupKeyC h shI p.1 = some (kz (key k))) → Vals ((l.map fun p => numOf p.2).map V.int) (l.map (·.2)) := by
      intro l
      induction l with
      | nil => intro _; exact .nil
      | cons p l ih =>
        intro hm
        obtain ⟨k, t, e, _⟩ := hm p (by simp)
        refine .cons ?_ (ih fun q hq => hm q (by simp [hq]))
        show RelV (V.int (numOf p.2)) p.2
        rw [e]
        exact ⟨t, rfl⟩
    exact go _ mem
  · have e2 : (ks.zip us).map (fun p => numOf p.2) = ns := by
      have : (ks.zip us).map (fun p => numOf p.2) = ((ks.zip us).map Prod.snd).map numOf := by rw [List.map_map]; rfl
      rw [this, snd_zip (by have := hi.length; have := K.length; omega), hi.nums]
    rw [← e2]
    exact hl.map _
  · rw [List.pairwise_map, List.pairwise_iff_getElem]
    intro i j hi' hj' hij
    have hi2 : i < xs.size := by simpa using hi'
    have hj2 : j < xs.size := by simpa using hj'
    obtain ⟨k1, t1, e1, q1⟩ := mem xs.toList[i] (List.getElem_mem hi')
    obtain ⟨k2, t2, e2, q2⟩ := mem xs.toList[j] (List.getElem_mem hj')
    have q := hs i j (Nat.le_of_lt hij) hj2
    rw [e1, e2]
    show pairLe (key k1) (key k2)
    refine kle_pair ?_
    have g1 : KK (G.tupKindC h shI) xs i = kz (key k1) := by
      unfold KK
      rw [getElem?_pos xs i hi2]
      show (G.tupKeyC h shI xs[i].1).getD [] = _
      rw [show xs[i] = xs.toList[i] from (Array.getElem_toList hi2).symm, q1]
      rfl
    have g2 : KK (G.tupKindC h shI) xs j = kz (key k2) := by
      unfold KK
      rw [getElem?_pos xs j hj2]
      show (G.tupKeyC h shI xs[j].1).getD [] = _
      rw [show xs[j] = xs.toList[j] from (Array.getElem_toList hj2).symm, q2]
      rfl
    rw [g1, g2] at q
    exact q
def KeyTurn (X : Cx) (σ : St) (H : Hp) (f : Addr) (fo : Obj) (ns : List Int) (key : Int → Int × Int) : Prop :=
  ∀ (k : Int) (t : Tok) (pins : List (Addr × Obj)) (s : Shared) (H1 : Hp), k ∈ ns → Inv X pins σ H1 s → Same H H1 → s.heap.get? f = some fo →
    wpAny (model X.prog X.w) X.A.in1.in1 (call (.ref f) [.int k t]) (fun u s2 => ∃ (p : Addr) (H2 : Hp), u = .ref p ∧ Inv X pins σ H2 s2 ∧ Same H1 H2 ∧ KeyAt key H2 p k) (fun _ _ => False) s
theorem sort_tail {D kS : Addr} {ks : Array Value} {e1 ek : Nat} {out : List Int} {st : SortSt} {R : PySem.Fin → Shared → Prop} {A : Around} {E : Value → Shared → Prop} (I : Inv X pins σ H s) (hD : s.heap.get? D = some (seqObj "list" #[] e1)) (fD : FpOk X pins H D)
    (hS : s.heap.get? kS = some (seqObj "list" ks ek)) (fS : FpOk X pins H kS) (hne : D ≠ kS) (hk : ks.size ≤ sizeLine) (hv : Vals (out.map V.int) ((arrOf st).map (·.2)).toList) (hz : out.length ≤ sizeLine) (hfl : failedOf st = none)
    (h : ∀ s', Inv X pins σ (upd H D (.lst (out.map V.int))) s' → R (.done (.ret .none)) s') : wpAny (model X.prog X.w) A (ksk_tail D false e1 (.ref kS) st) R E s := by
  have s1 := Heap.SameBut.update s.heap kS (Obj.mapSeq fun _ => (#[] : Array Value))
  have I1 := I.turnFp (t' := s.toks) s1 fS
  have hD1 := (s1.2 D hne).trans hD
  have s2 := Heap.SameBut.update (s.heap.update kS (Obj.mapSeq fun _ => (#[] : Array Value))) D (Obj.mapSeq fun _ => (arrOf st).map (·.2))
  have I2 := I1.turnFp (t' := s.toks) s2 fD
  have sz : ((arrOf st).map (·.2)).size = out.length := by
    have := hv.length
    rw [List.length_map, Array.length_toList] at this
    exact this.symm
  obtain ⟨c2, hc2⟩ : ∃ c2, ((s.heap.update kS (Obj.mapSeq fun _ => (#[] : Array Value))).update D (Obj.mapSeq fun _ => (arrOf st).map (·.2))).get? D = some (seqObj "list" ((arrOf st).map (·.2)) c2) := ⟨_, get?_update_seq hD1 fun _ => (arrOf st).map (·.2)⟩
  have hc3 : ((s.heap.update kS (Obj.mapSeq fun _ => (#[] : Array Value))).update D (Obj.mapSeq fun _ => (arrOf st).map (·.2))).get? D = some { cls := .type "list", data := .seq ((arrOf st).map (·.2)).toList.toArray c2 } := by
    rw [Array.toArray_toList]; exact hc2
  have I3 := I2.adopt hc3 fD hv (by rw [List.length_map]; exact hz)
  unfold ksk_tail
  try dsimp only
  refine wpAny_bind (listUpdate_at hS rfl ?_ hk (Nat.zero_le _))
  refine wpAny_bind (wpAny_letGo ?_)
  refine wpAny_bind (seqEpoch_at hD1 rfl ?_)
  refine wpAny_bind (listUpdate_at hD1 rfl ?_ (Nat.zero_le _) (by show ((arrOf st).map (·.2)).size ≤ _; rw [sz]; exact Nat.le_succ_of_le hz))
  rw [hfl]
  simp only [bne_self_eq_false, Bool.false_eq_true, if_false]
  exact wpAny_pure (h _ I3)
theorem sort_end {D kS : Addr} {ks us : List Value} {ns : List Int} {key : Int → Int × Int} {e1 ek : Nat} {R : PySem.Fin → Shared → Prop} {A : Around} {E : Value → Shared → Prop} (I : Inv X pins σ H s) (hD : s.heap.get? D = some (seqObj "list" #[] e1)) (fD : FpOk X pins H D)
    (hS : s.heap.get? kS = some (seqObj "list" ks.toArray ek)) (fS : FpOk X pins H kS) (hne : D ≠ kS) (K : Keys key H ks ns) (hi : IntsAre us ns) (hz : ns.length ≤ sizeLine)
    (h : ∀ (out : List Int) s', out.Perm ns → out.Pairwise (fun i j => pairLe (key i) (key j)) → Inv X pins σ (upd H D (.lst (out.map V.int))) s' → R (.done (.ret .none)) s') :
    wpAny (model X.prog X.w) A (ksk_end D false us.toArray e1 (.ref kS) ks.toArray) R E s := by
  have lk : ks.length = ns.length := K.length
  have lu : us.length = ns.length := by have := hi.length; omega
  have hzs : (ks.toArray.zip us.toArray).size = ns.length := by rw [Array.size_zip, List.size_toArray, List.size_toArray, lk, lu, Nat.min_self]
  unfold ksk_end
  try dsimp only
  simp only [Bool.false_eq_true, if_false]
  by_cases h2 : us.toArray.size < 2
  · rw [if_pos h2, if_pos h2]
    refine wpAny_bind (wpAny_pure ?_)
    rw [StateT.run_pure]
    refine wpAny_bind (wpAny_pure ?_)
    try dsimp only
    obtain ⟨out, o1, o2, o3⟩ := out_of (xs := ks.toArray.zip us.toArray) I.hok K hi (Array.Perm.refl _) (fun i j hij hj => by
      rw [hzs] at hj
      rw [List.size_toArray, lu] at h2
      have : i = j := by omega
      subst this
      exact KeyOrd.kle_refl _)
    exact sort_tail (st := SortSt.mk' general' (ks.toArray.zip us.toArray) #[] 7 none) I hD fD hS fS hne (by rw [List.size_toArray, lk]; exact hz) o1 (by rw [o2.length_eq]; exact hz) rfl fun s' I' => h out s' o2 o3 I'
  · rw [if_neg h2, if_neg h2]
    rw [List.size_toArray, lu] at h2
    obtain ⟨fs, t1, t2⟩ := K.tups I.hok
    refine wpAny_bind (tup_kind (by rw [t2, lk]; omega) t1 ?_)
    try dsimp only
    have hO : G.LtAt X.prog X.w s (G.tupKindC s.heap shI) (tuples' true) := G.tupC_ltAt true (G.KeepsTups.refl _)
    have h0 : KeysOf (G.tupKindC s.heap shI) (ks.toArray.zip us.toArray) := fun p hp => by
      have hp' : p ∈ ks.zip us := by simpa using hp
      obtain ⟨k, t, _, q⟩ := Keys.zip I.hok K hi p hp'
      exact ⟨_, q⟩
    refine wpAny_bind (wpAny_mono (G.wpS_sortRunsSt (κ := G.tupKindC s.heap shI) (kd := tuples' true) (a₀ := ks.toArray.zip us.toArray) (st := SortSt.mk' (tuples' true) (ks.toArray.zip us.toArray) #[] 7 none)
      (Q := fun _ st' => (arrOf st').Perm (ks.toArray.zip us.toArray) ∧ failedOf st' = none ∧ SortedToK (G.tupKindC s.heap shI) (arrOf st') (ks.toArray.zip us.toArray).size)
      hO h0 ⟨Array.Perm.refl _, rfl, rfl⟩ rfl (Stable.refl _) (by rw [hzs]; omega) fun st' a1 a2 a3 _ => ⟨a1, a2, a3⟩) ?_ fun _ _ e => e)
    rintro ⟨⟨⟩, st'⟩ s' ⟨rfl, hp, hf, hs⟩
    try dsimp only
    obtain ⟨out, o1, o2, o3⟩ := out_of (xs := arrOf st') I.hok K hi hp (by rw [hp.size_eq]; exact hs)
    exact sort_tail I hD fD hS fS hne (by rw [List.size_toArray, lk]; exact hz) o1 (by rw [o2.length_eq]; exact hz) hf fun s' I' => h out s' o2 o3 I'
end
end L2
end
section
set_option Elab.async false
set_option linter.all false
set_option maxRecDepth 100000
set_option maxHeartbeats 4000000
namespace L2
open PySem PySem.Spec PyProof.Rows
section
variable {X : Cx} {pins : List (Addr × Obj)} {σ : St} {H : Hp} {s : Shared}
theorem ints_at : ∀ {us : List Value} {ns : List Int} {i : Nat} {u : Value}, IntsAre us ns → us[i]? = some u → ∃ k t, u = Value.int k t ∧ ns[i]? = some k
  | _, _, _, _, .nil, e => by simp at e
  | _, _, 0, u, .cons k t _, e => ⟨k, t, (Option.some.inj e).symm, rfl⟩
  | _, _, i + 1, u, .cons k t h, e => by
    obtain ⟨k', t', e1, e2⟩ := ints_at (i := i) h (by simpa using e)
    exact ⟨k', t', e1, by simpa using e2⟩
theorem notCell {c : String} {xs : Array Value} {n : Nat} : ∀ v, (seqObj c xs n).data ≠ .cell v := fun v z => by cases z
structure Mid (X : Cx) (pins : List (Addr × Obj)) (σ : St) (H : Hp) (D kS f : Addr) (fo : Obj) (e1 : Nat) (key : Int → Int × Int) (ks : List Int) (s : Shared) : Prop where
  ex : ∃ (H1 : Hp) (kA : List Value) (ek : Nat), Inv X pins σ H1 s ∧ Same H H1 ∧ s.heap.get? D = some (seqObj "list" #[] e1) ∧ FpOk X pins H1 D ∧ s.heap.get? kS = some (seqObj "list" kA.toArray ek) ∧ FpOk X pins H1 kS ∧
    s.heap.get? f = some fo ∧ FpOk X pins H1 f ∧ Keys key H1 kA ks
theorem sort_rest {D kS f : Addr} {fo : Obj} {us : List Value} {ns : List Int} {key : Int → Int × Int} {e1 : Nat} {R : PySem.Fin → Shared → Prop} {E : Value → Shared → Prop} (M : Mid X pins σ H D kS f fo e1 key [] s) (hDk : D ≠ kS) (hfk : f ≠ kS)
    (hfo : ∀ v, fo.data ≠ .cell v) (hi : IntsAre us ns) (hz : ns.length < sizeLine) (turn : KeyTurn X σ H f fo ns key)
    (h : ∀ (out : List Int) (H' : Hp) s', out.Perm ns → out.Pairwise (fun i j => pairLe (key i) (key j)) → Same H H' → H' D = none → Inv X pins σ (upd H' D (.lst (out.map V.int))) s' → R (.done (.ret .none)) s') :
    wpAny (model X.prog X.w) X.A.in1.in1 (ksk_rest D (.ref f) false us.toArray e1 (.ref kS)) R E s := by
  have lu : us.length = ns.length := by have := hi.length; omega
  unfold ksk_rest
  refine wpAny_bind (wpAny_rule ?_)
  first
    | rw [List.forIn_toArray]
    | (rw [← Array.forIn_toList]; simp only [List.toList_toArray])
  refine wpAny_bind (ksk_fold (fun i s' => Mid X pins σ H D kS f fo e1 key (ns.take i) s') us 0 s M ?step ?done)
  case step =>
    intro j x s' hx M'
    rw [Nat.zero_add] at M' ⊢
    obtain ⟨k, t, rfl, hk⟩ := ints_at hi hx
    obtain ⟨H1, kA, ek, I, sm, hD, fD, hS, fS, hf, ff, K⟩ := M'.ex
    have Ip := I.pinned (fp := [D, kS, f]) (fun b hb => by
      rcases List.mem_cons.mp hb with rfl | hb
      · exact fD
      · rcases List.mem_cons.mp hb with rfl | hb
        · exact fS
        · rw [List.mem_singleton.mp hb]; exact ff) (fun b hb => by
      rcases List.mem_cons.mp hb with rfl | hb
      · exact ⟨_, hD, notCell⟩
      · rcases List.mem_cons.mp hb with rfl | hb
        · exact ⟨_, hS, notCell⟩
        · rw [List.mem_singleton.mp hb]; exact ⟨_, hf, hfo⟩)
    refine wpAny_bind (wpAny_attempt (wpAny_mono (turn k t _ s' H1 (List.mem_of_getElem? hk) Ip sm hf) (fun v s2 q => ?_) fun _ _ z => z.elim))
    obtain ⟨p, H2, rfl, I2, sm2, hp⟩ := q
    have pin2 : ∀ b ∈ [D, kS, f], ∀ o, s'.heap.get? b = some o → s2.heap.get? b = some o ∧ H2 b = none := fun b hb o e => by
      have hq := I2.pin (b, o) (List.mem_append_right _ (List.mem_append_right _ (mem_pinsAt hb e)))
      exact ⟨hq.1, hq.2.1⟩
    have I3 := I2.unpinned
    obtain ⟨hD2, nD2⟩ := pin2 D (by simp) _ hD
    obtain ⟨hS2, nS2⟩ := pin2 kS (by simp) _ hS
    obtain ⟨hf2, nf2⟩ := pin2 f (by simp) _ hf
    try dsimp only
    have s1 := Heap.SameBut.update s2.heap kS (Obj.mapSeq (·.push (.ref p)))
    obtain ⟨c2, hc2⟩ : ∃ c2, (s2.heap.update kS (Obj.mapSeq (·.push (.ref p)))).get? kS = some (seqObj "list" (kA.toArray.push (.ref p)) c2) := ⟨_, get?_update_seq hS2 (·.push (.ref p))⟩
    have lkA : kA.length ≤ ns.length := by
      rw [K.length, List.length_take]
      exact Nat.min_le_right _ _
    have I4 := I3.turnFp (t' := s2.toks) s1 (fS.at nS2)
    refine wpAny_bind (listUpdate_at hS2 rfl ?_ (by rw [List.size_toArray]; exact Nat.le_of_lt (Nat.lt_of_le_of_lt lkA hz)) (by
      show (kA.toArray.push (Value.ref p)).size ≤ _
      rw [Array.size_push, List.size_toArray]
      exact Nat.succ_le_succ (Nat.le_of_lt (Nat.lt_of_le_of_lt lkA hz))))
    refine wpAny_pure ⟨rfl, ⟨H2, kA ++ [.ref p], c2, I4, sm.trans sm2, (s1.2 D hDk).trans hD2, fD.at nD2, ?_, fS.at nS2, (s1.2 f hfk).trans hf2, ff.at nf2, ?_⟩⟩
    · have ea : (kA ++ [Value.ref p]).toArray = kA.toArray.push (.ref p) := by simp
      rw [ea]
      exact hc2
    · have et : ns.take (j + 1) = ns.take j ++ [k] := by rw [List.take_add_one, hk]; rfl
      rw [et]
      exact (K.mono sm2).snoc hp
  case done =>
    intro s' M'
    obtain ⟨H1, kA, ek, I, sm, hD, fD, hS, fS, hf, ff, K⟩ := M'.ex
    have et : ns.take (0 + us.length) = ns := List.take_of_length_le (by omega)
    rw [et] at K
    try dsimp only
    refine wpAny_bind (listItems_at hS rfl ?_)
    exact sort_end I hD fD hS fS hDk K hi (Nat.le_of_lt hz) fun out s2 o1 o2 I2 => h out H1 s2 o1 o2 sm fD.1 I2
theorem sort_all {D f : Addr} {fo : Obj} {us : List Value} {ns : List Int} {key : Int → Int × Int} {n : Nat} {R : PySem.Fin → Shared → Prop} {E : Value → Shared → Prop} (I : Inv X pins σ H s) (hD : s.heap.get? D = some (seqObj "list" us.toArray n)) (fD : FpOk X pins H D)
    (hf : s.heap.get? f = some fo) (ff : FpOk X pins H f) (hne : D ≠ f) (hfo : ∀ v, fo.data ≠ .cell v) (hi : IntsAre us ns) (hz : ns.length < sizeLine) (turn : KeyTurn X σ H f fo ns key)
    (h : ∀ (out : List Int) (H' : Hp) s', out.Perm ns → out.Pairwise (fun i j => pairLe (key i) (key j)) → Same H H' → H' D = none → Inv X pins σ (upd H' D (.lst (out.map V.int))) s' → R (.done (.ret .none)) s') :
    wpAny (model X.prog X.w) X.A.in1.in1 (ksk_tree D (.ref f) false) R E s := by
  have lu : us.length = ns.length := by have := hi.length; omega
  have s1 := Heap.SameBut.update s.heap D (Obj.mapSeq fun _ => (#[] : Array Value))
  obtain ⟨e1, ho1⟩ : ∃ e1, (s.heap.update D (Obj.mapSeq fun _ => (#[] : Array Value))).get? D = some (seqObj "list" #[] e1) := ⟨_, get?_update_seq hD fun _ => #[]⟩
  have I1 := I.turnFp (t' := s.toks) s1 fD
  have hf1 := (s1.2 f (fun z => hne z.symm)).trans hf
  have sz0 : (s.heap.update D (Obj.mapSeq fun _ => (#[] : Array Value))).objs.size = s.heap.objs.size := Heap.size_update ..
  unfold ksk_tree
  refine wpAny_bind (listItems_at hD rfl ?_)
  refine wpAny_bind (listUpdate_at hD rfl ?_ (by rw [List.size_toArray, lu]; exact Nat.le_of_lt hz) (Nat.zero_le _))
  refine wpAny_bind (seqEpoch_at ho1 rfl ?_)
  refine wpAny_bind (wpAny_newTuple ?_ (by show us.length ≤ _; rw [lu]; exact Nat.le_of_lt hz))
  refine wpAny_bind (wpAny_newList ?_ (Nat.zero_le _))
  refine wpAny_holding ?_
  have kp : ∀ b o, (s.heap.update D (Obj.mapSeq fun _ => (#[] : Array Value))).get? b = some o →
      (((s.heap.update D (Obj.mapSeq fun _ => (#[] : Array Value))).push { cls := .type "tuple", data := .seq us.toArray.toList.toArray }).push { cls := .type "list", data := .seq ([] : List Value).toArray }).get? b = some o :=
    fun b o e => Heap.get?_push_of_some _ (Heap.get?_push_of_some _ e)
  have I2 := I1.kept (t' := s.toks) kp
  have zs : ((s.heap.update D (Obj.mapSeq fun _ => (#[] : Array Value))).push { cls := .type "tuple", data := .seq us.toArray.toList.toArray }).objs.size = s.heap.objs.size + 1 := by rw [size_push', sz0]
  have lD : D < s.heap.objs.size := Heap.lt_size hD
  have lf : f < s.heap.objs.size := Heap.lt_size hf
  refine sort_rest (key := key) (e1 := e1) ⟨H, [], 0, I2, fun _ _ e => e, kp _ _ ho1, fD, Heap.get?_push_size _ rfl, ?_, kp _ _ hf1, ff, .nil⟩ ?_ ?_ hfo hi hz turn h
  · refine I1.fpOk ?_ ?_
    · show (s.heap.update D (Obj.mapSeq fun _ => (#[] : Array Value))).objs.size ≤ _
      rw [zs, sz0]; exact Nat.le_succ _
    · rw [zs]; exact I.hok.fresh (Nat.le_succ _)
  · rw [zs]; exact Nat.ne_of_lt (Nat.lt_succ_of_lt lD)
  · rw [zs]; exact Nat.ne_of_lt (Nat.lt_succ_of_lt lf)
theorem sorted_key {l f : Addr} {fo : Obj} {ns : List Int} {key : Int → Int × Int} {Q : VK} {E : Value → Shared → Prop} (I : Inv X pins σ H s) (hl : SqL X.K H l (ns.map V.int)) (hz : ns.length < sizeLine)
    (hf : s.heap.get? f = some fo) (ff : FpOk X pins H f) (hfo : ∀ v, fo.data ≠ .cell v) (turn : KeyTurn X σ H f fo ns key)
    (h : ∀ (out : List Int) (H' : Hp) (D : Addr), out.Perm ns → out.Pairwise (fun i j => pairLe (key i) (key j)) → Same H H' → H' D = none → Q (.ref D) (upd H' D (.lst (out.map V.int)))) :
    wpAny (model X.prog X.w) X.A (call (.builtin "sorted") [.ref l] [(Str.ofString "key", .ref f)]) (EP X pins σ Q) E s := by
  obtain ⟨us, hv, pl, _⟩ := I.list hl
  have hi : IntsAre us ns := hv.ints
  have lu : us.length = ns.length := by have := hi.length; omega
  have hL : s.heap.IsList l us.toArray := by
    obtain ⟨o, n, e1, e2, e3, e4⟩ := pl
    exact ⟨o, e1, e2, n, e4⟩
  refine call_function_entry_kw kind_sorted plain_sorted entry_sorted (ksk_s1 _ _) ?_
  unfold Builtin.«sorted»
  refine wpAny_bind (m := checkCount "sorted" 1 1 _) (wpAny_pure ?_)
  refine wpAny_bind (collect_list hL ?_ (by rw [lu]; exact Nat.le_of_lt hz))
  refine wpAny_bind (wpAny_newList ?_ (by rw [lu]; exact Nat.le_of_lt hz))
  have hsz : ((s.heap.push (seqObj "list" #[] 0)).update s.heap.objs.size (Obj.mapSeq (· ++ us.toArray))).objs.size = s.heap.objs.size + 1 := by
    rw [Heap.size_update, size_push']
  have keep : ∀ b o, s.heap.get? b = some o → (((s.heap.push (seqObj "list" #[] 0)).update s.heap.objs.size (Obj.mapSeq (· ++ us.toArray))).push (seqObj "list" us.toArray 0)).get? b = some o := fun b o q => by
    have hlt : b < s.heap.objs.size := Heap.lt_size q
    refine Heap.get?_push_of_some _ ?_
    rw [Heap.get?_update_ne _ _ _ _ (Nat.ne_of_lt hlt)]
    exact Heap.get?_push_of_some _ q
  have hoL : (((s.heap.push (seqObj "list" #[] 0)).update s.heap.objs.size (Obj.mapSeq (· ++ us.toArray))).push (seqObj "list" us.toArray 0)).get? (s.heap.objs.size + 1) = some (seqObj "list" us.toArray 0) := by
    rw [← hsz]; exact Heap.get?_push_size _ rfl
  show wpAny _ _ _ _ _ { s with heap := ((s.heap.push (seqObj "list" #[] 0)).update s.heap.objs.size (Obj.mapSeq (· ++ us.toArray))).push (seqObj "list" us.toArray 0) }
  rw [hsz]
  have I1 := I.kept (t' := s.toks) keep
  refine wpAny_bind (wpAny_holding (wpAny_call_entry_kw slot_list_sort ⟨_, hoL, rfl⟩ entry_list_sort ?body (ksk_l1 _ _)))
  case body =>
    show wpAny (model X.prog X.w) X.A.in1.in1 (Builtin.«list.sort» ⟨[.ref (s.heap.objs.size + 1)], [(Str.ofString "key", .ref f)]⟩) _ _ _
    rw [ksk_t1]
    refine sort_all (key := key) I1 hoL (I.fpOk (Nat.le_succ _) (I.hok.fresh (Nat.le_succ _))) (keep _ _ hf) ff (Nat.ne_of_gt (Nat.lt_succ_of_lt (Heap.lt_size hf))) hfo hi hz turn fun out H' s' o1 o2 sm n I' => ⟨_, rfl, ?_⟩
    exact wpAny_pure ⟨_, rfl, .ref (s.heap.objs.size + 1), _, I', rfl, h out H' _ o1 o2 sm n⟩
end
end L2
end
section
set_option Elab.async false
set_option linter.all false
set_option maxRecDepth 100000
set_option maxHeartbeats 4000000
namespace L2
open PySem PySem.Spec PyProof.Rows
def tSortLam (X : Cx) (P : Addr) (line col : Nat) (i : Nat) (ta : TA) (tb : TE) : TE := fun σ H Q => ta σ H fun vs H1 => ∃ (l : Addr) (ns : List Int) (key : Int → Int × Int) (vy : V), vs = [.ref l] ∧ SqL X.K H1 l (ns.map V.int) ∧ ns.length < sizeLine ∧
  TabOk P line col (X.env.qual ++ "<lambda>") H1 ∧ σ[i]? = some (some vy) ∧
  (∀ (k : Int) (H2 : Hp), k ∈ ns → SameBut1 P H1 H2 → tb [some (.int k), some vy] H2 fun v H3 => ∃ p, v = .ref p ∧ Same H2 H3 ∧ KeyAt key H3 p k) ∧
  ∀ (out : List Int) (H' : Hp) (D : Addr), out.Perm ns → out.Pairwise (fun a b => pairLe (key a) (key b)) → SameBut1 P H1 H' → TabOk P line col (X.env.qual ++ "<lambda>") H' → H' D = none → Q (.ref D) (upd H' D (.lst (out.map V.int)))
theorem SameBut1.then {P : Addr} {H H1 H2 : Hp} (a : SameBut1 P H H1) (b : Same H1 H2) : SameBut1 P H H2 := fun c o e z => b c o (a c o e z)
theorem TabOk.same {P : Addr} {line col : Nat} {q : Str} {H H' : Hp} (t : TabOk P line col q H) (s : Same H H') : TabOk P line col q H' := by
  rcases t with t | ⟨c, t, u⟩
  · exact .inl (s _ _ t)
  · exact .inr ⟨c, s _ _ t, s _ _ u⟩
theorem pe_sortLam {X : Cx} {k : Nat} {p pos lpos kpos : Pos} {arg body : Expr} {params : Arguments} {scope : Scope} {x y : Str} {c P : Addr} {i : Nat} {ta : TA} {tb : TE} (hr : Room (k + 3) X.A) (hg : Gl X "sorted") (hm : X.mg "sorted" = none)
    (ha : PA X [arg] ta) (hcode : X.env.code = .ref c) (C : PySem.W.CodeHd X.base c P) (hbm : BMod X.mg X.base) (S : LamScope x y scope) (hxy : x ≠ y) (hy : X.N[i]? = some y) (hyc : X.env.scope.names.lookup y = some .cell)
    (hb : ∀ (s : Shared) (H : Hp) (f c' d : Addr) (A : Around) (outer : List Env), Room k (A.deeper (PySem.W.envX (X.env.qual ++ "<lambda>") scope s.heap.objs.size f (.ref c') [(y, d)])) →
      PE (cxLam X.prog X.w X.K X.mg X.base [x, y] (X.env.qual ++ "<lambda>") scope f (.ref c') [(y, d)] A outer s H) body tb)
    (hdef : defaultsOf params X.env = ([], []) := by rfl) (hclo : ∀ cells, cloFrom cells scope.names [] = [(y, (cells.lookup y).getD 0)] := by intro _; rfl)
    (hbind : ∀ (qual : Str) (cl : List (Str × Addr)) (pm cdv ctv u : Value), bindArgs (PySem.W.kla_fn "<lambda>" qual params body scope cl pm cdv ctv) ⟨[u], []⟩ = pure [(x, u)] := by intros; rfl)
    (he : backTo pos (starEach [arg] X.env) = (false, eval arg X.env) :: backTo pos (starEach [] X.env) := by rfl)
    (hks : (backToKw pos (keywordEach [⟨some (Str.ofString "key"), .Lambda params body scope lpos, kpos⟩] X.env)).filterMap (·.1) = [Str.ofString "key"] := by rfl)
    (hkv : (backToKw pos (keywordEach [⟨some (Str.ofString "key"), .Lambda params body scope lpos, kpos⟩] X.env)).map (·.2) = [do let v ← eval (.Lambda params body scope lpos) X.env; standAt pos; pure v] := by rfl)
    (hall : (backToKw pos (keywordEach [⟨some (Str.ofString "key"), .Lambda params body scope lpos, kpos⟩] X.env)).all (·.1.isSome) = true := by rfl)
    (hkw : (backToKw pos (keywordEach [⟨some (Str.ofString "key"), .Lambda params body scope lpos, kpos⟩] X.env)).any (·.1.isNone) = false := by rfl)
    (hpl : (backTo pos (starEach [arg] X.env)).any (·.1) = false := by rfl) :
    PE X (.Call (.Name "sorted" p) [arg] [⟨some (Str.ofString "key"), .Lambda params body scope lpos, kpos⟩] pos) (tSortLam X P lpos.line lpos.col i ta tb) := by
  intro pins s σ H Q I h
  refine wpAny_Call_Name_kw (ld_blt (u := .builtin "sorted") I hg hm rfl ?_)
  refine PyProof.Rows.callWith_kw (thn (ha pos pins s σ H _ I h) fun us s1 ⟨vs, H1, I1, r1, q1⟩ => ?_) he hpl hall hkw
  obtain ⟨l, ns, key, vy, rfl, hl, hz, hT, hσ, turn, fin⟩ := q1
  obtain rfl := r1.ref1
  rw [hkv, hks]
  obtain ⟨d, hd⟩ : ∃ d, X.env.cells.lookup y = some d := I1.ok.has y (.inl hyc)
  have hcl : closureFor scope X.env = pure [(y, d)] := by
    rw [closure_ok fun z hz hf => ?_, hclo, hd]
    · rfl
    · rw [S.fr z hz hf]; exact ⟨d, hd⟩
  refine wpAny_evalAll_cons (wpAny_bind (lam_made I1 hcode C hbm hT hdef hcl fun f c' ctv s2 H2 I2 sm2 hT2 hc' hf ff => wpAny_bind (wpAny_standAt (wpAny_pure (wpAny_evalAll_nil ?_)))))
  show wpAny _ _ (call (.builtin "sorted") [.ref l] [(Str.ofString "key", .ref f)]) _ _ s2
  have tP : ∀ ps, H1 P = some (.tbl ps) → ∀ xs, SqL X.K H1 l xs → SqL X.K H2 l xs := fun ps e xs q => by
    rcases q with (q | ⟨o, q⟩) | q
    · exact .inl (.inl (sm2 _ _ q fun z => by rw [z, e] at q; cases q))
    · exact .inl (.inr ⟨o, sm2 _ _ q fun z => by rw [z, e] at q; cases q⟩)
    · exact .inr q
  have hl2 : SqL X.K H2 l (ns.map V.int) := by
    rcases hT with e | ⟨_, e, _⟩
    · exact tP _ e _ hl
    · exact tP _ e _ hl
  refine sorted_key (key := key) I2 hl2 hz hf ff (fun v z => by cases z) (fun kk t pins' s3 H3 hk I3 sm3 hf3 => ?_) fun out H' D o1 o2 sm n => fin out H' D o1 o2 (sm2.then sm) (hT2.same sm) n
  obtain ⟨m, _, hloc⟩ := I3.loc
  obtain ⟨uy, ry, lk⟩ := hloc i y vy hy hσ (.inr (.inl hyc))
  have hcell : s3.heap.IsCell d (some uy) := by
    rcases lk with ⟨k1, _⟩ | ⟨_, d', e1, e2⟩
    · have k1' : X.env.scope.names.lookup y = some .local := k1
      rw [hyc] at k1'; cases k1'
    · rw [hd] at e1; cases e1; exact e2
  refine wpAny_call (codeAny_mono (lam_run (v := .int kk) (vy := vy) (Q := fun v H4 => ∃ p, v = V.ref p ∧ Same H3 H4 ∧ KeyAt key H4 p kk) (k := k) I3.env0.in1.in1 (hr.in1.in1) S hxy hf3 (codeO_rec I3.hok (sm3 _ _ hc')) (hbind _ _ _ _ _ _) hcell (I3.freeC y d hd) ⟨t, rfl⟩ ry
    (fun rm => hb s3 H3 f c' d X.A.in1.in1 X.stack rm) (turn kk H3 hk (sm2.then sm3))) fun r s4 hq => ?_)
  cases r with
  | error e => exact hq
  | ok fl =>
    cases fl with
    | ret u =>
      obtain ⟨v, H4, I4, rv, p, ev, sm4, hp⟩ := I3.after hq
      subst ev
      exact ⟨p, H4, rv, I4, sm4, hp⟩
    | next => exact hq
    | brk => exact hq
    | cont => exact hq
end L2
end
section
set_option Elab.async false
set_option linter.all false
set_option maxRecDepth 100000
set_option maxHeartbeats 4000000
namespace L2
open PySem PySem.Spec PyProof.Rows
theorem vals_at : ∀ {xs : List V} {us : List Value}, xs.length = us.length → (∀ (i : Nat) (x : V) (u : Value), xs[i]? = some x → us[i]? = some u → RelV x u) → Vals xs us
  | [], [], _, _ => .nil
  | [], _ :: _, e, _ => by simp at e
  | _ :: _, [], e, _ => by simp at e
  | x :: xs, u :: us, e, h => .cons (h 0 x u rfl rfl) (vals_at (by simpa using e) fun i y v h1 h2 => h (i + 1) y v (by simpa using h1) (by simpa using h2))
def rRange1 : List V → Hp → VK → Prop := fun vs H Q => ∃ j : Int, vs = [.int j] ∧ ∀ p, H p = none → Q (.ref p) (upd H p (.rng 0 j))
theorem cr_range {X : Cx} : CallR X (.type "range") rRange1 := by
  intro pins s σ H xs us Q I r h
  obtain ⟨j, rfl, q⟩ := h
  obtain ⟨u, rfl, t, rfl⟩ := r.one
  exact call_range_1 ⟨.ref s.heap.objs.size, upd H s.heap.objs.size (.rng 0 j), I.laid (fun b o e => Heap.get?_push_of_some _ e) (Nat.le_refl _) ⟨_, _, _, Heap.get?_push_size _ rfl⟩, rfl, q _ I.fresh⟩
def rListRange : List V → Hp → VK → Prop := fun vs H Q => ∃ (p : Addr) (n : Nat), vs = [.ref p] ∧ H p = some (.rng 0 n) ∧ n ≤ 1000 ∧ ∀ l, H l = none → Q (.ref l) (upd H l (.lst ((List.range n).map fun (i : Nat) => V.int i)))
theorem cr_listRange {X : Cx} (hc : X.calm = true) : CallR X (.type "list") rListRange := by
  intro pins s σ H xs us Q I r h
  obtain ⟨p, n, rfl, hp, hn, q⟩ := h
  obtain rfl := r.ref1
  obtain ⟨t, u, v, e⟩ := I.hok p _ hp
  have hsz : Builtin.Range.rangeSize 0 (n : Int) 1 = (n : Int) := by
    unfold Builtin.Range.rangeSize
    rw [if_pos (by decide)]
    split
    · rw [Int.ediv_one]; omega
    · omega
  refine call_list_range (n := n) (I.ok.hd hc) e (by unfold Builtin.Range.small Builtin.Range.rangeFitsLong; rw [hsz]; simp; omega) hsz (by omega) fun h' tk acc c hk hS hacc => ?_
  have hv : Vals ((List.range n).map fun (i : Nat) => V.int i) acc.toList := by
    refine vals_at (by rw [List.length_map, List.length_range, Array.length_toList]; exact hacc.1.symm) fun i x u h1 h2 => ?_
    obtain ⟨tk', e'⟩ := hacc.2 i u (by simpa using h2)
    have hi : i < n := by
      have := (List.getElem?_eq_some_iff.mp h1).1
      simpa using this
    rw [List.getElem?_map, List.getElem?_range hi] at h1
    have ex : V.int (i : Int) = x := Option.some.inj h1
    rw [← ex, e']
    exact ⟨tk', by congr 1; omega⟩
  exact ⟨.ref s.heap.objs.size, upd H s.heap.objs.size (.lst _), I.laid hk (Nat.le_refl _) ⟨by rw [List.length_map, List.length_range, sizeLine_eq]; omega, acc.toList, c, hv, by rw [Array.toArray_toList]; exact hS⟩, rfl, q _ I.fresh⟩
structure Prom (P : Program) (w : World) (K : PySem.W.Frag) (mg : Str → Option Value) (base : Heap) (k : Nat) (x : Str) (ps : List Str) (sp : Sp) : Prop where
  ex : ∃ f fd, FnOk P w K mg base CX0 k f fd ps sp ∧ mg x = some (.ref f) ∧ PySem.W.keepIn K (.ref f) = true ∧ Binds K fd ps []
theorem pe_prom {X : Cx} {k j : Nat} {x : Str} {ps : List Str} {sp : Sp} {p pos : Pos} {e : Expr} {es : List Expr} {t : TA} (G : Prom X.prog X.w X.K X.mg X.base k x ps sp) (hr : Room j X.A) (hk : k ≤ j) (hg : Gl X x) (ha : PA X (e :: es) t)
    (hdb : (x == ("__debug__" : Str)) = false := by decide) (he : starEach (e :: es) X.env = (false, eval e X.env) :: starEach es X.env := by rfl) (hpl : (backTo pos (starEach es X.env)).any (·.1) = false := by rfl) :
    PE X (.Call (.Name x p) (e :: es) [] pos) (tCall sp [] E0 t) := by
  obtain ⟨f, fd, F, hm, hkp, hb⟩ := G.ex
  exact pe_call F (hr.mono hk) hg hm hkp hb .nil pass0 ha hdb he hpl
end L2
end
section
set_option Elab.async false
set_option linter.all false
set_option maxRecDepth 100000
set_option maxHeartbeats 2000000
namespace Lx
open PySem PyProof.Rows
def lessI : List Int → List Int → Bool
  | x :: xs, y :: ys => if x = y then lessI xs ys else decide (x < y)
  | _, _ => false
theorem ints_same : ∀ {us : List Value} {ns : List Int}, IntsAre us ns → us.length = ns.length
  | _, _, .nil => rfl
  | _, _, .cons _ _ hr => congrArg Nat.succ (ints_same hr)
theorem ints_val : ∀ {us : List Value} {ns : List Int}, IntsAre us ns → ∀ (i : Nat) (u : Value), us[i]? = some u → ∃ t, u = .int (ns.getD i 0) t
  | _, _, .nil, i, u, h => by simp at h
  | _, _, .cons n t _, 0, u, h => ⟨t, (Option.some.inj h).symm⟩
  | _, _, .cons n t hr, i + 1, u, h => ints_val hr i u (by simpa using h)
section
open PySem.SeqAt
open PySem.AutoSeq1 (wpAny_loadPart')
open PySem.MeetsSeq PySem.MeetsSeq2 PySem.MeetsSeq3
theorem lt_loop (l b : Addr) (us vs : Array Value) (n n2 : Nat) (dd dd2 : Option Addr) (sl sl2 : Array (Option Value)) (ns ms : List Int) (hi : IntsAre us.toList ns) (hj : IntsAre vs.toList ms) (hz : ns.length = ms.length) (k : Nat) :
    ∀ i : Nat, us.size - i = k → Meets (Builtin.«list.__eq__.loop» ⟨[.ref l, .ref b, rawInt i, rawInt 0], []⟩)
      (fun _ R s => s.heap.get? l = some { cls := .type "list", dict := dd, data := .seq us n, slots := sl } ∧ s.heap.get? b = some { cls := .type "list", dict := dd2, data := .seq vs n2, slots := sl2 } ∧
        R (.ok (.ret (.bool (lessI (ns.drop i) (ms.drop i))))) s) := by
  have z1 : us.size = ns.length := by rw [← ints_same hi]; simp
  have z2 : vs.size = ms.length := by rw [← ints_same hj]; simp
  induction k with
  | zero =>
    intro i hk prog w A R s h
    obtain ⟨hp, g, d, tk, os⟩ := s; obtain ⟨hl, hb, h⟩ := h
    wp_walk using wpAny_loadPart' hl, wpAny_loadPart' hb
    have e1 : us[((i : Nat) : Int).toNat]? = none := by simp; omega
    have e2 : vs[((i : Nat) : Int).toNat]? = none := by simp; omega
    have hd : ns.drop i = [] := List.drop_eq_nil_of_le (by omega)
    rw [hd] at h
    rw [e1, e2]
    wp_walk using wpAny_loadPart' hl, wpAny_loadPart' hb
    show R (.ok (.ret (.bool (decide (us.size < vs.size))))) _
    rw [decide_eq_false (by omega)]
    exact h
  | succ k ih =>
    intro i hk prog w A R s h
    obtain ⟨hp, g, d, tk, os⟩ := s; obtain ⟨hl, hb, h⟩ := h
    wp_walk using wpAny_loadPart' hl, wpAny_loadPart' hb
    have lt1 : i < us.size := by omega
    have lt2 : i < vs.size := by omega
    obtain ⟨t1, g1⟩ := ints_val hi i us[i] (by rw [Array.getElem?_toList]; simp [lt1])
    obtain ⟨t2, g2⟩ := ints_val hj i vs[i] (by rw [Array.getElem?_toList]; simp [lt2])
    have e1 : us[((i : Nat) : Int).toNat]? = some (.int (ns.getD i 0) t1) := by rw [← g1]; simp [lt1]
    have e2 : vs[((i : Nat) : Int).toNat]? = some (.int (ms.getD i 0) t2) := by rw [← g2]; simp [lt2]
    have d1 : ns.drop i = ns.getD i 0 :: ns.drop (i + 1) := by
      rw [List.drop_eq_getElem_cons (by omega), List.getD_eq_getElem?_getD, List.getElem?_eq_getElem (by omega)]; rfl
    have d2 : ms.drop i = ms.getD i 0 :: ms.drop (i + 1) := by
      rw [List.drop_eq_getElem_cons (by omega), List.getD_eq_getElem?_getD, List.getElem?_eq_getElem (by omega)]; rfl
    have hc : ((i : Int) + 1) = ((i + 1 : Nat) : Int) := by push_cast; rfl
    rw [d1, d2] at h
    have h : R (.ok (.ret (.bool (if ns.getD i 0 = ms.getD i 0 then lessI (ns.drop (i + 1)) (ms.drop (i + 1)) else decide (ns.getD i 0 < ms.getD i 0))))) ⟨hp, g, d, tk, os⟩ := h
    rw [e1, e2]
    refine wpAny_bind ((EqGives.int (ns.getD i 0) (ms.getD i 0) t1 t2).at _ _ prog w _ _ ?_)
    by_cases c : ns.getD i 0 = ms.getD i 0
    · rw [if_pos c] at h
      rw [show (ns.getD i 0 == ms.getD i 0) = true from beq_iff_eq.mpr c]
      wp_walk
      rw [hc]
      exact ⟨plainId_quiet plain_eq_loop _, codeAny_builtin entry_eq_loop (by
        rw [Around.under_plainId plain_eq_loop _]
        exact ih (i + 1) (by omega) prog w A R _ ⟨hl, hb, h⟩)⟩
    · rw [if_neg c] at h
      rw [show (ns.getD i 0 == ms.getD i 0) = false from beq_eq_false_iff_ne.mpr c]
      wp_walk using wpAny_loadPart' hl, wpAny_loadPart' hb
      rw [e1, e2]
      have hri : ∀ (E' : Value → Shared → Prop) (Q' : Value → Shared → Prop), Q' (.bool (decide (ns.getD i 0 < ms.getD i 0))) ⟨hp, g, d, tk, os⟩ → wpAny (model prog w) A.in1 (richCompare .Lt (.int (ns.getD i 0) t1) (.int (ms.getD i 0) t2)) Q' E' ⟨hp, g, d, tk, os⟩ :=
        fun E' Q' q => (PyProof.Rows.lt_int q : wpAny (model prog w) A.in1 (compareOp .Lt (.int (ns.getD i 0) t1) (.int (ms.getD i 0) t2)) Q' E' _)
      wp_walk using hri
      exact h
theorem list_lt (l b : Addr) (us vs : Array Value) (n n2 : Nat) (dd dd2 : Option Addr) (sl sl2 : Array (Option Value)) (ns ms : List Int) (hi : IntsAre us.toList ns) (hj : IntsAre vs.toList ms) (hz : ns.length = ms.length) :
    Meets (Builtin.«list.__lt__» ⟨[.ref l, .ref b], []⟩)
      (fun _ R s => s.heap.get? l = some { cls := .type "list", dict := dd, data := .seq us n, slots := sl } ∧ s.heap.get? b = some { cls := .type "list", dict := dd2, data := .seq vs n2, slots := sl2 } ∧
        R (.ok (.ret (.bool (lessI ns ms)))) s) := by
  intro prog w A R s h
  obtain ⟨hp, g, d, tk, os⟩ := s; obtain ⟨hl, hb, h⟩ := h
  have f3 := AutoSeq1.sub_list_list
  wp_walk using wpAny_loadPart' hl, wpAny_loadPart' hb
  exact ⟨plainId_quiet plain_eq_loop _, codeAny_builtin entry_eq_loop (by
    rw [Around.under_plainId plain_eq_loop _]
    exact lt_loop l b us vs n n2 dd dd2 sl sl2 ns ms hi hj hz _ 0 rfl prog w A R _ ⟨hl, hb, h⟩)⟩
end
section
variable {prog : Program} {w : World} {A : Around} {E : Value → Shared → Prop} {s : Shared}
theorem lt_lists {l b : Addr} {us vs : List Value} {n n2 : Nat} {ns ms : List Int} {Q : Value → Shared → Prop} (hl : s.heap.get? l = some { cls := .type "list", data := .seq us.toArray n }) (hb : s.heap.get? b = some { cls := .type "list", data := .seq vs.toArray n2 })
    (hi : IntsAre us ns) (hj : IntsAre vs ms) (hz : ns.length = ms.length) (hu : A.units < cLine) (h : Q (.bool (lessI ns ms)) s) : wpAny (model prog w) A (richCompare .Lt (.ref l) (.ref b)) Q E s :=
  richCompare_meets_room (op := .Lt) ⟨_, hl, rfl⟩ ⟨_, hb, rfl⟩ PySem.F.slot_list_lt PySem.F.entry_list_lt (PySem.F.args_list_lt_2 _ _) (list_lt l b us.toArray vs.toArray n n2 none none #[] #[] ns ms (by simpa using hi) (by simpa using hj) hz)
    ⟨hl, hb, show Value.bool (lessI ns ms) ≠ Value.notImplemented ∧ Q (.bool (lessI ns ms)) s from ⟨(fun x => nomatch x), h⟩⟩ hu
theorem min_loop_step {I S : Addr} {fp wr : List Addr} {P : Nat → Value → Prop} {St : Nat → Heap → Prop} {R : Result → Shared → Prop} {s : Shared} {c i m : Nat} {vb : Value} {bt : Bool} (W : Walks prog w A.in1 I fp wr m P St) (hSf : S ∉ fp) (him : i < m) (hst : St i s.heap)
    (hS : s.heap.get? S = some { cls := .type "list", dict := none, data := .seq #[vb, vb] c, slots := #[] })
    (hcmp : ∀ v (s' : Shared) (Q : Value → Shared → Prop) (E : Value → Shared → Prop), P i v → (∀ b o, b ∉ wr → s.heap.get? b = some o → s'.heap.get? b = some o) → Q (.bool bt) s' → wpAny (model prog w) A.in1 (richCompare .Lt v vb) Q E s')
    (hR : ∀ (v : Value) (s' : Shared) (c' : Nat), P i v → St (i + 1) s'.heap → (∃ h' tk, s' = { s with heap := h', toks := tk }) → (∀ b o, b ∉ wr → b ≠ S → s.heap.get? b = some o → s'.heap.get? b = some o) →
      s'.heap.get? S = some { cls := .type "list", dict := none, data := .seq #[if bt then v else vb, if bt then v else vb] c', slots := #[] } → codeAny (model prog w) A (.builtin "min.loop" ⟨[.ref I, .none, .ref S], []⟩) R s') :
    codeAny (model prog w) A (.builtin "min.loop" ⟨[.ref I, .none, .ref S], []⟩) R s := by
  have hSw : S ∉ wr := fun h => hSf (W.sub _ h)
  have hname : (toString "min" ++ toString ".loop" : String) = "min.loop" := by decide
  refine codeAny_builtin PySem.F.entry_min_loop ?_
  rw [Around.under_plainId PySem.F.plain_min_loop _]
  show wpAny _ A.in1 (seqItems? (.ref S) >>= _) _ _ s
  refine wpAny_bind (wpAny_seqItems hS rfl ?_)
  show wpAny _ A.in1 (tryCatch (pyNext (.ref I)) _ >>= _) _ _ s
  refine wpAny_bind (wpAny_tryCatch (W.item i s _ _ him hst fun v h' tk hP hst' hk' => ?_))
  have hS' := hk' S _ hSw hS
  show wpAny _ A.in1 (tryCatch (holding [v, v] (richCompare .Lt v vb >>= _)) _ >>= _) _ _ _
  refine wpAny_bind (wpAny_tryCatch (wpAny_holding (wpAny_bind (hcmp v _ _ _ hP hk' ?_))))
  refine wpAny_bind (wpAny_holding (wpAny_truthy_bool ?_))
  refine wpAny_bind (wpAny_letGo (wpAny_pure ?_))
  cases bt with
  | true =>
    simp only [if_true]
    refine wpAny_bind ?_
    refine wpAny_updateSeq hS' rfl (wpAny_bind (wpAny_letGo ?_))
    rw [hname]
    refine wpAny_pure ⟨plainId_quiet PySem.F.plain_min_loop _, hR v _ _ hP (W.frame _ _ _ hst' fun b hbf o e => ?_) ⟨_, _, rfl⟩ (fun b o hbw hbS e => ?_) (Heap.get?_update_self _ hS' rfl)⟩
    · exact (Heap.get?_update_other _ _ (fun h : S = b => hSf (by rw [h]; exact hbf))).trans e
    · exact (Heap.get?_update_other _ _ (Ne.symm hbS)).trans (hk' b o hbw e)
  | false =>
    simp only [Bool.false_eq_true, if_false]
    refine wpAny_bind (wpAny_letGo ?_)
    rw [hname]
    exact wpAny_pure ⟨plainId_quiet PySem.F.plain_min_loop _, hR v _ c hP hst' ⟨_, _, rfl⟩ (fun b o hbw hbS e => hk' b o hbw e) hS'⟩
theorem min_loop_end {I S : Addr} {fp wr : List Addr} {P : Nat → Value → Prop} {St : Nat → Heap → Prop} {R : Result → Shared → Prop} {s : Shared} {c m : Nat} {vb : Value} (W : Walks prog w A.in1 I fp wr m P St) (hSf : S ∉ fp) (hst : St m s.heap)
    (hS : s.heap.get? S = some { cls := .type "list", dict := none, data := .seq #[vb, vb] c, slots := #[] })
    (hR : ∀ h' tk, (∀ b o, b ∉ wr → b ≠ S → s.heap.get? b = some o → h'.get? b = some o) → R (.ok (.ret vb)) { s with heap := h', toks := tk }) :
    codeAny (model prog w) A (.builtin "min.loop" ⟨[.ref I, .none, .ref S], []⟩) R s := by
  have hSw : S ∉ wr := fun h => hSf (W.sub _ h)
  refine codeAny_builtin PySem.F.entry_min_loop ?_
  rw [Around.under_plainId PySem.F.plain_min_loop _]
  show wpAny _ A.in1 (seqItems? (.ref S) >>= _) _ _ s
  refine wpAny_bind (wpAny_seqItems hS rfl ?_)
  show wpAny _ A.in1 (tryCatch (pyNext (.ref I)) _ >>= _) _ _ s
  refine wpAny_bind (wpAny_tryCatch (W.done s _ _ hst fun h' tk hk' => ?_))
  have hS' := hk' S _ hSw hS
  show wpAny _ A.in1 (updateSeq S (fun _ => #[]) >>= _) _ _ _
  refine wpAny_bind ?_
  refine wpAny_updateSeq hS' rfl (wpAny_bind (wpAny_letGo (wpAny_pure ?_)))
  exact hR _ tk fun b o hbw hbS e => (Heap.get?_update_other _ _ (Ne.symm hbS)).trans (hk' b o hbw e)
theorem min_loop_first {I S : Addr} {fp wr : List Addr} {P : Nat → Value → Prop} {St : Nat → Heap → Prop} {R : Result → Shared → Prop} {s : Shared} {c m : Nat} (W : Walks prog w A.in1 I fp wr m P St) (hSf : S ∉ fp) (hm : 0 < m) (hst : St 0 s.heap)
    (hS : s.heap.get? S = some { cls := .type "list", dict := none, data := .seq #[] c, slots := #[] })
    (hR : ∀ (v : Value) (s' : Shared) (c' : Nat), P 0 v → St 1 s'.heap → (∃ h' tk, s' = { s with heap := h', toks := tk }) → (∀ b o, b ∉ wr → b ≠ S → s.heap.get? b = some o → s'.heap.get? b = some o) →
      s'.heap.get? S = some { cls := .type "list", dict := none, data := .seq #[v, v] c', slots := #[] } → codeAny (model prog w) A (.builtin "min.loop" ⟨[.ref I, .none, .ref S], []⟩) R s') :
    codeAny (model prog w) A (.builtin "min.loop" ⟨[.ref I, .none, .ref S], []⟩) R s := by
  have hSw : S ∉ wr := fun h => hSf (W.sub _ h)
  have hname : (toString "min" ++ toString ".loop" : String) = "min.loop" := by decide
  refine codeAny_builtin PySem.F.entry_min_loop ?_
  rw [Around.under_plainId PySem.F.plain_min_loop _]
  show wpAny _ A.in1 (seqItems? (.ref S) >>= _) _ _ s
  refine wpAny_bind (wpAny_seqItems hS rfl ?_)
  show wpAny _ A.in1 (tryCatch (pyNext (.ref I)) _ >>= _) _ _ s
  refine wpAny_bind (wpAny_tryCatch (W.item 0 s _ _ hm hst fun v h' tk hP hst' hk' => ?_))
  have hS' := hk' S _ hSw hS
  show wpAny _ A.in1 (updateSeq S (fun _ => #[v, v]) >>= _) _ _ _
  refine wpAny_bind ?_
  refine wpAny_updateSeq hS' rfl ?_
  rw [hname]
  refine wpAny_pure ⟨plainId_quiet PySem.F.plain_min_loop _, hR v _ _ hP (W.frame _ _ _ hst' fun b hbf o e => ?_) ⟨_, _, rfl⟩ (fun b o hbw hbS e => ?_) (Heap.get?_update_self _ hS' rfl)⟩
  · exact (Heap.get?_update_other _ _ (fun h : S = b => hSf (by rw [h]; exact hbf))).trans e
  · exact (Heap.get?_update_other _ _ (Ne.symm hbS)).trans (hk' b o hbw e)
theorem min_pair {a b : Value} {bt : Bool} {Q : Value → Shared → Prop} (hh : A.handled = none)
    (hcmp : ∀ (s' : Shared) (Q' : Value → Shared → Prop) (E' : Value → Shared → Prop), (∀ c o, s.heap.get? c = some o → s'.heap.get? c = some o) → Q' (.bool bt) s' → wpAny (model prog w) A.in1 (richCompare .Lt b a) Q' E' s')
    (h : ∀ h' tk, (∀ c o, s.heap.get? c = some o → h'.get? c = some o) → Q (if bt then b else a) { s with heap := h', toks := tk }) :
    wpAny (model prog w) A (call (.builtin "min") [a, b]) Q E s := by
  have hname : (toString "min" ++ toString ".loop" : String) = "min.loop" := by decide
  refine call_function_tree PySem.F.kind_min PySem.F.plain_min PySem.F.entry_min (PySem.F.args_min2 _ _) ?_
  show wpAny _ A.in1 (Builtin.Builtins.bindParams "min" ["key", "default"] 0 ⟨[], []⟩ >>= _) _ _ s
  refine wpAny_bind (wpAny_of_eq (show Builtin.Builtins.bindParams "min" ["key", "default"] 0 ⟨[], []⟩ = pure [none, none] from rfl) ?_)
  show wpAny _ A.in1 (newTuple [a, b] >>= _) _ _ s
  refine wpAny_bind (wpAny_newObj_type ?_)
  have hT : (s.heap.push { cls := .type "tuple", data := .seq #[a, b] }).IsTuple s.heap.objs.size #[a, b] := ⟨_, Heap.get?_push_size _ rfl, rfl, 0, rfl⟩
  refine wpAny_bind (wpAny_pyIter_tuple hT ?_)
  have hsz : (s.heap.push { cls := .type "tuple", data := .seq #[a, b] }).objs.size = s.heap.objs.size + 1 := Heap.size_push ..
  refine wpAny_bind (wpAny_newObj_type ?_)
  rw [hname]
  have z2 : ((s.heap.push { cls := .type "tuple", data := .seq #[a, b] }).push { cls := .type "tuple_iterator", data := .fields #[.ref s.heap.objs.size, .int 0 0] }).objs.size = s.heap.objs.size + 2 := by rw [Heap.size_push, hsz]
  have W := Walks.tuple (prog := prog) (w := w) (A := A.in1) hh (s.heap.push { cls := .type "tuple", data := .seq #[a, b] }).objs.size s.heap.objs.size (by rw [hsz]; exact Nat.ne_of_lt (Nat.lt_succ_self _)) #[a, b]
  have fr : ∀ c o, s.heap.get? c = some o → c ∉ [(s.heap.push { cls := .type "tuple", data := .seq #[a, b] }).objs.size] ∧ c ≠ ((s.heap.push { cls := .type "tuple", data := .seq #[a, b] }).push { cls := .type "tuple_iterator", data := .fields #[.ref s.heap.objs.size, .int 0 0] }).objs.size := fun c o e => by
    have := Heap.lt_size e
    refine ⟨fun z => ?_, fun z => ?_⟩
    · rw [List.mem_singleton, hsz] at z; exact absurd z (Nat.ne_of_lt (Nat.lt_succ_of_lt this))
    · rw [z2] at z; exact absurd z (Nat.ne_of_lt (Nat.lt_succ_of_lt (Nat.lt_succ_of_lt this)))
  have hSf : ((s.heap.push { cls := .type "tuple", data := .seq #[a, b] }).push { cls := .type "tuple_iterator", data := .fields #[.ref s.heap.objs.size, .int 0 0] }).objs.size ∉ [(s.heap.push { cls := .type "tuple", data := .seq #[a, b] }).objs.size, s.heap.objs.size] := by
    rw [z2, hsz]; simp
  refine wpAny_pure ⟨plainId_quiet PySem.F.plain_min_loop _, min_loop_first (c := 0) W hSf (by simp) ?_ (Heap.get?_push_size _ rfl) fun v s1 c1 hP1 st1 hs1 k1 hS1 => ?_⟩
  · refine ⟨⟨_, Heap.get?_push_of_some _ (Heap.get?_push_size _ rfl), rfl, rfl⟩, (hT.push _).push _⟩
  have ev : v = a := by simpa using hP1.symm
  subst ev
  have q1 : ∀ c o, s.heap.get? c = some o → s1.heap.get? c = some o := fun c o e => k1 c o (fr c o e).1 (fr c o e).2 (Heap.get?_push_of_some _ (Heap.get?_push_of_some _ (Heap.get?_push_of_some _ e)))
  refine min_loop_step (bt := bt) W hSf (i := 1) (by simp) st1 hS1 (fun v2 s2 Q2 E2 hP2 k2 hq => ?_) fun v2 s2 c2 hP2 st2 hs2 k2 hS2 => ?_
  · have e2 : v2 = b := by simpa using hP2.symm
    subst e2
    exact hcmp s2 Q2 E2 (fun c o e => k2 c o (fr c o e).1 (q1 c o e)) hq
  have e2 : v2 = b := by simpa using hP2.symm
  subst e2
  have q2 : ∀ c o, s.heap.get? c = some o → s2.heap.get? c = some o := fun c o e => k2 c o (fr c o e).1 (fr c o e).2 (q1 c o e)
  obtain ⟨h1, t1, rfl⟩ := hs1
  obtain ⟨h2, t2, rfl⟩ := hs2
  refine min_loop_end W hSf st2 hS2 fun h3 t3 k3 => ?_
  exact h h3 t3 fun c o e => k3 c o (fr c o e).1 (fr c o e).2 (q2 c o e)
end
end Lx
end
section
set_option Elab.async false
set_option linter.all false
set_option maxRecDepth 100000
set_option maxHeartbeats 2000000
namespace L2
open PySem PySem.Spec PyProof.Rows
theorem firstMet_nodup (val : Nat → Int) : ∀ i, (firstMet val i).Nodup
  | 0 => by rw [firstMet_zero]; exact .nil
  | i + 1 => by
    have ih := firstMet_nodup val i
    rw [firstMet_succ]
    unfold step_dedup
    split
    · exact ih
    · rename_i c
      rw [List.nodup_append]
      refine ⟨ih, by simp, fun a ha b hb => ?_⟩
      rw [List.mem_singleton.mp hb]
      exact fun z => c (List.any_eq_true.mpr ⟨a, ha, beq_iff_eq.mpr z⟩)
theorem firstMet_mem {ns : List Int} {n : Nat} (hn : n = ns.length) (z : Int) : z ∈ firstMet (fun i => ns.getD i 0) n ↔ z ∈ ns := by
  have h1 : ∀ l : List Int, z ∈ l ↔ (l.any (· == z)) = true := fun l => by
    rw [List.any_eq_true]
    exact ⟨fun h => ⟨z, h, beq_self_eq_true z⟩, fun ⟨a, ha, e⟩ => by rw [← beq_iff_eq.mp e]; exact ha⟩
  rw [h1, firstMet_any, ← h1]
  have e : (List.range n).map (fun i => ns.getD i 0) = ns := by
    subst hn
    refine List.ext_getElem (by simp) fun i h1 h2 => ?_
    rw [List.getElem_map, List.getElem_range, List.getD_eq_getElem?_getD, List.getElem?_eq_getElem h2]
    rfl
  rw [e]
def rSetOf (K : PySem.W.Frag) : List V → Hp → VK → Prop := fun vs H Q => ∃ (a : Addr) (ns : List Int), vs = [.ref a] ∧ SqL K H a (ns.map V.int) ∧ ns.length ≤ 1000 ∧ ∀ (p : Addr) (S : Int → Bool) (d : List Int), H p = none → d.Nodup → (∀ z, z ∈ d ↔ z ∈ ns) → Q (.ref p) (upd H p (.set S d.length))
theorem cr_setOf {X : Cx} (hc : X.calm = true) : CallR X (.type "set") (rSetOf X.K) := by
  intro pins s σ H xs us Q I r h
  obtain ⟨a, ns, rfl, hs, hn, q⟩ := h
  rw [Vals.ref1 r]
  obtain ⟨its, rv, hl, _⟩ := I.list hs
  have hlen : its.toArray.size = ns.length := by rw [List.size_toArray, ← rv.length, List.length_map]
  refine PySem.call_set_list (I.ok.hd hc) hl.isList (ns := ns) (by simpa using rv.ints) (by rw [hlen]; unfold scanBound; omega) fun h' tk hS hk => ?_
  refine ⟨.ref s.heap.objs.size, upd H s.heap.objs.size (.set _ _), I.laid (fun b o e => hk b o (Heap.lt_size e) e) (Nat.le_refl _) hS, rfl, q _ _ _ I.fresh (firstMet_nodup _ _) (firstMet_mem hlen)⟩
theorem cr_lenSet {X : Cx} : CallR X (.builtin "len") (fun vs H Q => ∃ (p : Addr) (S : Int → Bool) (n : Nat), vs = [.ref p] ∧ H p = some (.set S n) ∧ Q (.int n) H) := by
  intro pins s σ H xs us Q I r h
  obtain ⟨p, S, n, rfl, hp, q⟩ := h
  rw [Vals.ref1 r]
  obtain ⟨o, es, ep, t, ho, hex, hd, _, _, hb, hf, hn⟩ : s.heap.SetOf (intKind X.prog X.w) p S n := I.hok p _ hp
  subst hn
  exact PySem.call_len_set ho hex hd hf (by unfold scanBound at hb; omega) ⟨.int es.size, H, I.tok _, ⟨_, rfl⟩, q⟩
def rMin2 : List V → Hp → VK → Prop := fun vs H Q => ∃ (a b : Addr) (ns ms : List Int), vs = [.ref a, .ref b] ∧ H a = some (.lst (ns.map V.int)) ∧ H b = some (.lst (ms.map V.int)) ∧ ns.length = ms.length ∧ Q (.ref (if Lx.lessI ms ns then b else a)) H
theorem cr_min2 {X : Cx} (hc : X.calm = true) (hu : X.A.units + 1 < cLine) : CallR X (.builtin "min") rMin2 := by
  intro pins s σ H xs us Q I r h
  obtain ⟨a, b, ns, ms, rfl, ha, hb, hz, q⟩ := h
  cases r with
  | cons r1 r =>
    cases r with
    | cons r2 r =>
      cases r
      cases r1
      cases r2
      obtain ⟨_, its, n, rv, _, e⟩ := I.lstM ha
      obtain ⟨_, its2, n2, rv2, _, e2⟩ := I.lstM hb
      refine Lx.min_pair (bt := Lx.lessI ms ns) (I.ok.hd hc) (fun s' Q' E' k q' => Lx.lt_lists (k _ _ e2) (k _ _ e) rv2.ints rv.ints hz.symm (show X.A.units + 1 < cLine from hu) q') fun h' tk k => ?_
      refine ⟨_, H, I.kept k, ?_, q⟩
      cases Lx.lessI ms ns <;> rfl
def rUpdate : V → List V → Hp → VK → Prop := fun x vs H Q => ∃ (d e : Addr) (kvs more : List (Key × V)), x = .ref d ∧ vs = [.ref e] ∧ d ≠ e ∧ H d = some (.dK kvs) ∧ H e = some (.dK more) ∧ kvs.length + more.length ≤ sizeLine ∧ Q .non (upd H d (.dK (mergeK kvs more)))
theorem mt_update {X : Cx} : MtR X "dict.update" rUpdate := by
  intro pins s σ H x vs v us Q I rx rv h
  obtain ⟨d, e, kvs, more, rfl, rfl, hne, hd, he, hz, q⟩ := h
  cases rx
  obtain ⟨u, rfl, ru⟩ := rv.one
  cases ru
  obtain ⟨z, hs, vs0, rel, dd⟩ := dk_of I.hok hd
  obtain ⟨z2, hs2, vs2, rel2, dd2⟩ := dk_of I.hok he
  refine call_meetsIn PySem.F.slot_dict_update dd.typeIs PySem.F.entry_dict_update (PySem.F.args_dict_update_2 _ _) (meets_dict_update (mixKind X.prog X.w) d e hne hs2)
    ⟨vs0, vs2, dd, dd2, by rw [← Paired.length rel, ← Paired.length rel2]; exact hz, fun h' dd' _ hs' => ⟨.non, _, ?_, rfl, q⟩⟩
  have hx : ∃ q, h'.get? d = some q := let ⟨q, _, _, hq, _⟩ := dd'; ⟨q, hq⟩
  exact d_write (t' := s.toks) I (by rw [hd]; exact True.intro) hs' hx (dk_new (Nat.le_trans (length_mergeK more kvs) hz) hs (rel2.merge rel) dd')
theorem for_items {d : Addr} {od : Obj} {kvs : List (Key × V)} {g : TG} {tb : TS} {D : Ends} {σ : St} {H : Hp} (Pv : Nat → St → Hp → Prop) (h0 : Pv 0 σ H) (hl : ∀ i σ H, i ≤ kvs.length → Pv i σ H → H d = some (.frz od (.dK kvs)))
    (hs : ∀ i k v σ H T, kvs[i]? = some (k, v) → Pv i σ H → H T = none → g (.ref T) σ (upd H T (.tup [kV k, v])) fun σ2 H2 => tb { D with nx := Pv (i + 1), ct := Pv (i + 1), bk := D.nx } σ2 H2) (hd : ∀ σ H, Pv kvs.length σ H → D.nx σ H) :
    ∃ W : Nat → Nat → St → Hp → Prop, (∃ m, W 0 m σ H) ∧ ∀ i m σ H, W i m σ H →
      ((Iti d od kvs).stop i H ∧ D.nx σ H) ∨ ((Iti d od kvs).go i H ∧ ∃ N : St → Hp → Prop, (∀ σ' H', N σ' H' → ∃ m', m' < m ∧ W (i + 1) m' σ' H') ∧ ∀ x H', (Iti d od kvs).yld i H x H' → g x σ H' fun σ2 H2 => tb { D with nx := N, ct := N, bk := D.nx } σ2 H2) := by
  refine ⟨fun i m σ H => i + m = kvs.length ∧ Pv i σ H, ⟨kvs.length, Nat.zero_add _, h0⟩, ?_⟩
  rintro i m σ H ⟨hm, p⟩
  have q := hl i σ H (by omega) p
  by_cases hlt : i < kvs.length
  · refine .inr ⟨⟨q, hlt⟩, Pv (i + 1), fun σ' H' p' => ⟨m - 1, by omega, by omega, p'⟩, fun x H' y => ?_⟩
    obtain ⟨T, k, v, e1, e2, e3, e4⟩ := y
    subst e2 e4
    exact hs i k v σ H T e1 p e3
  · refine .inl ⟨⟨q, by omega⟩, hd σ H ?_⟩
    have e : i = kvs.length := by omega
    rw [← e]; exact p
end L2
end
section
set_option Elab.async false
set_option linter.all false
set_option maxRecDepth 100000
set_option maxHeartbeats 2000000
namespace Hl
open PySem PySem.Spec PyProof.Rows L2
open Kp261 (Seam Yard seamAt nums)
def top (i : Nat) : Stmt := PySem.Challenge.pw_hullseams_s01_answers.main.body.getD i (.Pass ⟨0, 0, 0, 0⟩)
def sf (s : Seam) : List (Str × V) := [("x", .int s.x), ("y", .int s.y), ("strain", .int s.strain), ("welded", .bl s.welded), ("locked", .bl s.locked)]
def hf (b : Bool) (n : Nat) (l : Addr) : List (Str × V) := [("begun", .bl b), ("part_count", .int n), ("seams", .ref l)]
theorem sf_x (s : Seam) : (sf s).lookup ("x" : Str) = some (.int s.x) := rfl
theorem sf_y (s : Seam) : (sf s).lookup ("y" : Str) = some (.int s.y) := rfl
theorem sf_strain (s : Seam) : (sf s).lookup ("strain" : Str) = some (.int s.strain) := rfl
theorem sf_welded (s : Seam) : (sf s).lookup ("welded" : Str) = some (.bl s.welded) := rfl
theorem sf_locked (s : Seam) : (sf s).lookup ("locked" : Str) = some (.bl s.locked) := rfl
theorem hf_begun (b : Bool) (n : Nat) (l : Addr) : (hf b n l).lookup ("begun" : Str) = some (.bl b) := rfl
theorem hf_parts (b : Bool) (n : Nat) (l : Addr) : (hf b n l).lookup ("part_count" : Str) = some (.int n) := rfl
theorem hf_seams (b : Bool) (n : Nat) (l : Addr) : (hf b n l).lookup ("seams" : Str) = some (.ref l) := rfl
theorem put_welded (s : Seam) (b : Bool) : putF "welded" (.bl b) (sf s) = sf { s with welded := b } := rfl
theorem put_locked (s : Seam) (b : Bool) : putF "locked" (.bl b) (sf s) = sf { s with locked := b } := rfl
theorem put_strain (s : Seam) (n : Nat) : putF "strain" (.int n) (sf s) = sf { s with strain := n } := rfl
theorem put_parts (b : Bool) (n n' : Nat) (l : Addr) : putF "part_count" (.int n') (hf b n l) = hf b n' l := rfl
def SeamAt (S : Addr) (H : Hp) (a : Addr) (s : Seam) : Prop := ∃ dx, H a = some (.ins S dx (sf s))
structure HullAt (C S : Addr) (H : Hp) (h l : Addr) (b : Bool) (y : Yard) : Prop where
  ex : ∃ (dx : Addr) (as : List Addr), H h = some (.ins C dx (hf b y.parts l)) ∧ H l = some (.lst (as.map V.ref)) ∧ as.Nodup ∧ as.length = y.seams.length ∧ ∀ (j : Nat) (a : Addr), as[j]? = some a → ∃ s, y.seams[j]? = some s ∧ SeamAt S H a s
theorem HullAt.same {C S : Addr} {H H' : Hp} {h l : Addr} {b : Bool} {y : Yard} (A : HullAt C S H h l b y) (s : ∀ c o, H c = some o → (∀ ps, o ≠ .tbl ps) → H' c = some o) : HullAt C S H' h l b y := by
  obtain ⟨dx, as, h1, h2, h3, h4, h5⟩ := A.ex
  refine ⟨dx, as, s _ _ h1 (fun _ z => by cases z), s _ _ h2 (fun _ z => by cases z), h3, h4, fun j a e => ?_⟩
  obtain ⟨t, e1, d, e2⟩ := h5 j a e
  exact ⟨t, e1, d, s _ _ e2 (fun _ z => by cases z)⟩
abbrev nl (l : List Nat) : List V := (Kp261.ints l).map V.int
theorem nl_len (l : List Nat) : (nl l).length = l.length := by unfold nl Kp261.ints; rw [List.length_map, List.length_map]
theorem nl_at {l : List Nat} {i : Nat} {x : V} (h : (nl l)[i]? = some x) : ∃ k, l[i]? = some k ∧ x = V.int (k : Int) := by
  unfold nl Kp261.ints at h
  rw [List.map_map, List.getElem?_map] at h
  cases e : l[i]? with
  | none => rw [e] at h; cases h
  | some k => rw [e] at h; exact ⟨k, rfl, (Option.some.inj h).symm⟩
theorem nl_snoc (l : List Nat) (k : Nat) : nl (l ++ [k]) = nl l ++ [V.int (k : Int)] := by unfold nl Kp261.ints; simp
theorem take_snoc {α : Type} : ∀ {l : List α} {i : Nat} {x : α}, l[i]? = some x → l.take (i + 1) = l.take i ++ [x]
  | [], i, x, h => by simp at h
  | a :: l, 0, x, h => by
    have e : a = x := Option.some.inj h
    subst e
    rfl
  | a :: l, i + 1, x, h => by
    have ih := take_snoc (l := l) (i := i) (x := x) (by simpa using h)
    rw [List.take_succ_cons, List.take_succ_cons, ih]
    rfl
structure NewL (H H' : Hp) (p : Addr) (xs : List V) : Prop where
  sm : Same H H'
  at_ : H' p = some (.lst xs)
  fr : H p = none
theorem same_upd {H H1 : Hp} {p : Addr} {o : HO} (s : Same H H1) (n : H1 p = none) : Same H (upd H1 p o) := fun b u e => by
  have e1 := s b u e
  rw [upd_ne (ne_of_none e1 n)]; exact e1
theorem same_new {H : Hp} {p : Addr} {o : HO} (n : H p = none) : Same H (upd H p o) := same_upd (Same.refl H) n
theorem Same.hull {C S : Addr} {H H' : Hp} {h l : Addr} {b : Bool} {y : Yard} (s : Same H H') (A : HullAt C S H h l b y) : HullAt C S H' h l b y := A.same fun c o e _ => s c o e
structure Ext (TB : Hp → Prop) (H H' : Hp) : Prop where
  keep : ∀ c o, H c = some o → (∀ ps, o ≠ .tbl ps) → H' c = some o
  tb : TB H → TB H'
def GInt (mg : Str → Option Value) (x : Str) (n : Int) : Prop := ∃ u, mg x = some u ∧ RelV (.int n) u
theorem pe_gint {X : Cx} {x : Str} {n : Int} {pos : Pos} (g : GInt X.mg x n) (hg : Gl X x) (hd : (x == ("__debug__" : Str)) = false := by decide) : PE X (.Name x pos) (tC (.int n)) := by
  obtain ⟨u, e, r⟩ := g
  exact pe_glob hg e r hd
structure Txt (K : PySem.W.Frag) (mg : Str → Option Value) (C S : Addr) : Prop where
  clC : Cls K C
  clS : Cls K S
  nb : NoAttr K C "begun"
  np : NoAttr K C "part_count"
  ns : NoAttr K C "seams"
  nx : NoAttr K S "x"
  ny : NoAttr K S "y"
  nt : NoAttr K S "strain"
  nw : NoAttr K S "welded"
  nk : NoAttr K S "locked"
  mgC : mg "Hull" = some (.ref C)
  mgS : mg "Seam" = some (.ref S)
  cP : GInt mg "MOST_PARTS" 7
  cS : GInt mg "MOST_SEAMS" 10
  cT : GInt mg "MOST_STRAIN" 1000
  cNo : GInt mg "NO_SUCH" (-2)
  cNw : GInt mg "NOT_WELDED" (-6)
  cNb : GInt mg "NOT_BEGUN" (-11)
  cWa : GInt mg "WELDED_ALREADY" (-17)
  cOb : GInt mg "OUT_OF_BOUNDS" (-22)
  cFu : GInt mg "FULL" (-28)
  cAw : GInt mg "ALL_WELDED" (-6)
  cNt : GInt mg "NOT_TOGETHER" (-33)
  blen : mg "len" = none
  bsum : mg "sum" = none
  benum : mg "enumerate" = none
  brange : mg "range" = none
  blist : mg "list" = none
  bsorted : mg "sorted" = none
  bset : mg "set" = none
  bmin : mg "min" = none
end Hl
end
section
set_option Elab.async false
set_option linter.all false
set_option maxRecDepth 100000
set_option maxHeartbeats 2000000
namespace Hl
open PySem PySem.Spec PyProof.Rows L2
open Kp261 (Seam Yard seamAt nums)
variable {P : Program} {w : World} {K : PySem.W.Frag} {mg : Str → Option Value} {base : Heap}
abbrev sIsPart : Stmt := top 14
def spIsPart (C S : Addr) : Sp := fun vs H Q _ => ∃ (h l : Addr) (x : Int) (b : Bool) (y : Yard), vs = [.ref h, .int x] ∧ HullAt C S H h l b y ∧ Q (.bl (decide (0 ≤ x ∧ x < (y.parts : Int)))) H
theorem scIsPart : FnScope ["hull", "x"] ["hull", "x"] (defScope sIsPart) := ⟨rfl, rfl, rfl, by decide +kernel, rfl, by decide +kernel, by decide +kernel⟩
theorem bl_and {a b : Prop} [Decidable a] [Decidable b] (Q : V → Prop) (h : Q (.bl (decide (a ∧ b)))) : if decide a = true then Q (.bl (decide b)) else Q (.bl false) := by
  refine ite2 (fun e => ?_) (fun e => ?_)
  · have ea : a := of_decide_eq_true e
    have : decide (a ∧ b) = decide b := by simp [ea]
    rw [this] at h; exact h
  · have ea : ¬ a := fun z => e (decide_eq_true z)
    have : decide (a ∧ b) = false := by simp [ea]
    rw [this] at h; exact h
theorem ok_isPart {C S f : Addr} {fd : FuncData} (F : Fun K "is_part" "is_part" sIsPart f fd) (T : Txt K mg C S) : FnOk P w K mg base CX0 1 f fd ["hull", "x"] (spIsPart C S) := by
  refine F.ok scIsPart (fun vs H Q E h => ?_) (fun cdv A outer s H vs Q E hr h => ?_)
  · obtain ⟨h, l, x, b, y, rfl, _⟩ := h
    rfl
  · obtain ⟨h, l, x, b, y, rfl, hH, q⟩ := h
    refine ⟨_, pss_one (ps_ret (pe_chain op_le op_lt pe_int (pv 1) (pe_fld (pv 0) rfl))), ?_⟩
    obtain ⟨dx, as, h1, _⟩ := hH.ex
    refine ⟨_, rfl, _, _, rfl, rfl, _, rfl, ?_⟩
    have e := bl_and (a := (0 : Int) ≤ x) (b := x < (y.parts : Int)) (fun v => Q v H) q
    refine ite2 (fun c => ?_) (fun c => ?_)
    · rw [if_pos c] at e
      exact ⟨_, rfl, h, C, dx, _, _, rfl, h1, T.clC, T.np, hf_parts _ _ _, _, _, rfl, rfl, e⟩
    · rw [if_neg c] at e
      exact e
abbrev sIsSeam : Stmt := top 15
def spIsSeam (C S : Addr) : Sp := fun vs H Q _ => ∃ (h l : Addr) (x : Int) (b : Bool) (y : Yard), vs = [.ref h, .int x] ∧ HullAt C S H h l b y ∧ Q (.bl (decide (0 ≤ x ∧ x < (y.seams.length : Int)))) H
theorem scIsSeam : FnScope ["hull", "k"] ["hull", "k"] (defScope sIsSeam) := ⟨rfl, rfl, rfl, by decide +kernel, rfl, by decide +kernel, by decide +kernel⟩
theorem ok_isSeam {C S f : Addr} {fd : FuncData} (F : Fun K "is_seam" "is_seam" sIsSeam f fd) (T : Txt K mg C S) : FnOk P w K mg base CX0 1 f fd ["hull", "k"] (spIsSeam C S) := by
  refine F.ok scIsSeam (fun vs H Q E h => ?_) (fun cdv A outer s H vs Q E hr h => ?_)
  · obtain ⟨h, l, x, b, y, rfl, _⟩ := h
    rfl
  · obtain ⟨h, l, x, b, y, rfl, hH, q⟩ := h
    refine ⟨_, pss_one (ps_ret (pe_chain op_le op_lt pe_int (pv 1) (pe_callB call_len_seq (by rfl) T.blen PySem.boot_len (pa_cons (pe_fld (pv 0) rfl) pa_nil)))), ?_⟩
    obtain ⟨dx, as, h1, h2, _, h4, _⟩ := hH.ex
    refine ⟨_, rfl, _, _, rfl, rfl, _, rfl, ?_⟩
    have e := bl_and (a := (0 : Int) ≤ x) (b := x < (y.seams.length : Int)) (fun v => Q v H) q
    refine ite2 (fun c => ?_) (fun c => ?_)
    · rw [if_pos c] at e
      refine ⟨_, rfl, h, C, dx, _, _, rfl, h1, T.clC, T.ns, hf_seams _ _ _, l, _, rfl, .inl (SqL.of h2), _, _, rfl, rfl, ?_⟩
      rw [List.length_map, h4]
      exact e
    · rw [if_neg c] at e
      exact e
abbrev sIsStrain : Stmt := top 16
def spIsStrain : Sp := fun vs H Q _ => ∃ x : Int, vs = [.int x] ∧ Q (.bl (decide (1 ≤ x ∧ x ≤ 1000))) H
theorem scIsStrain : FnScope ["s"] ["s"] (defScope sIsStrain) := ⟨rfl, rfl, rfl, by decide +kernel, rfl, by decide +kernel, by decide +kernel⟩
theorem ok_isStrain {C S f : Addr} {fd : FuncData} (F : Fun K "is_strain" "is_strain" sIsStrain f fd) (T : Txt K mg C S) : FnOk P w K mg base CX0 1 f fd ["s"] spIsStrain := by
  refine F.ok scIsStrain (fun vs H Q E h => ?_) (fun cdv A outer s H vs Q E hr h => ?_)
  · obtain ⟨x, rfl, _⟩ := h
    rfl
  · obtain ⟨x, rfl, q⟩ := h
    refine ⟨_, pss_one (ps_ret (pe_chain op_le op_le pe_int (pv 0) (pe_gint T.cT rfl))), ?_⟩
    refine ⟨_, rfl, _, _, rfl, rfl, _, rfl, ?_⟩
    have e := bl_and (a := (1 : Int) ≤ x) (b := x ≤ 1000) (fun v => Q v H) q
    refine ite2 (fun c => ?_) (fun c => ?_)
    · rw [if_pos c] at e
      exact ⟨_, _, rfl, rfl, e⟩
    · rw [if_neg c] at e
      exact e
abbrev sCounted : Stmt := top 32
def spCounted : Sp := fun vs H Q _ => ∃ (a : Addr) (ns : List Int), vs = [.ref a] ∧ H a = some (.lst (ns.map V.int)) ∧ ns.length ≤ 1000 ∧ ∀ (p : Addr) (H' : Hp), NewL H H' p (((ns.length : Int) :: ns).map V.int) → Q (.ref p) H'
theorem scCounted : FnScope ["numbers"] ["numbers"] (defScope sCounted) := ⟨rfl, rfl, rfl, by decide +kernel, rfl, by decide +kernel, by decide +kernel⟩
theorem ok_counted {C S f : Addr} {fd : FuncData} (F : Fun K "counted" "counted" sCounted f fd) (T : Txt K mg C S) : FnOk P w K mg base CX0 1 f fd ["numbers"] spCounted := by
  refine F.ok scCounted (fun vs H Q E h => ?_) (fun cdv A outer s H vs Q E hr h => ?_)
  · obtain ⟨a, ns, rfl, _⟩ := h
    rfl
  · obtain ⟨a, ns, rfl, ha, hz, k⟩ := h
    refine ⟨_, pss_one (ps_ret (pe_op op_cat (pe_lst (pa_cons (pe_callB call_len_seq (by rfl) T.blen PySem.boot_len (pa_cons (pv 0) pa_nil)) pa_nil)) (pv 0))), ?_⟩
    refine ⟨_, rfl, a, _, rfl, .inl (SqL.of ha), (by show 1 ≤ sizeLine; decide), fun p hp => ⟨_, rfl, p, a, _, _, rfl, rfl, upd_same, by rw [upd_ne (ne_of_none ha hp)]; exact ha, ?_, fun r hr => k r _ ⟨same_upd (same_new hp) hr, ?_, (same_new hp).free hr⟩⟩⟩
    · rw [List.length_map]; show 1 + ns.length ≤ sizeLine; rw [sizeLine_eq]; omega
    · rw [upd_same, List.length_map]; rfl
abbrev sInitS : Stmt := inClass (top 12) 0
def spInitS (S : Addr) : Sp := fun vs H Q _ => ∃ (p dx : Addr) (x z s : Nat), vs = [.ref p, .int x, .int z, .int s] ∧ H p = some (.ins S dx []) ∧ ∀ H' : Hp, SeamAt S H' p ⟨x, z, s, false, false⟩ → (∀ b o, H b = some o → b ≠ p → H' b = some o) → Q .non H'
theorem scInitS : FnScope ["self", "x", "y", "strain"] ["self", "x", "y", "strain"] (defScope sInitS) := ⟨rfl, rfl, rfl, by decide +kernel, rfl, by decide +kernel, by decide +kernel⟩
theorem ok_initS {C S f : Addr} {fd : FuncData} (F : Fun K "__init__" "Seam.__init__" sInitS f fd) (T : Txt K mg C S) : FnOk P w K mg base CX0 1 f fd ["self", "x", "y", "strain"] (spInitS S) := by
  refine F.ok scInitS (fun vs H Q E h => ?_) (fun cdv A outer s H vs Q E hr h => ?_)
  · obtain ⟨p, dx, x, z, s, rfl, _⟩ := h
    rfl
  · obtain ⟨p, dx, x, z, st, rfl, hp, k⟩ := h
    refine ⟨_, pss_cons (ps_fld (pv 0) (pv 1) rfl) (pss_cons (ps_fld (pv 0) (pv 2) rfl) (pss_cons (ps_fld (pv 0) (pv 3) rfl) (pss_cons (ps_fld (pv 0) pe_bl rfl) (pss_one (ps_fld (pv 0) pe_bl rfl))))), ?_⟩
    refine ⟨_, rfl, _, rfl, p, S, dx, _, rfl, hp, T.clS, T.nx, (by decide), ?_⟩
    refine ⟨_, rfl, _, rfl, p, S, dx, _, rfl, upd_same, T.clS, T.ny, (by show 1 < 1000; decide), ?_⟩
    refine ⟨_, rfl, _, rfl, p, S, dx, _, rfl, upd_same, T.clS, T.nt, (by show 2 < 1000; decide), ?_⟩
    refine ⟨_, rfl, p, S, dx, _, rfl, upd_same, T.clS, T.nw, (by show 3 < 1000; decide), ?_⟩
    refine ⟨_, rfl, p, S, dx, _, rfl, upd_same, T.clS, T.nk, (by show 4 < 1000; decide), ?_⟩
    exact k _ ⟨dx, upd_same⟩ fun b o e hb => by rw [upd_ne hb, upd_ne hb, upd_ne hb, upd_ne hb, upd_ne hb]; exact e
abbrev sInitH : Stmt := inClass (top 13) 0
def spInitH (C S : Addr) : Sp := fun vs H Q _ => ∃ (p dx : Addr), vs = [.ref p] ∧ H p = some (.ins C dx []) ∧ ∀ (H' : Hp) (l : Addr), HullAt C S H' p l false ⟨0, []⟩ → H l = none → (∀ b o, H b = some o → b ≠ p → H' b = some o) → Q .non H'
theorem scInitH : FnScope ["self"] ["self"] (defScope sInitH) := ⟨rfl, rfl, rfl, by decide +kernel, rfl, by decide +kernel, by decide +kernel⟩
theorem ok_initH {C S f : Addr} {fd : FuncData} (F : Fun K "__init__" "Hull.__init__" sInitH f fd) (T : Txt K mg C S) : FnOk P w K mg base CX0 1 f fd ["self"] (spInitH C S) := by
  refine F.ok scInitH (fun vs H Q E h => ?_) (fun cdv A outer s H vs Q E hr h => ?_)
  · obtain ⟨p, dx, rfl, _⟩ := h
    rfl
  · obtain ⟨p, dx, rfl, hp, k⟩ := h
    refine ⟨_, pss_cons (ps_fld (pv 0) pe_bl rfl) (pss_cons (ps_fld (pv 0) pe_int rfl) (pss_one (ps_fld (pv 0) (pe_lst pa_nil) rfl))), ?_⟩
    refine ⟨_, rfl, p, C, dx, _, rfl, hp, T.clC, T.nb, (by decide), ?_⟩
    refine ⟨_, rfl, p, C, dx, _, rfl, upd_same, T.clC, T.np, (by show 1 < 1000; decide), ?_⟩
    refine ⟨Nat.zero_le _, fun l hl => ?_⟩
    have nl : l ≠ p := fun z => by rw [z, upd_same] at hl; cases hl
    have nl0 : H l = none := by rw [upd_ne nl, upd_ne nl] at hl; exact hl
    have np : p ≠ l := fun z => nl z.symm
    refine ⟨_, rfl, p, C, dx, _, rfl, (by rw [upd_ne np]; exact upd_same), T.clC, T.ns, (by show 2 < 1000; decide), ?_⟩
    refine k _ l ⟨dx, [], upd_same, ?_, .nil, rfl, fun j a e => by simp at e⟩ nl0 fun b o e hb => ?_
    · rw [upd_ne nl, upd_same]; rfl
    · rw [upd_ne hb, upd_ne (ne_of_none e nl0), upd_ne hb, upd_ne hb]; exact e
end Hl
end
section
set_option Elab.async false
set_option linter.all false
set_option maxRecDepth 100000
set_option maxHeartbeats 2000000
namespace L2
open PySem PySem.Spec PyProof.Rows
theorem yes_ok {A B : Hp → Prop} {σ : St} {H : Hp} (h : A H) : tYes σ H (fun b H3 => if b = true then A H3 else B H3) := iteT (B := B H) h
theorem lc_enum {K : PySem.W.Frag} {a : Addr} {xs : List V} {g : TG} {tt : TT} {te : TE} {vs : List Nat} {σ : St} {H1 : Hp} {D : Addr} {Qd : Hp → Prop} (Pv : Nat → Hp → Prop) (h0 : Pv 0 (upd H1 D (.lst [])))
    (hl : ∀ i H, i ≤ xs.length → Pv i H → SqL K H a xs)
    (hs : ∀ i x H T, xs[i]? = some x → Pv i H → H T = none → g (.ref T) (wipe σ vs) (upd H T (.tup [.int (i : Nat), x])) fun σ2 H2 => wipe σ2 vs = wipe σ vs ∧ tt σ2 H2 fun b H3 => if b = true then te σ2 H3 fun y H4 => ∃ acc, H4 D = some (.lst acc) ∧ acc.length < sizeLine ∧ Pv (i + 1) (upd H4 D (.lst (acc ++ [y]))) else Pv (i + 1) H3)
    (hd : ∀ H, Pv xs.length H → Qd H) : ∃ W : Nat → Nat → Hp → Prop, (∃ m, W 0 m (upd H1 D (.lst []))) ∧ ∀ i m H, W i m H →
      ((Ite K a).stop i H ∧ Qd H) ∨ ((Ite K a).go i H ∧ ∃ Nx : Hp → Prop, (∀ H', Nx H' → ∃ m', m' < m ∧ W (i + 1) m' H') ∧ ∀ x H', (Ite K a).yld i H x H' → g x (wipe σ vs) H' fun σ2 H2 => wipe σ2 vs = wipe σ vs ∧ tt σ2 H2 fun b H3 =>
        if b = true then te σ2 H3 fun y H4 => ∃ acc, H4 D = some (.lst acc) ∧ acc.length < sizeLine ∧ Nx (upd H4 D (.lst (acc ++ [y]))) else Nx H3) := by
  refine ⟨fun i m H => i + m = xs.length ∧ Pv i H, ⟨xs.length, Nat.zero_add _, h0⟩, fun i m H ⟨hm, hp⟩ => ?_⟩
  have q1 := hl i H (by omega) hp
  by_cases hi : i < xs.length
  · have hx : xs[i]? = some xs[i] := List.getElem?_eq_getElem hi
    refine .inr ⟨⟨xs, xs[i], q1, hx⟩, Pv (i + 1), fun H' hp' => ⟨m - 1, by omega, by omega, hp'⟩, fun v H' hy => ?_⟩
    obtain ⟨T, x, rfl, hT, rfl, hx'⟩ := hy
    exact hs i x H T (hx' xs q1) hp hT
  · have e : i = xs.length := by omega
    refine .inl ⟨⟨xs, q1, by omega⟩, hd H ?_⟩
    rw [← e]; exact hp
end L2
namespace Hl
open PySem PySem.Spec PyProof.Rows L2
open Kp261 (Seam Yard seamAt nums)
variable {P : Program} {w : World} {K : PySem.W.Frag} {mg : Str → Option Value} {base : Heap}
theorem ints_at' {ms : List Int} {i : Nat} (h : i < ms.length) : (ms.map V.int)[i]? = some (V.int (ms.getD i 0)) := by
  rw [List.getElem?_map, List.getD_eq_getElem?_getD, List.getElem?_eq_getElem h]
  rfl
abbrev sJoined : Stmt := top 19
def spJoined (S : Addr) : Sp := fun vs H Q _ => ∃ (m a : Addr) (ms : List Int) (s : Seam), vs = [.ref m, .ref a] ∧ H m = some (.lst (ms.map V.int)) ∧ SeamAt S H a s ∧ s.x < ms.length ∧ s.y < ms.length ∧ ms.length ≤ 1000 ∧
  ∀ (p : Addr) (H' : Hp), NewL H H' p ((Hs.joined ms s).map V.int) → Q (.ref p) H'
theorem scJoined : FnScope ["marks", "seam", "kept", "lost", "mark"] ["marks", "seam"] (defScope sJoined) := ⟨rfl, rfl, rfl, by decide +kernel, rfl, by decide +kernel, by decide +kernel⟩
theorem ok_joined {C S f : Addr} {fd : FuncData} (F : Fun K "joined" "joined" sJoined f fd) (T : Txt K mg C S) : FnOk P w K mg base CX0 1 f fd ["marks", "seam"] (spJoined S) := by
  refine F.ok scJoined (fun vs H Q E h => ?_) (fun cdv A outer s H vs Q E hr h => ?_)
  · obtain ⟨m, a, ms, t, rfl, _⟩ := h
    rfl
  · obtain ⟨m, a, ms, t, rfl, hm, ⟨dx, ha⟩, hx, hy, hz, k⟩ := h
    refine ⟨_, pss_cons (ps_set (i := 2) scJoined.nd rfl (Or.inr rfl) (pe_ix ix_list (pv 0) (pe_fld (pv 1) rfl) (fun _ _ => rfl)))
      (pss_cons (ps_set (i := 3) scJoined.nd rfl (Or.inr rfl) (pe_ix ix_list (pv 0) (pe_fld (pv 1) rfl) (fun _ _ => rfl)))
      (pss_one (ps_ret (pe_lc (own := [("mark", 4)]) rfl scJoined.nd (pi_list (pv 0)) (blkOk_by (by rfl)) (fun _ _ _ _ _ => pg_name (i := 4) scJoined.nd rfl (Or.inl rfl)) (fun _ _ _ _ _ => pts_nil)
        (fun _ _ _ _ _ => pe_ifExp (pt_cmpR op_eq (pv 4) (pv 3) (nomark _)) (pv 2) (pv 4)))))), ?_⟩
    refine ⟨_, rfl, _, rfl, a, S, dx, _, _, rfl, ha, T.clS, T.nx, sf_x _, m, _, _, _, rfl, rfl, SqL.of hm, atI_nat (ints_at' hx), ?_⟩
    refine ⟨_, rfl, _, rfl, a, S, dx, _, _, rfl, ha, T.clS, T.ny, sf_y _, m, _, _, _, rfl, rfl, SqL.of hm, atI_nat (ints_at' hy), ?_⟩
    refine ⟨_, rfl, m, rfl, ⟨_, SqL.of hm⟩, fun D hD => lc_list (xs := ms.map V.int) (fun i H' => Same H H' ∧ H' D = some (.lst (((Hs.joined ms t).take i).map V.int))) ⟨same_new hD, upd_same⟩ (fun i H' _ h' => SqL.of (h'.1 _ _ hm)) (fun i x H' hx' h' => ?_) (fun H' h' => k D H' ⟨h'.1, ?_, hD⟩)⟩
    · have hi : i < ms.length := by
        have := (List.getElem?_eq_some_iff.mp hx').1
        rwa [List.length_map] at this
      rw [ints_at' hi] at hx'
      obtain rfl := Option.some.inj hx'
      have hJ : (Hs.joined ms t)[i]? = some (if ms.getD i 0 = ms.getD t.y 0 then ms.getD t.x 0 else ms.getD i 0) := by
        unfold Hs.joined
        rw [List.getElem?_map, List.getElem?_eq_getElem hi]
        have e : ms[i] = ms.getD i 0 := by rw [List.getD_eq_getElem?_getD, List.getElem?_eq_getElem hi]; rfl
        rw [e]; rfl
      have fin : ∀ z, (if ms.getD i 0 = ms.getD t.y 0 then ms.getD t.x 0 else ms.getD i 0) = z → ∃ acc, H' D = some (.lst acc) ∧ acc.length < sizeLine ∧ Same H (upd H' D (.lst (acc ++ [V.int z]))) ∧ upd H' D (.lst (acc ++ [V.int z])) D = some (.lst (((Hs.joined ms t).take (i + 1)).map V.int)) := fun z ez => by
        refine ⟨_, h'.2, ?_, fun b o e => ?_, ?_⟩
        · rw [List.length_map]
          refine Nat.lt_of_le_of_lt (List.length_take_le _ _) ?_
          exact small1000 (by omega)
        · rw [upd_ne (ne_of_none e hD)]; exact h'.1 b o e
        · rw [upd_same, take_snoc hJ, ez, List.map_append]; rfl
      refine ⟨rfl, yes_ok ?_⟩
      refine ⟨_, rfl, _, rfl, rfl, _, rfl, ?_⟩
      refine ite2 (fun c => ?_) (fun c => ?_)
      · have c' : V.int (ms.getD i 0) = V.int (ms.getD t.y 0) := of_decide_eq_true c
        injection c' with c'
        exact ⟨_, rfl, fin _ (by rw [if_pos c'])⟩
      · have c' : ¬ ms.getD i 0 = ms.getD t.y 0 := fun z => c (decide_eq_true (by rw [z]))
        exact ⟨_, rfl, fin _ (by rw [if_neg c'])⟩
    · have hl : (Hs.joined ms t).length = (ms.map V.int).length := by unfold Hs.joined; rw [List.length_map, List.length_map]
      rw [h'.2, ← hl, List.take_length]
abbrev sByWeld : Stmt := top 17
def numsBy (y : Yard) (b : Bool) : List Nat := (nums y).filter fun k => (seamAt y k).welded == b
def spByWeld (C S : Addr) : Sp := fun vs H Q _ => ∃ (h l : Addr) (b wd : Bool) (y : Yard), vs = [.ref h, .bl wd] ∧ HullAt C S H h l b y ∧ y.seams.length ≤ 10 ∧ ∀ (p : Addr) (H' : Hp), NewL H H' p (nl (numsBy y wd)) → Q (.ref p) H'
theorem scByWeld : FnScope ["hull", "welded", "k", "seam"] ["hull", "welded"] (defScope sByWeld) := ⟨rfl, rfl, rfl, by decide +kernel, rfl, by decide +kernel, by decide +kernel⟩
def byTo (y : Yard) (b : Bool) (i : Nat) : List Nat := (List.range i).filter fun k => (seamAt y k).welded == b
theorem byTo_succ (y : Yard) (b : Bool) (i : Nat) : byTo y b (i + 1) = if (seamAt y i).welded == b then byTo y b i ++ [i] else byTo y b i := by
  unfold byTo
  rw [List.range_succ, List.filter_append]
  by_cases h : ((seamAt y i).welded == b) = true
  · rw [if_pos h, List.filter_cons, if_pos h]; rfl
  · rw [if_neg h, List.filter_cons, if_neg h]; simp
theorem byTo_len (y : Yard) (b : Bool) (i : Nat) : (byTo y b i).length ≤ i := by
  unfold byTo
  refine Nat.le_trans (List.length_filter_le _ _) ?_
  rw [List.length_range]; exact Nat.le_refl _
theorem ok_byWeld {C S f : Addr} {fd : FuncData} (F : Fun K "seams_by_weld" "seams_by_weld" sByWeld f fd) (T : Txt K mg C S) : FnOk P w K mg base CX0 1 f fd ["hull", "welded"] (spByWeld C S) := by
  refine F.ok scByWeld (fun vs H Q E h => ?_) (fun cdv A outer s H vs Q E hr h => ?_)
  · obtain ⟨h, l, b, wd, y, rfl, _⟩ := h
    rfl
  · obtain ⟨h, l, b, wd, y, rfl, hH, hz, k⟩ := h
    obtain ⟨dx, as, h1, h2, h3, h4, h5⟩ := hH.ex
    refine ⟨_, pss_one (ps_ret (pe_lc (own := [("k", 2), ("seam", 3)]) (g := gTup K 2 (gCons (gName 2) (gCons (gName 3) gNil))) (tt := tTest (tOp rEq (tFld K (tVar 3) "welded") (tVar 1))) rfl scByWeld.nd (pi_enum rfl T.benum (pa_cons (pe_fld (pv 0) rfl) pa_nil)) (blkOk_by (by rfl))
      (fun _ _ _ _ _ => pg_tup rfl (pgs_cons (pg_name (i := 2) scByWeld.nd rfl (Or.inl rfl)) (pgs_cons (pg_name (i := 3) scByWeld.nd rfl (Or.inl rfl)) pgs_nil)))
      (fun _ _ _ _ _ => pts_one (pt_cmpR op_eq (pe_fld (pv 3) rfl) (pv 1) (nomark _))) (fun _ _ _ _ _ => pv 2))), ?_⟩
    refine ⟨_, rfl, h, C, dx, _, _, rfl, h1, T.clC, T.ns, hf_seams _ _ _, l, _, rfl, SqL.of h2, fun D hD => lc_enum (xs := as.map V.ref) (fun i H' => Same H H' ∧ H' D = some (.lst (nl (byTo y wd i)))) ⟨same_new hD, upd_same⟩ (fun i H' _ h' => SqL.of (h'.1 _ _ h2)) (fun i x H' U hx h' hU => ?_) (fun H' h' => k D H' ⟨h'.1, ?_, hD⟩)⟩
    · rw [List.getElem?_map] at hx
      cases ea : as[i]? with
      | none => rw [ea] at hx; cases hx
      | some a =>
        rw [ea] at hx
        obtain rfl : V.ref a = x := Option.some.inj hx
        obtain ⟨t, ht, dt, hat⟩ := h5 i a ea
        have hi : i < y.seams.length := (List.getElem?_eq_some_iff.mp ht).1
        have et : seamAt y i = t := Hs.seamAt_eq ht
        have hDU : D ≠ U := ne_of_none h'.2 hU
        refine ⟨U, _, rfl, SqT.of upd_same, rfl, _, _, rfl, _, _, rfl, rfl, rfl, ?_⟩
        have hat' : upd H' U (.tup [.int (i : Nat), .ref a]) a = some (.ins S dt (sf t)) := by
          rw [upd_ne (ne_of_none (h'.1 _ _ hat) hU)]; exact h'.1 _ _ hat
        have sm : Same H (upd H' U (.tup [.int (i : Nat), .ref a])) := same_upd h'.1 hU
        have hDD : upd H' U (.tup [.int (i : Nat), .ref a]) D = some (.lst (nl (byTo y wd i))) := by rw [upd_ne hDU]; exact h'.2
        refine ⟨_, rfl, a, S, dt, _, _, rfl, hat', T.clS, T.nw, sf_welded _, _, rfl, rfl, _, rfl, ?_⟩
        refine ite2 (fun c => ?_) (fun c => ?_)
        · have c' : V.bl t.welded = V.bl wd := of_decide_eq_true c
          injection c' with c'
          refine ⟨_, rfl, _, hDD, ?_, fun b o e => ?_, ?_⟩
          · rw [nl_len]; exact small1000 (by have := byTo_len y wd i; omega)
          · rw [upd_ne (ne_of_none e hD)]; exact sm b o e
          · rw [upd_same, byTo_succ, if_pos (by rw [et, c']; exact beq_self_eq_true _), nl_snoc]
        · have c' : ¬ (t.welded == wd) = true := fun z => c (decide_eq_true (by rw [eq_of_beq z]))
          refine ⟨sm, ?_⟩
          rw [hDD, byTo_succ, if_neg (by rw [et]; exact c')]
    · rw [h'.2, List.length_map, h4]
      rfl
end Hl
end
section
set_option Elab.async false
set_option linter.all false
set_option maxRecDepth 100000
set_option maxHeartbeats 2000000
namespace Hl
open PySem PySem.Spec PyProof.Rows L2
open Kp261 (Seam Yard seamAt nums)
variable {P : Program} {w : World} {K : PySem.W.Frag} {mg : Str → Option Value} {base : Heap}
theorem HullAt.seam {C S : Addr} {H : Hp} {h l : Addr} {b : Bool} {y : Yard} {dx : Addr} {as : List Addr} (h4 : as.length = y.seams.length) (h5 : ∀ (j : Nat) (a : Addr), as[j]? = some a → ∃ s, y.seams[j]? = some s ∧ SeamAt S H a s) {k : Nat} (hk : k < y.seams.length) :
    ∃ a, as[k]? = some a ∧ (as.map V.ref)[k]? = some (V.ref a) ∧ SeamAt S H a (seamAt y k) := by
  have hk' : k < as.length := by omega
  refine ⟨as[k], List.getElem?_eq_getElem hk', by rw [List.getElem?_map, List.getElem?_eq_getElem hk']; rfl, ?_⟩
  obtain ⟨s, e1, e2⟩ := h5 k _ (List.getElem?_eq_getElem hk')
  rw [Hs.seamAt_eq e1]
  exact e2
abbrev sPieces : Stmt := top 18
def marksOf (y : Yard) (ks : List Nat) : List Int := (ks.map (seamAt y)).foldl Hs.joined ((List.range y.parts).map fun (i : Nat) => (i : Int))
theorem marksOf_snoc (y : Yard) (ks : List Nat) (k : Nat) : marksOf y (ks ++ [k]) = Hs.joined (marksOf y ks) (seamAt y k) := by
  unfold marksOf
  rw [List.map_append, List.foldl_append]
  rfl
theorem joined_len (m : List Int) (s : Seam) : (Hs.joined m s).length = m.length := by unfold Hs.joined; rw [List.length_map]
theorem foldl_len : ∀ (r : List Seam) (m : List Int), (r.foldl Hs.joined m).length = m.length
  | [], _ => rfl
  | s :: r, m => by rw [List.foldl_cons, foldl_len r, joined_len]
theorem marksOf_len (y : Yard) (ks : List Nat) : (marksOf y ks).length = y.parts := by unfold marksOf; rw [foldl_len, List.length_map, List.length_range]
def spPieces (C S : Addr) : Sp := fun vs H Q _ => ∃ (h l a : Addr) (b : Bool) (y : Yard) (ks : List Nat), vs = [.ref h, .ref a] ∧ HullAt C S H h l b y ∧ Hs.okYard y ∧ y.parts ≤ 7 ∧ H a = some (.lst (nl ks)) ∧ (∀ k, k ∈ ks → k < y.seams.length) ∧
  ∀ (p : Addr) (H' : Hp), NewL H H' p ((marksOf y ks).map V.int) → Q (.ref p) H'
theorem scPieces : FnScope ["hull", "numbers", "marks", "k"] ["hull", "numbers"] (defScope sPieces) := ⟨rfl, rfl, rfl, by decide +kernel, rfl, by decide +kernel, by decide +kernel⟩
theorem ok_pieces {C S f : Addr} {fd : FuncData} (F : Fun K "pieces_by" "pieces_by" sPieces f fd) (T : Txt K mg C S) (GJ : Prom P w K mg base 1 "joined" ["marks", "seam"] (spJoined S)) : FnOk P w K mg base CX0 2 f fd ["hull", "numbers"] (spPieces C S) := by
  refine F.ok scPieces (fun vs H Q E h => ?_) (fun cdv A outer s H vs Q E hr h => ?_)
  · obtain ⟨h, l, a, b, y, ks, rfl, _⟩ := h
    rfl
  · obtain ⟨h, l, a, b, y, ks, rfl, hH, hok, hfew, ha, hks, k⟩ := h
    obtain ⟨dx, as, h1, h2, h3, h4, h5⟩ := hH.ex
    refine ⟨_, pss_cons (ps_set (i := 2) scPieces.nd rfl (Or.inl rfl) (pe_callTy (cr_listRange rfl) rfl T.blist boot_list (pa_cons (pe_callTy cr_range rfl T.brange boot_range (pa_cons (pe_fld (pv 0) rfl) pa_nil)) pa_nil)))
      (pss_cons (ps_for PassesOwn.never rfl (pi_list (pv 1)) (pg_name (i := 3) scPieces.nd rfl (Or.inl rfl))
        (pss_one (ps_set (i := 2) scPieces.nd rfl (Or.inl rfl) (pe_prom GJ hr (Nat.le_refl _) rfl (pa_cons (pv 2) (pa_cons (pe_ix ix_list (pe_fld (pv 0) rfl) (pv 3) (fun _ _ => rfl)) pa_nil))))))
      (pss_one (ps_ret (pv 2)))), ?_⟩
    refine ⟨_, rfl, h, C, dx, _, _, rfl, h1, T.clC, T.np, hf_parts _ _ _, _, rfl, fun r hr' => ⟨r, y.parts, rfl, upd_same, by omega, fun m hm => ?_⟩⟩
    have s1 : Same H (upd (upd H r (.rng 0 y.parts)) m (.lst ((List.range y.parts).map fun (i : Nat) => V.int i))) := same_upd (same_new hr') hm
    refine ⟨_, rfl, a, rfl, ⟨_, SqL.of (s1 _ _ ha)⟩, for_list (K := K) (a := a) (xs := nl ks) (fun i σ H' => ∃ (p : Addr) (kv : Option V), σ = [some (.ref h), some (.ref a), some (.ref p), kv] ∧ Same H H' ∧ H' p = some (.lst ((marksOf y (ks.take i)).map V.int)) ∧ H p = none)
      ⟨m, none, rfl, s1, ?_, (same_new hr').free hm⟩ (fun i σ H' _ ⟨_, _, _, s5, _⟩ => SqL.of (s5 _ _ ha)) ?_ ?_⟩
    · rw [upd_same]
      show _ = some (HO.lst (((List.range y.parts).map fun (i : Nat) => (i : Int)).map V.int))
      rw [List.map_map]
      rfl
    · rintro i x σ H' hx ⟨p, kv, rfl, s5, hp, hfr⟩
      obtain ⟨kk, hk, rfl⟩ := nl_at hx
      have hkl := hks kk (List.mem_of_getElem? hk)
      obtain ⟨c, hc1, hc2, dc, hc3⟩ := HullAt.seam (C := C) (h := h) (l := l) (b := b) (dx := dx) h4 h5 hkl
      refine ⟨_, rfl, _, rfl, h, C, dx, _, _, rfl, s5 _ _ h1, T.clC, T.ns, hf_seams _ _ _, _, rfl, l, _, _, _, rfl, rfl, SqL.of (s5 _ _ h2), atI_nat hc2, ?_⟩
      refine ⟨p, c, _, seamAt y kk, rfl, hp, ⟨dc, s5 _ _ hc3⟩, ?_, ?_, ?_, fun p' H2 hN => ⟨p', _, rfl, s5.trans hN.sm, ?_, s5.free hN.fr⟩⟩
      · rw [marksOf_len]; exact (hok.at hkl).1
      · rw [marksOf_len]; exact (hok.at hkl).2
      · rw [marksOf_len]; omega
      · rw [hN.at_, take_snoc hk, marksOf_snoc]
    · rintro σ H' ⟨p, kv, rfl, s5, hp, hfr⟩
      rw [nl_len, List.take_length] at hp
      exact ⟨_, rfl, k p H' ⟨s5, hp, hfr⟩⟩
abbrev sLockedOf : Stmt := top 20
def spLockedOf (C S : Addr) : Sp := fun vs H Q _ => ∃ (h l a : Addr) (b : Bool) (y : Yard) (ks : List Nat), vs = [.ref h, .ref a] ∧ HullAt C S H h l b y ∧ Hs.okYard y ∧ y.parts ≤ 7 ∧ y.seams.length ≤ 10 ∧ H a = some (.lst (nl ks)) ∧ (∀ k, k ∈ ks → k < y.seams.length) ∧ ks.length ≤ 1000 ∧
  ∀ (p : Addr) (H' : Hp), NewL H H' p (nl (Hs.lockRec y.parts (seamAt y) (Kp261.welded y) ks)) → Q (.ref p) H'
theorem scLockedOf : FnScope ["hull", "numbers", "marks", "locked", "k", "seam"] ["hull", "numbers"] (defScope sLockedOf) := ⟨rfl, rfl, rfl, by decide +kernel, rfl, by decide +kernel, by decide +kernel⟩
theorem numsBy_true (y : Yard) : (numsBy y true).map (seamAt y) = Kp261.welded y := by
  have e : numsBy y true = Hs.wnums y := by
    unfold numsBy Hs.wnums
    refine List.filter_congr fun k _ => ?_
    cases (seamAt y k).welded <;> rfl
  rw [e]
  exact Hs.wnums_seams y
theorem numsBy_lt {y : Yard} {b : Bool} {k : Nat} (h : k ∈ numsBy y b) : k < y.seams.length := Hs.mem_nums.mp (List.mem_filter.mp h).1
theorem numsBy_len (y : Yard) (b : Bool) : (numsBy y b).length ≤ y.seams.length := byTo_len y b _
theorem marks_welded {y : Yard} (hok : Hs.okYard y) : Hs.Marks y.parts (Kp261.welded y) (marksOf y (numsBy y true)) := by
  unfold marksOf
  rw [numsBy_true]
  exact Hs.marks_fold (Kp261.welded y) [] _ (Hs.marks_start y.parts) (Hs.Ok.welded hok)
theorem ok_lockedOf {C S f : Addr} {fd : FuncData} (F : Fun K "locked_of" "locked_of" sLockedOf f fd) (T : Txt K mg C S) (GJ : Prom P w K mg base 1 "joined" ["marks", "seam"] (spJoined S)) (GB : Prom P w K mg base 1 "seams_by_weld" ["hull", "welded"] (spByWeld C S))
    (GP : Prom P w K mg base 2 "pieces_by" ["hull", "numbers"] (spPieces C S)) : FnOk P w K mg base CX0 3 f fd ["hull", "numbers"] (spLockedOf C S) := by
  refine F.ok scLockedOf (fun vs H Q E h => ?_) (fun cdv A outer s H vs Q E hr h => ?_)
  · obtain ⟨h, l, a, b, y, ks, rfl, _⟩ := h
    rfl
  · obtain ⟨h, l, a, b, y, ks, rfl, hH, hok, hfew, hfs, ha, hks, hkn, k⟩ := h
    obtain ⟨dx, as, h1, h2, h3, h4, h5⟩ := hH.ex
    refine ⟨_, pss_cons (ps_set (i := 2) scLockedOf.nd rfl (Or.inl rfl) (pe_prom GP hr (Nat.le_refl _) rfl (pa_cons (pv 0) (pa_cons (pe_prom GB hr (by decide) rfl (pa_cons (pv 0) (pa_cons pe_bl pa_nil))) pa_nil))))
      (pss_cons (ps_set (i := 3) scLockedOf.nd rfl (Or.inl rfl) (pe_lst pa_nil))
      (pss_cons (ps_for PassesOwn.never rfl (pi_list (pv 1)) (pg_name (i := 4) scLockedOf.nd rfl (Or.inl rfl))
        (pss_cons (ps_set (i := 5) scLockedOf.nd rfl (Or.inl rfl) (pe_ix ix_list (pe_fld (pv 0) rfl) (pv 4) (fun _ _ => rfl)))
        (pss_cons (ps_if (pt_cmpR op_eq (pe_ix ix_list (pv 2) (pe_fld (pv 5) rfl) (fun _ _ => rfl)) (pe_ix ix_list (pv 2) (pe_fld (pv 5) rfl) (fun _ _ => rfl)) (nomark _))
          (pss_one (ps_expr (pe_bm PySem.F.plainAttrs_list PySem.F.slot_list_append PySem.F.type_list_append mt_append (pv 3) (pa_cons (pv 4) pa_nil)))) pss_nil)
        (pss_one (ps_set (i := 2) scLockedOf.nd rfl (Or.inl rfl) (pe_prom GJ hr (by decide) rfl (pa_cons (pv 2) (pa_cons (pv 5) pa_nil))))))))
      (pss_one (ps_ret (pv 3))))), ?_⟩
    refine ⟨_, rfl, _, rfl, h, l, b, true, y, rfl, hH, hfs, fun wl H1 hN1 => ?_⟩
    refine ⟨h, l, wl, b, y, numsBy y true, rfl, Same.hull hN1.sm hH, hok, hfew, hN1.at_, fun k hk => numsBy_lt hk, fun m H2 hN2 => ?_⟩
    refine ⟨Nat.zero_le _, fun q hq => ?_⟩
    have s2 : Same H H2 := hN1.sm.trans hN2.sm
    have hq0 : H q = none := s2.free hq
    have s3 : Same H (upd H2 q (.lst [])) := same_upd s2 hq
    refine ⟨_, rfl, a, rfl, ⟨_, SqL.of (s3 _ _ ha)⟩, for_list (K := K) (a := a) (xs := nl ks) (fun i σ H' => ∃ (p : Addr) (ms : List Int) (kv sv : Option V), σ = [some (.ref h), some (.ref a), some (.ref p), some (.ref q), kv, sv] ∧ Same H H' ∧ H' p = some (.lst (ms.map V.int)) ∧ p ≠ q ∧
        Hs.Marks y.parts (Kp261.welded y ++ (ks.take i).map (seamAt y)) ms ∧ H' q = some (.lst (nl (Hs.lockRec y.parts (seamAt y) (Kp261.welded y) (ks.take i)))))
      ⟨m, _, none, none, rfl, s3, by rw [upd_ne (ne_of_none hN2.at_ hq)]; exact hN2.at_, ne_of_none hN2.at_ hq, ?_, upd_same⟩ (fun i σ H' _ ⟨_, _, _, _, _, s5, _⟩ => SqL.of (s5 _ _ ha)) ?_ ?_⟩
    · rw [List.take_zero, List.map_nil, List.append_nil]
      exact marks_welded hok
    · rintro i x σ H' hx ⟨p, ms, kv, sv, rfl, s5, hp, npq, hM, hqq⟩
      obtain ⟨kk, hk, rfl⟩ := nl_at hx
      have hkl := hks kk (List.mem_of_getElem? hk)
      obtain ⟨c, hc1, hc2, dc, hc3⟩ := HullAt.seam (C := C) (h := h) (l := l) (b := b) (dx := dx) h4 h5 hkl
      have hin := hok.at hkl
      have okw : Hs.Ok y.parts (Kp261.welded y ++ (ks.take i).map (seamAt y)) := (Hs.Ok.welded hok).append (Hs.seams_ok hok fun z hz => hks z (List.mem_of_mem_take hz))
      have hang := hM.hang okw hin.1 hin.2
      have lx : (seamAt y kk).x < ms.length := by rw [hM.len]; exact hin.1
      have ly : (seamAt y kk).y < ms.length := by rw [hM.len]; exact hin.2
      have eM : Kp261.welded y ++ (ks.take (i + 1)).map (seamAt y) = (Kp261.welded y ++ (ks.take i).map (seamAt y)) ++ [seamAt y kk] := by rw [take_snoc hk, List.map_append, List.append_assoc]; rfl
      have eL : Hs.lockRec y.parts (seamAt y) (Kp261.welded y) (ks.take (i + 1)) = Hs.lockRec y.parts (seamAt y) (Kp261.welded y) (ks.take i) ++ (if Kp261.hang y.parts (Kp261.welded y ++ (ks.take i).map (seamAt y)) (seamAt y kk).x (seamAt y kk).y then [kk] else []) := by
        rw [take_snoc hk, Hs.lockRec_append, Hs.lockRec_cons]
        simp [Hs.lockRec]
      have fin : ∀ H3 : Hp, Same H H3 → H3 p = some (.lst (ms.map V.int)) → H3 q = some (.lst (nl (Hs.lockRec y.parts (seamAt y) (Kp261.welded y) (ks.take (i + 1))))) →
          spJoined S [V.ref p, V.ref c] H3 (fun v H4 => ∃ (p : Addr) (ms : List Int) (kv sv : Option V), ([some (.ref h), some (.ref a), some v, some (.ref q), some (.int (kk : Int)), some (.ref c)] : L2.St) = [some (.ref h), some (.ref a), some (.ref p), some (.ref q), kv, sv] ∧ Same H H4 ∧ H4 p = some (.lst (ms.map V.int)) ∧ p ≠ q ∧
            Hs.Marks y.parts (Kp261.welded y ++ (ks.take (i + 1)).map (seamAt y)) ms ∧ H4 q = some (.lst (nl (Hs.lockRec y.parts (seamAt y) (Kp261.welded y) (ks.take (i + 1)))))) E0 := fun H3 s6 hp3 hq3 => by
        refine ⟨p, c, ms, seamAt y kk, rfl, hp3, ⟨dc, s6 _ _ hc3⟩, lx, ly, by rw [hM.len]; omega, fun p' H4 hN => ⟨p', _, _, _, rfl, s6.trans hN.sm, hN.at_, ?_, ?_, hN.sm _ _ hq3⟩⟩
        · exact fun z => by rw [← z, hN.fr] at hq3; cases hq3
        · rw [eM]; exact hM.join hin
      refine ⟨_, rfl, h, C, dx, _, _, rfl, s5 _ _ h1, T.clC, T.ns, hf_seams _ _ _, _, rfl, l, _, _, _, rfl, rfl, SqL.of (s5 _ _ h2), atI_nat hc2, ?_⟩
      refine ⟨_, rfl, _, rfl, c, S, dc, _, _, rfl, s5 _ _ hc3, T.clS, T.nx, sf_x _, p, _, _, _, rfl, rfl, SqL.of hp, atI_nat (ints_at' lx), ?_⟩
      refine ⟨_, rfl, _, rfl, c, S, dc, _, _, rfl, s5 _ _ hc3, T.clS, T.ny, sf_y _, p, _, _, _, rfl, rfl, SqL.of hp, atI_nat (ints_at' ly), rfl, _, rfl, ?_⟩
      refine ite2 (fun cc => ?_) (fun cc => ?_)
      · have c' : V.int (ms.getD (seamAt y kk).x 0) = V.int (ms.getD (seamAt y kk).y 0) := of_decide_eq_true cc
        injection c' with c'
        rw [decide_eq_true c'] at hang
        rw [if_pos hang] at eL
        refine ⟨_, rfl, .inl ⟨rfl, _, SqL.of hqq⟩, _, rfl, q, _, _, rfl, rfl, hqq, ?_, _, rfl, _, rfl, ?_⟩
        · rw [nl_len]
          exact small1000 (Nat.le_trans (Hs.lockRec_len _ _) (Nat.le_trans (List.length_take_le _ _) (by have := (List.getElem?_eq_some_iff.mp hk).1; omega)))
        · refine fin _ (fun b' o e => ?_) ?_ ?_
          · rw [upd_ne (ne_of_none e hq0)]; exact s5 b' o e
          · rw [upd_ne npq]; exact hp
          · rw [upd_same, eL, nl_snoc]
      · have c' : ¬ ms.getD (seamAt y kk).x 0 = ms.getD (seamAt y kk).y 0 := fun z => cc (decide_eq_true (by rw [z]))
        rw [decide_eq_false c'] at hang
        rw [if_neg (by rw [hang]; decide), List.append_nil] at eL
        refine ⟨_, rfl, _, rfl, ?_⟩
        exact fin H' s5 hp (by rw [eL]; exact hqq)
    · rintro σ H' ⟨p, ms, kv, sv, rfl, s5, hp, npq, hM, hqq⟩
      rw [nl_len, List.take_length] at hqq
      exact ⟨_, rfl, k q H' ⟨s5, hqq, hq0⟩⟩
end Hl
end
section
set_option Elab.async false
set_option linter.all false
set_option maxRecDepth 100000
set_option maxHeartbeats 2000000
namespace Hl
open PySem PySem.Spec PyProof.Rows L2
open Kp261 (Seam Yard seamAt nums)
variable {P : Program} {w : World} {K : PySem.W.Frag} {mg : Str → Option Value} {base : Heap}
abbrev sStrainOf : Stmt := top 23
theorem sum_cast {α : Type} (f : α → Nat) : ∀ l : List α, (l.map fun a => (f a : Int)).sum = (((l.map f).sum : Nat) : Int)
  | [] => rfl
  | a :: l => by rw [List.map_cons, List.sum_cons, List.map_cons, List.sum_cons, sum_cast f l]; omega
def spStrainOf (C S : Addr) : Sp := fun vs H Q _ => ∃ (h l a : Addr) (b : Bool) (y : Yard) (ks : List Nat), vs = [.ref h, .ref a] ∧ HullAt C S H h l b y ∧ H a = some (.lst (nl ks)) ∧ (∀ k, k ∈ ks → k < y.seams.length) ∧ ks.length ≤ 1000 ∧
  ∀ H' : Hp, Same H H' → Q (.int (((ks.map fun k => (seamAt y k).strain).sum : Nat) : Int)) H'
theorem scStrainOf : FnScope ["hull", "numbers", "k"] ["hull", "numbers"] (defScope sStrainOf) := ⟨rfl, rfl, rfl, by decide +kernel, rfl, by decide +kernel, by decide +kernel⟩
theorem ok_strainOf {C S f : Addr} {fd : FuncData} (F : Fun K "strain_of" "strain_of" sStrainOf f fd) (T : Txt K mg C S) : FnOk P w K mg base CX0 1 f fd ["hull", "numbers"] (spStrainOf C S) := by
  refine F.ok scStrainOf (fun vs H Q E h => ?_) (fun cdv A outer s H vs Q E hr h => ?_)
  · obtain ⟨h, l, a, b, y, ks, rfl, _⟩ := h
    rfl
  · obtain ⟨h, l, a, b, y, ks, rfl, hH, ha, hks, hkn, k⟩ := h
    obtain ⟨dx, as, h1, h2, h3, h4, h5⟩ := hH.ex
    refine ⟨_, pss_one (ps_ret (pe_callB (cr_sum rfl) rfl T.bsum boot_sum (pa_cons (pe_lc (own := [("k", 2)]) (te := tFld K (tOp (rIxL K) (tFld K (tVar 0) "seams") (tVar 2)) "strain") rfl scStrainOf.nd (pi_list (pv 1)) (blkOk_by (by rfl))
      (fun _ _ _ _ _ => pg_name (i := 2) scStrainOf.nd rfl (Or.inl rfl)) (fun _ _ _ _ _ => pts_nil) (fun _ _ _ _ _ => pe_fld (pe_ix ix_list (pe_fld (pv 0) rfl) (pv 2) (fun _ _ => rfl)) rfl)) pa_nil))), ?_⟩
    refine ⟨_, rfl, a, rfl, ⟨_, SqL.of ha⟩, fun D hD => lc_list (xs := nl ks) (fun i H' => Same H H' ∧ H' D = some (.lst (((ks.take i).map fun k => ((seamAt y k).strain : Int)).map V.int))) ⟨same_new hD, upd_same⟩ (fun i H' _ h' => SqL.of (h'.1 _ _ ha)) (fun i x H' hx h' => ?_) (fun H' h' => ?_)⟩
    · obtain ⟨kk, hk, rfl⟩ := nl_at hx
      have hkl := hks kk (List.mem_of_getElem? hk)
      obtain ⟨c, hc1, hc2, dc, hc3⟩ := HullAt.seam (C := C) (h := h) (l := l) (b := b) (dx := dx) h4 h5 hkl
      refine ⟨rfl, yes_ok ?_⟩
      refine ⟨_, rfl, h, C, dx, _, _, rfl, h'.1 _ _ h1, T.clC, T.ns, hf_seams _ _ _, _, rfl, l, _, _, _, rfl, rfl, SqL.of (h'.1 _ _ h2), atI_nat hc2, c, S, dc, _, _, rfl, h'.1 _ _ hc3, T.clS, T.nt, sf_strain _, _, h'.2, ?_, fun b' o e => ?_, ?_⟩
      · rw [List.length_map, List.length_map]
        exact small1000 (Nat.le_trans (List.length_take_le _ _) (by have := (List.getElem?_eq_some_iff.mp hk).1; omega))
      · rw [upd_ne (ne_of_none e hD)]; exact h'.1 b' o e
      · rw [upd_same, take_snoc hk, List.map_append, List.map_append]; rfl
    · obtain ⟨s1, hD1⟩ := h'
      rw [nl_len, List.take_length] at hD1
      refine ⟨D, _, rfl, SqL.of hD1, ?_⟩
      rw [sum_cast]
      exact k H' s1
abbrev sSoFar : Stmt := top 24
def spSoFar (C S : Addr) : Sp := fun vs H Q _ => ∃ (h l : Addr) (b : Bool) (y : Yard), vs = [.ref h] ∧ HullAt C S H h l b y ∧ Hs.Good y ∧ ∀ H' : Hp, Same H H' → Q (.int ((Kp261.sofar y : Nat) : Int)) H'
theorem scSoFar : FnScope ["hull", "seam"] ["hull"] (defScope sSoFar) := ⟨rfl, rfl, rfl, by decide +kernel, rfl, by decide +kernel, by decide +kernel⟩
def lockTo (l : List Seam) (i : Nat) : List Int := (((l.take i).filter fun s => s.locked).map fun s => (s.strain : Int))
theorem lockTo_succ {l : List Seam} {i : Nat} {s : Seam} (h : l[i]? = some s) : lockTo l (i + 1) = if s.locked then lockTo l i ++ [(s.strain : Int)] else lockTo l i := by
  unfold lockTo
  rw [take_snoc h, List.filter_append]
  by_cases c : s.locked = true
  · rw [if_pos c, List.filter_cons, if_pos c]; simp
  · rw [if_neg c, List.filter_cons, if_neg c]; simp
theorem lockTo_len (l : List Seam) (i : Nat) : (lockTo l i).length ≤ l.length := by
  unfold lockTo
  rw [List.length_map]
  exact Nat.le_trans (List.length_filter_le _ _) (by rw [List.length_take]; exact Nat.min_le_right _ _)
theorem ok_soFar {C S f : Addr} {fd : FuncData} (F : Fun K "strain_so_far" "strain_so_far" sSoFar f fd) (T : Txt K mg C S) : FnOk P w K mg base CX0 1 f fd ["hull"] (spSoFar C S) := by
  refine F.ok scSoFar (fun vs H Q E h => ?_) (fun cdv A outer s H vs Q E hr h => ?_)
  · obtain ⟨h, l, b, y, rfl, _⟩ := h
    rfl
  · obtain ⟨h, l, b, y, rfl, hH, hg, k⟩ := h
    obtain ⟨dx, as, h1, h2, h3, h4, h5⟩ := hH.ex
    refine ⟨_, pss_one (ps_ret (pe_callB (cr_sum rfl) rfl T.bsum boot_sum (pa_cons (pe_lc (own := [("seam", 1)]) (tt := tB (tFld K (tVar 1) "locked")) (te := tFld K (tVar 1) "strain") rfl scSoFar.nd (pi_list (pe_fld (pv 0) rfl)) (blkOk_by (by rfl))
      (fun _ _ _ _ _ => pg_name (i := 1) scSoFar.nd rfl (Or.inl rfl)) (fun _ _ _ _ _ => pts_one (pt_val (pe_fld (pv 1) rfl))) (fun _ _ _ _ _ => pe_fld (pv 1) rfl)) pa_nil))), ?_⟩
    refine ⟨_, rfl, h, C, dx, _, _, rfl, h1, T.clC, T.ns, hf_seams _ _ _, l, rfl, ⟨_, SqL.of h2⟩, fun D hD => lc_list (xs := as.map V.ref) (fun i H' => Same H H' ∧ H' D = some (.lst ((lockTo y.seams i).map V.int))) ⟨same_new hD, upd_same⟩ (fun i H' _ h' => SqL.of (h'.1 _ _ h2)) (fun i x H' hx h' => ?_) (fun H' h' => ?_)⟩
    · rw [List.getElem?_map] at hx
      cases ea : as[i]? with
      | none => rw [ea] at hx; cases hx
      | some a =>
        rw [ea] at hx
        obtain rfl : V.ref a = x := Option.some.inj hx
        obtain ⟨t, ht, dt, hat⟩ := h5 i a ea
        refine ⟨rfl, _, rfl, a, S, dt, _, _, rfl, h'.1 _ _ hat, T.clS, T.nk, sf_locked _, _, rfl, ?_⟩
        refine ite2 (fun c => ?_) (fun c => ?_)
        · refine ⟨_, rfl, a, S, dt, _, _, rfl, h'.1 _ _ hat, T.clS, T.nt, sf_strain _, _, h'.2, ?_, fun b' o e => ?_, ?_⟩
          · rw [List.length_map]; exact small1000 (by have := lockTo_len y.seams i; have := hg.fewS; omega)
          · rw [upd_ne (ne_of_none e hD)]; exact h'.1 b' o e
          · rw [upd_same, lockTo_succ ht, if_pos c, List.map_append]; rfl
        · refine ⟨h'.1, ?_⟩
          rw [h'.2, lockTo_succ ht, if_neg c]
    · obtain ⟨s1, hD1⟩ := h'
      rw [List.length_map, h4] at hD1
      refine ⟨D, _, rfl, SqL.of hD1, ?_⟩
      have e : (lockTo y.seams y.seams.length).sum = ((Kp261.sofar y : Nat) : Int) := by
        unfold lockTo
        rw [List.take_length, sum_cast, Hs.sofar_eq hg]
      rw [e]
      exact k H' s1
abbrev sOrder : Stmt := top 22
structure FunC (K : PySem.W.Frag) (x qual : Str) (st : Stmt) (f : Addr) (fd : FuncData) (c : Addr) : Prop where
  ex : ∃ (oc : Value) (od : Option Addr) (kV doc pm : Value) (an : Option Addr) (ct : Value) (osl : Array (Option Value)),
    fd = PySem.W.fnOf x qual (defArgs st) (defBody st) (defScope st) .none kV doc pm an (.ref c) ct ∧ K.lookup f = some ⟨oc, od, .func fd, osl⟩ ∧ PySem.W.codeIn K (.ref c) qual = true
theorem FunC.ok {x qual : Str} {st : Stmt} {f c : Addr} {fd : FuncData} {N ps : List Str} {k : Nat} {sp : Sp} (F : FunC K x qual st f fd c) (S : FnScope N ps (defScope st)) (len : ∀ vs H Q E, sp vs H Q E → vs.length = ps.length)
    (hbody : ∀ (A : Around) (outer : List Env) (s : Shared) (H : Hp) (vs : List V) (Q : VK) (E : XK), Room k (A.deeper (envOfC qual (defScope st) s.heap.objs.size f (.ref c))) → sp vs H Q E →
      ∃ t, PSs (cxOf CX0 P w K mg base N qual (defScope st) f (.ref c) A outer s H E).nox (defBody st) t ∧ t { nx := fun _ H' => Q .non H', rt := Q } (start N vs) H) : FnOk P w K mg base CX0 (k + 1) f fd ps sp := by
  obtain ⟨oc, od, kV, doc, pm, an, ct, osl, rfl, lk, hcd⟩ := F.ex
  refine fn_of lk hcd S len fun A outer s H vs Q E hr hsp => ?_
  obtain ⟨t, h, q⟩ := hbody A outer s H vs Q E hr hsp
  exact ⟨t, h.nox, q⟩
def TBo (Pt : Addr) (H : Hp) : Prop := TabOk Pt 56 50 (("order_told" : Str) ++ ".<locals>." ++ "<lambda>") H
theorem TBo.same {Pt : Addr} {H H' : Hp} (t : TBo Pt H) (s : Same H H') : TBo Pt H' := TabOk.same t s
theorem Ext.of {Pt : Addr} {H H' : Hp} (s : Same H H') : Ext (TBo Pt) H H' := ⟨fun c o e _ => s c o e, fun t => t.same s⟩
theorem Ext.trans {TB : Hp → Prop} {H H1 H2 : Hp} (a : Ext TB H H1) (b : Ext TB H1 H2) : Ext TB H H2 := ⟨fun c o e n => b.keep c o (a.keep c o e n) n, fun t => b.tb (a.tb t)⟩
theorem Ext.hull {TB : Hp → Prop} {C S : Addr} {H H' : Hp} {h l : Addr} {b : Bool} {y : Yard} (s : Ext TB H H') (A : HullAt C S H h l b y) : HullAt C S H' h l b y := A.same s.keep
def spOrder (C S Pt : Addr) : Sp := fun vs H Q _ => ∃ (h l : Addr) (b : Bool) (y : Yard), vs = [.ref h] ∧ HullAt C S H h l b y ∧ y.seams.length ≤ 10 ∧ TBo Pt H ∧ ∀ (p : Addr) (H' : Hp), Ext (TBo Pt) H H' → H' p = some (.lst (nl (Kp261.order y))) → Q (.ref p) H'
theorem scOrder : FnScope ["hull"] ["hull"] (defScope sOrder) := ⟨rfl, rfl, rfl, by decide +kernel, rfl, by decide +kernel, by decide +kernel⟩
theorem perm_nl {out : List Int} {l : List Nat} (h : out.Perm (Kp261.ints l)) : ∃ o : List Nat, out = Kp261.ints o ∧ o.Perm l := by
  have nn : ∀ z, z ∈ out → 0 ≤ z := fun z hz => by
    obtain ⟨k, _, rfl⟩ := List.mem_map.mp (h.mem_iff.mp hz)
    exact Int.natCast_nonneg k
  refine ⟨out.map Int.toNat, ?_, ?_⟩
  · unfold Kp261.ints
    rw [List.map_map]
    conv => lhs; rw [← List.map_id out]
    refine List.map_congr_left fun z hz => ?_
    have := nn z hz
    show z = ((z.toNat : Nat) : Int)
    omega
  · have := h.map Int.toNat
    unfold Kp261.ints at this
    rw [List.map_map] at this
    have e : l.map (Int.toNat ∘ fun (x : Nat) => (x : Int)) = l := by
      conv => rhs; rw [← List.map_id l]
      exact List.map_congr_left fun z _ => by simp
    rw [e] at this
    exact this
def keyOf (y : Yard) (k : Int) : Int × Int := (-((seamAt y k.toNat).strain : Int), k)
theorem open_numsBy (y : Yard) : numsBy y false = Kp261.open_ y := by
  unfold numsBy Kp261.open_
  refine List.filter_congr fun k _ => ?_
  cases (seamAt y k).welded <;> rfl
theorem numsBy_nodup (y : Yard) (b : Bool) : (numsBy y b).Nodup := List.Pairwise.imp (fun h => Nat.ne_of_lt h) ((Hs.pairwise_range _).filter _)
theorem order_of {y : Yard} {out : List Int} (h : out.Perm (Kp261.ints (numsBy y false))) (q : out.Pairwise fun a b => pairLe (keyOf y a) (keyOf y b)) : out = Kp261.ints (Kp261.order y) := by
  obtain ⟨o, rfl, hp⟩ := perm_nl h
  have nd : o.Nodup := hp.nodup_iff.mpr (numsBy_nodup y false)
  rw [Hs.order_unique (l := o) (y := y) ?_ (by rw [← open_numsBy]; exact hp)]
  unfold Kp261.ints at q
  rw [List.pairwise_map] at q
  refine (List.Pairwise.and q nd).imp fun {a b} hq => ?_
  obtain ⟨h1, h2⟩ := hq
  unfold pairLe keyOf at h1
  simp only [Int.toNat_natCast] at h1
  unfold Hs.Before
  omega
theorem lamS : LamScope "k" "hull" { kind := .function, names := [(Str.ofString "k", .local), (Str.ofString "hull", .free)], isGenerator := false, isCoroutine := false } := ⟨rfl, rfl, rfl, rfl, rfl, by decide +kernel, by decide +kernel⟩
theorem ok_order {C S f c Pt : Addr} {fd : FuncData} (F : FunC K "order_told" "order_told" sOrder f fd c) (T : Txt K mg C S) (CH : PySem.W.CodeHd base c Pt) (BM : BMod mg base) (GB : Prom P w K mg base 1 "seams_by_weld" ["hull", "welded"] (spByWeld C S)) :
    FnOk P w K mg base CX0 5 f fd ["hull"] (spOrder C S Pt) := by
  refine F.ok scOrder (fun vs H Q E h => ?_) (fun A outer s H vs Q E hr h => ?_)
  · obtain ⟨h, l, b, y, rfl, _⟩ := h
    rfl
  · obtain ⟨h, l, b, y, rfl, hH, hfs, hT, k⟩ := h
    refine ⟨_, pss_one (ps_ret (pe_sortLam (k := 1) (x := "k") (y := "hull") (i := 0) (tb := tTup (tCons (tUn (rU fun i => .int (-i)) (tFld K (tOp (rIxL K) (tFld K (tVar 1) "seams") (tVar 0)) "strain")) (tCons (tVar 0) tNil))) hr rfl T.bsorted
      (pa_cons (pe_prom GB hr (by decide) rfl (pa_cons (pv 0) (pa_cons pe_bl pa_nil))) pa_nil) rfl CH BM lamS (by decide) rfl rfl
      (fun _ _ _ _ _ _ _ _ => pe_tup (pa_cons (pe_un un_neg (pe_fld (pe_ix ix_list (pe_fld (pv 1) rfl) (pv 0) (fun _ _ => rfl)) rfl)) (pa_cons (pv 0) pa_nil))))), ?_⟩
    refine ⟨_, rfl, h, l, b, false, y, rfl, hH, hfs, fun a H1 hN => ?_⟩
    have hH1 := Same.hull hN.sm hH
    obtain ⟨dx, as, h1, h2, h3, h4, h5⟩ := hH1.ex
    refine ⟨a, Kp261.ints (numsBy y false), keyOf y, .ref h, rfl, SqL.of hN.at_, ?_, hT.same hN.sm, rfl, fun kk H2 hk sm => ?_, fun out H' D o1 o2 sm hT' hD => ?_⟩
    · unfold Kp261.ints
      rw [List.length_map]
      exact small1000 (by have := numsBy_len y false; omega)
    · obtain ⟨kn, hkn, rfl⟩ := List.mem_map.mp hk
      have nP : ∀ {b : Addr} {o : HO}, H1 b = some o → (∀ ps, o ≠ .tbl ps) → H2 b = some o := fun {b o} e n => sm _ _ e fun z => by
        rcases hT.same hN.sm with e' | ⟨_, e', _⟩
        · rw [z, e'] at e; exact n _ (Option.some.inj e).symm
        · rw [z, e'] at e; exact n _ (Option.some.inj e).symm
      obtain ⟨d, hc1, hc2, dc, hc3⟩ := HullAt.seam (C := C) (h := h) (l := l) (b := b) (dx := dx) h4 h5 (numsBy_lt hkn)
      refine ⟨_, rfl, h, C, dx, _, _, rfl, nP h1 (fun _ z => by cases z), T.clC, T.ns, hf_seams _ _ _, _, rfl, l, _, _, _, rfl, rfl, SqL.of (nP h2 (fun _ z => by cases z)), atI_nat hc2, d, S, dc, _, _, rfl, nP hc3 (fun _ z => by cases z), T.clS, T.nt, sf_strain _, _, rfl, _, rfl,
        (by show 2 ≤ sizeLine; decide), fun p hp => ⟨p, rfl, same_new hp, ?_⟩⟩
      unfold KeyAt keyOf
      rw [upd_same]
      simp only [Int.toNat_natCast]
    · rw [order_of o1 o2]
      have nP : ∀ {b : Addr} {o : HO}, H1 b = some o → (∀ ps, o ≠ .tbl ps) → H' b = some o := fun {b o} e n => sm _ _ e fun z => by
        rcases hT.same hN.sm with e' | ⟨_, e', _⟩
        · rw [z, e'] at e; exact n _ (Option.some.inj e).symm
        · rw [z, e'] at e; exact n _ (Option.some.inj e).symm
      refine k D _ ⟨fun c' o e n => ?_, fun _ => TBo.same hT' (same_new hD)⟩ upd_same
      have e' := nP (hN.sm _ _ e) n
      rw [upd_ne (ne_of_none e' hD)]
      exact e'
end Hl
end
section
set_option Elab.async false
set_option linter.all false
set_option maxRecDepth 100000
set_option maxHeartbeats 2000000
namespace Hl
open PySem PySem.Spec PyProof.Rows L2
open Kp261 (Seam Yard seamAt nums)
variable {P : Program} {w : World} {K : PySem.W.Frag} {mg : Str → Option Value} {base : Heap}
abbrev sWould : Stmt := top 21
def spWould (C S : Addr) : Sp := fun vs H Q _ => ∃ (h l : Addr) (b : Bool) (y : Yard) (k : Nat), vs = [.ref h, .int (k : Int)] ∧ HullAt C S H h l b y ∧ Hs.okYard y ∧ y.parts ≤ 7 ∧ y.seams.length ≤ 10 ∧ k < y.seams.length ∧
  ∀ H' : Hp, Same H H' → Q (.bl (Kp261.hang y.parts (Kp261.welded y) (seamAt y k).x (seamAt y k).y)) H'
theorem scWould : FnScope ["hull", "k"] ["hull", "k"] (defScope sWould) := ⟨rfl, rfl, rfl, by decide +kernel, rfl, by decide +kernel, by decide +kernel⟩
theorem ok_would {C S f : Addr} {fd : FuncData} (F : Fun K "would_be_locked" "would_be_locked" sWould f fd) (GL : Prom P w K mg base 3 "locked_of" ["hull", "numbers"] (spLockedOf C S)) : FnOk P w K mg base CX0 4 f fd ["hull", "k"] (spWould C S) := by
  refine F.ok scWould (fun vs H Q E h => ?_) (fun cdv A outer s H vs Q E hr h => ?_)
  · obtain ⟨h, l, b, y, k, rfl, _⟩ := h
    rfl
  · obtain ⟨h, l, b, y, n, rfl, hH, hok, hfew, hfs, hn, k⟩ := h
    refine ⟨_, pss_one (ps_ret (pe_cmpR (op_eqD hr.units) (pe_prom GL hr (by decide) rfl (pa_cons (pv 0) (pa_cons (pe_lst (pa_cons (pv 1) pa_nil)) pa_nil))) (pe_lst (pa_cons (pv 1) pa_nil)) (nomark _))), ?_⟩
    refine ⟨_, rfl, _, rfl, (by show 1 ≤ sizeLine; decide), fun q1 hq1 => ?_⟩
    have s1 : Same H (upd H q1 (.lst [V.int (n : Int)])) := same_new hq1
    refine ⟨h, l, q1, b, y, [n], rfl, Same.hull s1 hH, hok, hfew, hfs, upd_same, fun z hz => by rw [List.mem_singleton.mp hz]; exact hn, (by show 1 ≤ 1000; decide), fun q2 H2 hN2 => ?_⟩
    refine ⟨_, rfl, (by show 1 ≤ sizeLine; decide), fun q3 hq3 => ?_⟩
    have s3 : Same H (upd H2 q3 (.lst [V.int (n : Int)])) := same_upd (s1.trans hN2.sm) hq3
    have hq2 : upd H2 q3 (.lst [V.int (n : Int)]) q2 = some (.lst (nl (Hs.lockRec y.parts (seamAt y) (Kp261.welded y) [n]))) := by rw [upd_ne (ne_of_none hN2.at_ hq3)]; exact hN2.at_
    have dat : Dp K (upd H2 q3 (.lst [V.int (n : Int)])) (.ref q3) (.list [.int (n : Int)]) := .lst (SqL.of upd_same) (.cons (.int _) .nil)
    have lk : Hs.lockRec y.parts (seamAt y) (Kp261.welded y) [n] = if Kp261.hang y.parts (Kp261.welded y) (seamAt y n).x (seamAt y n).y then [n] else [] := by
      rw [Hs.lockRec_cons]
      simp [Hs.lockRec]
    have go := k _ s3
    cases hb : Kp261.hang y.parts (Kp261.welded y) (seamAt y n).x (seamAt y n).y with
    | true =>
      rw [hb] at go
      rw [hb, if_pos rfl] at lk
      rw [lk] at hq2
      refine ⟨.list [.int (n : Int)], .list [.int (n : Int)], .lst (SqL.of hq2) (.cons (.int _) .nil), dat, rfl, rfl, ?_⟩
      have ee : PyData.eqv (.list [.int (n : Int)]) (.list [.int (n : Int)]) = true := by simp [PyData.eqv, PyData.eqvAll]
      rw [ee]
      exact go
    | false =>
      rw [hb] at go
      rw [hb, if_neg (by decide)] at lk
      rw [lk] at hq2
      refine ⟨.list [], .list [.int (n : Int)], .lst (SqL.of hq2) .nil, dat, rfl, rfl, ?_⟩
      have ee : PyData.eqv (.list []) (.list [.int (n : Int)]) = false := rfl
      rw [ee]
      exact go
theorem marks_of {y : Yard} (hok : Hs.okYard y) {ks : List Nat} (hks : ∀ k, k ∈ ks → k < y.seams.length) : Hs.Marks y.parts (ks.map (seamAt y)) (marksOf y ks) :=
  Hs.marks_fold (ks.map (seamAt y)) [] _ (Hs.marks_start y.parts) (Hs.seams_ok hok hks)
abbrev sCount : Stmt := top 25
def spCount (C S : Addr) : Sp := fun vs H Q _ => ∃ (h l a : Addr) (b : Bool) (y : Yard) (ks : List Nat), vs = [.ref h, .ref a] ∧ HullAt C S H h l b y ∧ Hs.okYard y ∧ y.parts ≤ 7 ∧ H a = some (.lst (nl ks)) ∧ (∀ k, k ∈ ks → k < y.seams.length) ∧
  ∀ H' : Hp, Same H H' → Q (.int ((Kp261.pieces y.parts (ks.map (seamAt y)) : Nat) : Int)) H'
theorem scCount : FnScope ["hull", "numbers"] ["hull", "numbers"] (defScope sCount) := ⟨rfl, rfl, rfl, by decide +kernel, rfl, by decide +kernel, by decide +kernel⟩
theorem boot_setT : bootBuiltins "set" = some (.type "set") := by decide +kernel
theorem ok_count {C S f : Addr} {fd : FuncData} (F : Fun K "count_pieces" "count_pieces" sCount f fd) (T : Txt K mg C S) (GP : Prom P w K mg base 2 "pieces_by" ["hull", "numbers"] (spPieces C S)) : FnOk P w K mg base CX0 3 f fd ["hull", "numbers"] (spCount C S) := by
  refine F.ok scCount (fun vs H Q E h => ?_) (fun cdv A outer s H vs Q E hr h => ?_)
  · obtain ⟨h, l, a, b, y, ks, rfl, _⟩ := h
    rfl
  · obtain ⟨h, l, a, b, y, ks, rfl, hH, hok, hfew, ha, hks, k⟩ := h
    refine ⟨_, pss_one (ps_ret (pe_callB cr_lenSet (by rfl) T.blen PySem.boot_len (pa_cons (pe_callTy (cr_setOf rfl) rfl T.bset boot_setT (pa_cons (pe_prom GP hr (by decide) rfl (pa_cons (pv 0) (pa_cons (pv 1) pa_nil))) pa_nil)) pa_nil))), ?_⟩
    refine ⟨_, rfl, _, rfl, h, l, a, b, y, ks, rfl, hH, hok, hfew, ha, hks, fun m H1 hN => ?_⟩
    refine ⟨m, _, rfl, SqL.of hN.at_, by rw [marksOf_len]; omega, fun p U d hp nd hd => ?_⟩
    refine ⟨p, U, _, rfl, upd_same, ?_⟩
    rw [← Hs.pieces_distinct (marks_of hok hks) (Hs.seams_ok hok hks) nd hd]
    exact k _ (same_upd hN.sm hp)
abbrev sTog : Stmt := top 26
def spTog (C S : Addr) : Sp := fun vs H Q _ => ∃ (h l a : Addr) (b : Bool) (y : Yard) (ks : List Nat) (x z : Nat), vs = [.ref h, .ref a, .int (x : Int), .int (z : Int)] ∧ HullAt C S H h l b y ∧ Hs.okYard y ∧ y.parts ≤ 7 ∧ H a = some (.lst (nl ks)) ∧ (∀ k, k ∈ ks → k < y.seams.length) ∧ x < y.parts ∧ z < y.parts ∧
  ∀ H' : Hp, Same H H' → Q (.bl (Kp261.hang y.parts (ks.map (seamAt y)) x z)) H'
theorem scTog : FnScope ["hull", "numbers", "x", "y", "marks"] ["hull", "numbers", "x", "y"] (defScope sTog) := ⟨rfl, rfl, rfl, by decide +kernel, rfl, by decide +kernel, by decide +kernel⟩
theorem dec_vint (i j : Int) : decide (V.int i = V.int j) = decide (i = j) := by
  by_cases e : i = j
  · rw [decide_eq_true e, decide_eq_true (by rw [e])]
  · rw [decide_eq_false e, decide_eq_false (fun z => e (by injection z))]
theorem ok_tog {C S f : Addr} {fd : FuncData} (F : Fun K "hang_together" "hang_together" sTog f fd) (GP : Prom P w K mg base 2 "pieces_by" ["hull", "numbers"] (spPieces C S)) : FnOk P w K mg base CX0 3 f fd ["hull", "numbers", "x", "y"] (spTog C S) := by
  refine F.ok scTog (fun vs H Q E h => ?_) (fun cdv A outer s H vs Q E hr h => ?_)
  · obtain ⟨h, l, a, b, y, ks, x, z, rfl, _⟩ := h
    rfl
  · obtain ⟨h, l, a, b, y, ks, x, z, rfl, hH, hok, hfew, ha, hks, hx, hz, k⟩ := h
    refine ⟨_, pss_cons (ps_set (i := 4) scTog.nd rfl (Or.inl rfl) (pe_prom GP hr (by decide) rfl (pa_cons (pv 0) (pa_cons (pv 1) pa_nil))))
      (pss_one (ps_ret (pe_cmpR op_eq (pe_ix ix_list (pv 4) (pv 2) (fun _ _ => rfl)) (pe_ix ix_list (pv 4) (pv 3) (fun _ _ => rfl)) (nomark _)))), ?_⟩
    refine ⟨_, rfl, _, rfl, h, l, a, b, y, ks, rfl, hH, hok, hfew, ha, hks, fun m H1 hN => ?_⟩
    have M := marks_of hok hks
    refine ⟨_, rfl, _, rfl, m, _, _, _, rfl, rfl, SqL.of hN.at_, atI_nat (ints_at' (by rw [marksOf_len]; exact hx)), ?_⟩
    refine ⟨_, rfl, _, rfl, m, _, _, _, rfl, rfl, SqL.of hN.at_, atI_nat (ints_at' (by rw [marksOf_len]; exact hz)), rfl, ?_⟩
    rw [dec_vint, ← M.hang (Hs.seams_ok hok hks) hx hz]
    exact k _ hN.sm
abbrev sAlone : Stmt := top 27
def spAlone (C S : Addr) : Sp := fun vs H Q _ => ∃ (h l : Addr) (b : Bool) (y : Yard) (k : Nat), vs = [.ref h, .int (k : Int)] ∧ HullAt C S H h l b y ∧ Hs.okYard y ∧ y.parts ≤ 7 ∧ y.seams.length ≤ 10 ∧ k < y.seams.length ∧
  ∀ H' : Hp, Same H H' → Q (.bl (Kp261.holds y k)) H'
theorem scAlone : FnScope ["hull", "k", "others", "seam", "other"] ["hull", "k"] (defScope sAlone) := ⟨rfl, rfl, rfl, by decide +kernel, rfl, by decide +kernel, by decide +kernel⟩
def without (k : Nat) (l : List Nat) : List Nat := l.filter fun j => decide (j ≠ k)
theorem without_snoc (k : Nat) (l : List Nat) (j : Nat) : without k (l ++ [j]) = if j = k then without k l else without k l ++ [j] := by
  unfold without
  rw [List.filter_append]
  by_cases e : j = k
  · rw [if_pos e, List.filter_cons, if_neg (by simp [e])]; simp
  · rw [if_neg e, List.filter_cons, if_pos (decide_eq_true e)]; rfl
theorem without_len (k : Nat) (l : List Nat) : (without k l).length ≤ l.length := List.length_filter_le _ _
theorem without_sub {k j : Nat} {l : List Nat} (h : j ∈ without k l) : j ∈ l := (List.mem_filter.mp h).1
theorem numsBy_wnums (y : Yard) : numsBy y true = Hs.wnums y := by
  unfold numsBy Hs.wnums
  refine List.filter_congr fun k _ => ?_
  cases (seamAt y k).welded <;> rfl
theorem holds_eq (y : Yard) (k : Nat) : Kp261.holds y k = !Kp261.hang y.parts ((without k (numsBy y true)).map (seamAt y)) (seamAt y k).x (seamAt y k).y := by
  have e : (nums y).filter (fun j => j != k && (seamAt y j).welded) = without k (numsBy y true) := by
    unfold without
    rw [numsBy_wnums]
    unfold Hs.wnums
    rw [List.filter_filter]
    refine List.filter_congr fun j _ => ?_
    by_cases e : j = k
    · simp [e]
    · simp [e]
  show (!Kp261.hang y.parts (((nums y).filter fun j => j != k && (seamAt y j).welded).map (seamAt y)) (seamAt y k).x (seamAt y k).y) = _
  rw [e]
theorem ok_alone {C S f : Addr} {fd : FuncData} (F : Fun K "holds_alone" "holds_alone" sAlone f fd) (T : Txt K mg C S) (GB : Prom P w K mg base 1 "seams_by_weld" ["hull", "welded"] (spByWeld C S)) (GT : Prom P w K mg base 3 "hang_together" ["hull", "numbers", "x", "y"] (spTog C S)) : FnOk P w K mg base CX0 4 f fd ["hull", "k"] (spAlone C S) := by
  refine F.ok scAlone (fun vs H Q E h => ?_) (fun cdv A outer s H vs Q E hr h => ?_)
  · obtain ⟨h, l, b, y, k, rfl, _⟩ := h
    rfl
  · obtain ⟨h, l, b, y, n, rfl, hH, hok, hfew, hfs, hn, k⟩ := h
    refine ⟨_, pss_cons (ps_setLc (i := 2) (own := [("other", 4)]) (tt := tTest (tOp rNe (tVar 4) (tVar 1))) rfl scAlone.nd rfl rfl (sw_true rfl rfl rfl rfl) (pi_list (pe_prom GB hr (by decide) rfl (pa_cons (pv 0) (pa_cons pe_bl pa_nil)))) (blkOk_by (by rfl))
        (fun _ _ _ _ _ => pg_name (i := 4) scAlone.nd rfl (Or.inl rfl)) (fun _ _ _ _ _ => pts_one (pt_cmpR op_ne (pv 4) (pv 1) (nomark _))) (fun _ _ _ _ _ => pv 4))
      (pss_cons (ps_set (i := 3) scAlone.nd rfl (Or.inl rfl) (pe_ix ix_list (pe_fld (pv 0) rfl) (pv 1) (fun _ _ => rfl)))
      (pss_one (ps_ret (pe_not (pe_prom GT hr (by decide) rfl (pa_cons (pv 0) (pa_cons (pv 2) (pa_cons (pe_fld (pv 3) rfl) (pa_cons (pe_fld (pv 3) rfl) pa_nil))))))))), ?_⟩
    refine ⟨_, rfl, h, l, b, true, y, rfl, hH, hfs, fun a H1 hN => ?_⟩
    have lw := numsBy_len y true
    refine ⟨a, rfl, ⟨_, SqL.of hN.at_⟩, fun D hD => lc_list (xs := nl (numsBy y true)) (fun i H' => Same H1 H' ∧ H' D = some (.lst (nl (without n ((numsBy y true).take i))))) ⟨same_new hD, upd_same⟩ (fun i H' _ h' => SqL.of (h'.1 _ _ hN.at_)) (fun i x H' hx h' => ?_) (fun H' h' => ?_)⟩
    · obtain ⟨j, hj, rfl⟩ := nl_at hx
      have hi : i < (numsBy y true).length := (List.getElem?_eq_some_iff.mp hj).1
      refine ⟨rfl, _, rfl, _, rfl, rfl, _, rfl, ?_⟩
      rw [dec_vint]
      have ew := without_snoc n ((numsBy y true).take i) j
      rw [← take_snoc hj] at ew
      by_cases e : j = n
      · rw [decide_eq_true (by omega : (j : Int) = (n : Int))]
        rw [if_pos e] at ew
        refine iteF ⟨h'.1, ?_⟩
        rw [ew]; exact h'.2
      · rw [decide_eq_false (by omega : ¬ (j : Int) = (n : Int))]
        rw [if_neg e] at ew
        refine iteT ⟨_, rfl, _, h'.2, ?_, fun b' o e' => ?_, ?_⟩
        · rw [nl_len]
          refine small1000 ?_
          have := without_len n ((numsBy y true).take i)
          rw [List.length_take] at this
          omega
        · rw [upd_ne (ne_of_none e' hD)]; exact h'.1 b' o e'
        · rw [upd_same, ew, nl_snoc]
    · obtain ⟨s2, hD2⟩ := h'
      rw [nl_len, List.take_length] at hD2
      have s3 : Same H H' := hN.sm.trans s2
      obtain ⟨dx, as, h1, h2, h3, h4, h5⟩ := (Same.hull s3 hH).ex
      obtain ⟨c, hc1, hc2, dc, hc3⟩ := HullAt.seam (C := C) (h := h) (l := l) (b := b) (dx := dx) h4 h5 hn
      refine ⟨_, rfl, h, C, dx, _, _, rfl, h1, T.clC, T.ns, hf_seams _ _ _, _, rfl, l, _, _, _, rfl, rfl, SqL.of h2, atI_nat hc2, ?_⟩
      refine ⟨_, rfl, _, rfl, _, rfl, c, S, dc, _, _, rfl, hc3, T.clS, T.nx, sf_x _, _, rfl, c, S, dc, _, _, rfl, hc3, T.clS, T.ny, sf_y _, ?_⟩
      have hin := hok.at hn
      refine ⟨h, l, D, b, y, without n (numsBy y true), _, _, rfl, Same.hull s3 hH, hok, hfew, hD2, fun z hz => numsBy_lt (without_sub hz), hin.1, hin.2, fun H4 s4 => ⟨_, rfl, ?_⟩⟩
      rw [← holds_eq]
      exact k H4 (s3.trans s4)
abbrev sAcross : Stmt := top 28
def acrossV : Option Nat → V
  | some q => .int (q : Int)
  | none => .non
def spAcross (S : Addr) : Sp := fun vs H Q _ => ∃ (a : Addr) (s : Seam) (p : Nat), vs = [.ref a, .int (p : Int)] ∧ SeamAt S H a s ∧ Q (acrossV (Kp261.other s p)) H
theorem scAcross : FnScope ["seam", "part"] ["seam", "part"] (defScope sAcross) := ⟨rfl, rfl, rfl, by decide +kernel, rfl, by decide +kernel, by decide +kernel⟩
theorem ok_across {C S f : Addr} {fd : FuncData} (F : Fun K "part_across" "part_across" sAcross f fd) (T : Txt K mg C S) : FnOk P w K mg base CX0 1 f fd ["seam", "part"] (spAcross S) := by
  refine F.ok scAcross (fun vs H Q E h => ?_) (fun cdv A outer s H vs Q E hr h => ?_)
  · obtain ⟨a, t, p, rfl, _⟩ := h
    rfl
  · obtain ⟨a, t, p, rfl, ⟨dx, ha⟩, k⟩ := h
    refine ⟨_, pss_cons (ps_if (pt_cmpR op_eq (pv 1) (pe_fld (pv 0) rfl) (nomark _)) (pss_one (ps_ret (pe_fld (pv 0) rfl))) pss_nil)
      (pss_cons (ps_if (pt_cmpR op_eq (pv 1) (pe_fld (pv 0) rfl) (nomark _)) (pss_one (ps_ret (pe_fld (pv 0) rfl))) pss_nil)
      (pss_one (ps_ret pe_non))), ?_⟩
    unfold Kp261.other at k
    refine ⟨_, rfl, _, rfl, a, S, dx, _, _, rfl, ha, T.clS, T.nx, sf_x _, rfl, _, rfl, ?_⟩
    rw [dec_vint]
    by_cases e : t.x = p
    · rw [if_pos e] at k
      rw [decide_eq_true (by omega : (p : Int) = (t.x : Int))]
      exact iteT ⟨_, rfl, a, S, dx, _, _, rfl, ha, T.clS, T.ny, sf_y _, k⟩
    · rw [if_neg e] at k
      rw [decide_eq_false (by omega : ¬ (p : Int) = (t.x : Int))]
      refine iteF ?_
      refine ⟨_, rfl, _, rfl, a, S, dx, _, _, rfl, ha, T.clS, T.ny, sf_y _, rfl, _, rfl, ?_⟩
      rw [dec_vint]
      by_cases e2 : t.y = p
      · rw [if_pos e2] at k
        rw [decide_eq_true (by omega : (p : Int) = (t.y : Int))]
        exact iteT ⟨_, rfl, a, S, dx, _, _, rfl, ha, T.clS, T.nx, sf_x _, k⟩
      · rw [if_neg e2] at k
        rw [decide_eq_false (by omega : ¬ (p : Int) = (t.y : Int))]
        exact iteF k
end Hl
end
section
set_option Elab.async false
set_option linter.all false
set_option maxRecDepth 100000
set_option maxHeartbeats 4000000
namespace Hl
open PySem PySem.Spec PyProof.Rows L2
open Kp261 (Seam Yard seamAt nums)
variable {P : Program} {w : World} {K : PySem.W.Frag} {mg : Str → Option Value} {base : Heap}
abbrev TabR (H : Hp) : Key × V → Nat × List Nat → Prop := fun kv pw => kv.1 = Sum.inl (pw.1 : Int) ∧ ∃ a, kv.2 = V.ref a ∧ H a = some (.lst (nl pw.2))
abbrev Tab (H : Hp) (kvs : List (Key × V)) (m : List (Nat × List Nat)) : Prop := Paired (TabR H) kvs m
theorem Tab.keeps {H H' : Hp} {kvs : List (Key × V)} {m : List (Nat × List Nat)} (t : Tab H kvs m) (k : ∀ a xs, H a = some (.lst xs) → H' a = some (.lst xs)) : Tab H' kvs m :=
  Paired.mapP t fun _ _ ⟨h1, a, h2, h3⟩ => ⟨h1, a, h2, k a _ h3⟩
theorem key_eq {p q : Nat} : (Sum.inl (p : Int) : Key) = Sum.inl (q : Int) ↔ p = q := by
  constructor
  · intro h
    injection h with h
    omega
  · intro h; rw [h]
theorem Tab.get {H : Hp} {kvs : List (Key × V)} {m : List (Nat × List Nat)} (t : Tab H kvs m) (q : Nat) :
    (valV kvs (Sum.inl (q : Int)) = none ∧ ∀ w, (q, w) ∉ m) ∨ ∃ a w, valV kvs (Sum.inl (q : Int)) = some (V.ref a) ∧ H a = some (.lst (nl w)) ∧ (q, w) ∈ m := by
  induction t with
  | nil => exact .inl ⟨rfl, fun w h => nomatch h⟩
  | @cons kv pw kvs m h _ ih =>
    obtain ⟨h1, a, h2, h3⟩ := h
    by_cases e : pw.1 = q
    · refine .inr ⟨a, pw.2, ?_, h3, by rw [← e]; simp⟩
      rw [valV_pos (by rw [h1, e]), h2]
    · have e' : ¬ kv.1 = Sum.inl (q : Int) := by rw [h1]; exact fun z => e (key_eq.mp z)
      rw [valV_neg e']
      rcases ih with ⟨i1, i2⟩ | ⟨b, v, i1, i2, i3⟩
      · refine .inl ⟨i1, fun v hv => ?_⟩
        rcases List.mem_cons.mp hv with z | z
        · exact e (by rw [← z])
        · exact i2 v z
      · exact .inr ⟨b, v, i1, i2, List.mem_cons_of_mem _ i3⟩
theorem Tab.any {H : Hp} {kvs : List (Key × V)} {m : List (Nat × List Nat)} (t : Tab H kvs m) (q : Nat) : (kvs.any fun kv => decide (kv.1 = Sum.inl (q : Int))) = m.any fun kv => decide (kv.1 = q) := by
  induction t with
  | nil => rfl
  | @cons kv pw kvs m h _ ih =>
    rw [List.any_cons, List.any_cons, ih]
    congr 1
    rw [h.1]
    by_cases e : pw.1 = q
    · rw [decide_eq_true e, decide_eq_true (key_eq.mpr e)]
    · rw [decide_eq_false e, decide_eq_false (fun z => e (key_eq.mp z))]
theorem Tab.repl {H : Hp} {kvs : List (Key × V)} {m : List (Nat × List Nat)} (t : Tab H kvs m) {q : Nat} {w : List Nat} {a : Addr} (ha : H a = some (.lst (nl w))) :
    Tab H (kvs.map fun kv => if kv.1 = Sum.inl (q : Int) then (kv.1, V.ref a) else kv) (m.map fun kv => if kv.1 = q then (kv.1, w) else kv) := by
  induction t with
  | nil => exact .nil
  | @cons kv pw kvs m h _ ih =>
    rw [List.map_cons, List.map_cons]
    refine .cons ?_ ih
    by_cases e : pw.1 = q
    · rw [if_pos e, if_pos (by rw [h.1, e])]
      exact ⟨h.1, a, rfl, ha⟩
    · rw [if_neg e, if_neg (by rw [h.1]; exact fun z => e (key_eq.mp z))]
      exact h
theorem Tab.put {H : Hp} {kvs : List (Key × V)} {m : List (Nat × List Nat)} (t : Tab H kvs m) {q : Nat} {w : List Nat} {a : Addr} (ha : H a = some (.lst (nl w))) : Tab H (putK kvs (Sum.inl (q : Int)) (V.ref a)) (Hs.putM m q w) := by
  unfold putK Hs.putM
  rw [t.any q]
  by_cases c : (m.any fun kv => decide (kv.1 = q)) = true
  · rw [if_pos c, if_pos c]; exact t.repl ha
  · rw [if_neg c, if_neg c]; exact Paired.snoc t ⟨rfl, a, rfl, ha⟩
theorem Tab.merge {H : Hp} {more : List (Key × V)} {n : List (Nat × List Nat)} (u : Tab H more n) : ∀ {kvs : List (Key × V)} {m : List (Nat × List Nat)}, Tab H kvs m → Tab H (mergeK kvs more) (Hs.mergeM m n) := by
  induction u with
  | nil => intro kvs m t; exact t
  | @cons kv pw more n h _ ih =>
    intro kvs m t
    obtain ⟨h1, a, h2, h3⟩ := h
    have e : Tab H (putK kvs kv.1 kv.2) (Hs.putM m pw.1 pw.2) := by rw [h1, h2]; exact t.put h3
    exact ih e
theorem Tab.len {H : Hp} {kvs : List (Key × V)} {m : List (Nat × List Nat)} (t : Tab H kvs m) : kvs.length = m.length := Paired.length t
def WaysAt (H : Hp) (d : Addr) (m : List (Nat × List Nat)) : Prop := ∃ kvs, H d = some (.dK kvs) ∧ Tab H kvs m
theorem WaysAt.same {H H' : Hp} {d : Addr} {m : List (Nat × List Nat)} (s : Same H H') (t : WaysAt H d m) : WaysAt H' d m := by
  obtain ⟨kvs, h1, h2⟩ := t
  exact ⟨kvs, s _ _ h1, h2.keeps fun a xs e => s _ _ e⟩
theorem less_true : ∀ {l m : List Nat}, Lx.lessI (Kp261.ints l) (Kp261.ints m) = true → Hs.lexLe l m
  | [], _, _ => trivial
  | _ :: _, [], h => by simp [Kp261.ints, Lx.lessI] at h
  | a :: l, b :: m, h => by
    have h : (if (a : Int) = (b : Int) then Lx.lessI (Kp261.ints l) (Kp261.ints m) else decide ((a : Int) < (b : Int))) = true := h
    by_cases e : a = b
    · rw [if_pos (by omega)] at h
      exact .inr ⟨e, less_true h⟩
    · rw [if_neg (by omega)] at h
      have := of_decide_eq_true h
      exact .inl (by omega)
theorem less_false : ∀ {l m : List Nat}, l.length = m.length → Lx.lessI (Kp261.ints l) (Kp261.ints m) = false → Hs.lexLe m l
  | [], [], _, _ => trivial
  | [], _ :: _, e, _ => by simp at e
  | _ :: _, [], e, _ => by simp at e
  | a :: l, b :: m, z, h => by
    have h : (if (a : Int) = (b : Int) then Lx.lessI (Kp261.ints l) (Kp261.ints m) else decide ((a : Int) < (b : Int))) = false := h
    by_cases e : a = b
    · rw [if_pos (by omega)] at h
      exact .inr ⟨e.symm, less_false (by simpa using z) h⟩
    · rw [if_neg (by omega)] at h
      have := of_decide_eq_false h
      exact .inl (by omega)
abbrev sFurther : Stmt := top 29
def inM (m : List (Nat × List Nat)) (q : Nat) : Bool := m.any fun kv => decide (kv.1 = q)
theorem inM_iff {m : List (Nat × List Nat)} {q : Nat} : inM m q = true ↔ ∃ w, (q, w) ∈ m := by
  unfold inM
  rw [List.any_eq_true]
  constructor
  · rintro ⟨⟨a, b⟩, h, e⟩
    have e : a = q := of_decide_eq_true e
    exact ⟨b, by rw [← e]; exact h⟩
  · rintro ⟨w, h⟩
    exact ⟨(q, w), h, decide_eq_true rfl⟩
theorem Tab.isSome {H : Hp} {kvs : List (Key × V)} {m : List (Nat × List Nat)} (t : Tab H kvs m) (q : Nat) : (valV kvs (Sum.inl (q : Int))).isSome = inM m q := by
  rw [← valV_any, t.any q]; rfl
def spFurther (C S : Addr) : Sp := fun vs H Q _ => ∃ (h l d e : Addr) (b : Bool) (y : Yard) (m n : List (Nat × List Nat)) (r : Nat), vs = [.ref h, .ref d, .ref e] ∧ HullAt C S H h l b y ∧ Hs.okYard y ∧ y.parts ≤ 7 ∧ y.seams.length ≤ 10 ∧ d ≠ e ∧ WaysAt H d m ∧ WaysAt H e n ∧
  r ≤ 1000 ∧ (∀ p v, (p, v) ∈ n → v.length = r) ∧
  ∀ (p : Addr) (H' : Hp) (o : List (Nat × List Nat)), Same H H' → WaysAt H' p o → H p = none → Hs.Fur o (n.flatMap (Hs.cand y (inM m) (Hs.wnums y))) → Q (.ref p) H'
theorem scFurther : FnScope ["hull", "ways", "newest", "further", "part", "way", "k", "across", "longer"] ["hull", "ways", "newest"] (defScope sFurther) := ⟨rfl, rfl, rfl, by decide +kernel, rfl, by decide +kernel, by decide +kernel⟩
theorem HullAt.noD {C S : Addr} {H H' : Hp} {h l : Addr} {b : Bool} {y : Yard} (A : HullAt C S H h l b y) (s : ∀ c o, H c = some o → (∀ ks, o ≠ .dK ks) → H' c = some o) : HullAt C S H' h l b y := by
  obtain ⟨dx, as, h1, h2, h3, h4, h5⟩ := A.ex
  refine ⟨dx, as, s _ _ h1 (fun _ z => by cases z), s _ _ h2 (fun _ z => by cases z), h3, h4, fun j a e => ?_⟩
  obtain ⟨t, e1, d, e2⟩ := h5 j a e
  exact ⟨t, e1, d, s _ _ e2 (fun _ z => by cases z)⟩
theorem other_lt {y : Yard} (hok : Hs.okYard y) {k p q : Nat} (hk : k < y.seams.length) (h : Kp261.other (seamAt y k) p = some q) : q < y.parts := by
  have hin := hok.at hk
  rcases Hs.other_some h with ⟨_, e⟩ | ⟨_, e⟩
  · rw [← e]; exact hin.2
  · rw [← e]; exact hin.1
structure CsOk (y : Yard) (r : Nat) (cs : List (Nat × List Nat)) : Prop where
  lt : ∀ q l, (q, l) ∈ cs → q < y.parts
  len : ∀ q l, (q, l) ∈ cs → l.length = r + 1
theorem cs_ok {y : Yard} (hok : Hs.okYard y) {inW : Nat → Bool} {n : List (Nat × List Nat)} {r i : Nat} {p : Nat} {v : List Nat} {ks : List Nat} (hn : ∀ p v, (p, v) ∈ n → v.length = r) (hv : v.length = r) (hks : ∀ k, k ∈ ks → k < y.seams.length) :
    CsOk y r ((n.take i).flatMap (Hs.cand y inW (Hs.wnums y)) ++ ks.flatMap (Hs.candK y inW p v)) := by
  have one : ∀ q l, (q, l) ∈ (n.take i).flatMap (Hs.cand y inW (Hs.wnums y)) ++ ks.flatMap (Hs.candK y inW p v) → q < y.parts ∧ l.length = r + 1 := fun q l h => by
    rcases List.mem_append.mp h with h | h
    · obtain ⟨p', w', k', h1, h2, h3, _, h5⟩ := Hs.mem_cands.mp h
      refine ⟨other_lt hok (Hs.mem_wnums.mp h2).1 h3, ?_⟩
      rw [h5, List.length_append, List.length_singleton, hn p' w' (List.mem_of_mem_take h1)]
    · obtain ⟨k', h1, h2⟩ := List.mem_flatMap.mp h
      obtain ⟨h3, _, h5⟩ := Hs.mem_candK.mp h2
      refine ⟨other_lt hok (hks k' h1) h3, ?_⟩
      rw [h5, List.length_append, List.length_singleton, hv]
  exact ⟨fun q l h => (one q l h).1, fun q l h => (one q l h).2⟩
theorem ints_len' (l : List Nat) : (Kp261.ints l).length = l.length := by unfold Kp261.ints; rw [List.length_map]
theorem ints_snoc (l : List Nat) (k : Nat) : (Kp261.ints (l ++ [k])).map V.int = nl l ++ [V.int (k : Int)] := nl_snoc l k
structure FarO (H : Hp) (h d e u : Addr) (od : Obj) (ke : List (Key × V)) (y : Yard) (m n : List (Nat × List Nat)) (i : Nat) (σ : L2.St) (H' : Hp) : Prop where
  ex : ∃ (pv wv kv av lv : Option V) (o : List (Nat × List Nat)) (ko : List (Key × V)), σ = [some (.ref h), some (.ref d), some (.ref e), some (.ref u), pv, wv, kv, av, lv] ∧
    (∀ c x, H c = some x → c ≠ e → H' c = some x) ∧ H' e = some (.frz od (.dK ke)) ∧ H' u = some (.dK ko) ∧ Tab H' ko o ∧ Hs.Fur o ((n.take i).flatMap (Hs.cand y (inM m) (Hs.wnums y)))
structure FarI (H : Hp) (h d e u a va : Addr) (od : Obj) (ke : List (Key × V)) (y : Yard) (m n : List (Nat × List Nat)) (p : Nat) (v : List Nat) (i j : Nat) (σ : L2.St) (H' : Hp) : Prop where
  ex : ∃ (kv av lv : Option V) (o : List (Nat × List Nat)) (ko : List (Key × V)), σ = [some (.ref h), some (.ref d), some (.ref e), some (.ref u), some (.int (p : Int)), some (.ref va), kv, av, lv] ∧
    (∀ c x, H c = some x → c ≠ e → H' c = some x) ∧ H' e = some (.frz od (.dK ke)) ∧ H' a = some (.lst (nl (numsBy y true))) ∧ H' u = some (.dK ko) ∧ Tab H' ko o ∧ Hs.Fur o ((n.take i).flatMap (Hs.cand y (inM m) (Hs.wnums y)) ++ ((numsBy y true).take j).flatMap (Hs.candK y (inM m) p v))
theorem ok_further {C S f : Addr} {fd : FuncData} (F : Fun K "ways_one_further" "ways_one_further" sFurther f fd) (T : Txt K mg C S) (GB : Prom P w K mg base 1 "seams_by_weld" ["hull", "welded"] (spByWeld C S)) (GX : Prom P w K mg base 1 "part_across" ["seam", "part"] (spAcross S)) :
    FnOk P w K mg base CX0 2 f fd ["hull", "ways", "newest"] (spFurther C S) := by
  refine F.ok scFurther (fun vs H Q E h => ?_) (fun cdv A outer s H vs Q E hr h => ?_)
  · obtain ⟨h, l, d, e, b, y, m, n, r, rfl, _⟩ := h
    rfl
  · obtain ⟨h, l, d, e, b, y, m, n, r, rfl, hH, hok, hfew, hfs, hde, ⟨kd, hd, td⟩, ⟨ke, he, te⟩, hr1, hlen, k⟩ := h
    have hu := hu_of hr
    refine ⟨_, pss_cons (ps_set (i := 3) scFurther.nd rfl (Or.inl rfl) pe_dnewK)
      (pss_cons (ps_lock (ps_for PassesOwn.never rfl (pi_items (pv 2)) (pg_tup rfl (pgs_cons (pg_name (i := 4) scFurther.nd rfl (Or.inl rfl)) (pgs_cons (pg_name (i := 5) scFurther.nd rfl (Or.inl rfl)) pgs_nil)))
        (pss_one (ps_for PassesOwn.never rfl (pi_list (pe_prom GB hr (by decide) rfl (pa_cons (pv 0) (pa_cons pe_bl pa_nil)))) (pg_name (i := 6) scFurther.nd rfl (Or.inl rfl))
          (pss_cons (ps_set (i := 7) scFurther.nd rfl (Or.inl rfl) (pe_prom GX hr (by decide) rfl (pa_cons (pe_ix ix_list (pe_fld (pv 0) rfl) (pv 6) (fun _ _ => rfl)) (pa_cons (pv 4) pa_nil))))
          (pss_one (ps_if (PW.pt (pw_and (pt_cmp (pc_notN (pv 7))) (pw_and1 (pt_cmp (pc_dnotin hu (pv 7) (pv 1))))))
            (pss_cons (ps_set (i := 8) scFurther.nd rfl (Or.inl rfl) (pe_op op_cat (pv 5) (pe_lst (pa_cons (pv 6) pa_nil))))
            (pss_one (ps_dput hu (pv 3) (pv 7) (pe_callB (cr_min2 rfl hu) rfl T.bmin boot_min (pa_cons (pv 8) (pa_cons (pe_dget2 hu (pv 3) (pv 7) (pv 8) ⟨rfl, rfl, rfl, rfl⟩) pa_nil))) rfl))) pss_nil)))))))
      (pss_one (ps_ret (pv 3)))), ?_⟩
    refine fun u hu0 => ?_
    have nue : e ≠ u := ne_of_none he hu0
    have nud : d ≠ u := ne_of_none hd hu0
    refine ⟨e, .dK ke, by rw [upd_ne nue]; exact he, True.intro, fun od => ?_⟩
    have hlw := numsBy_len y true
    have wlt : ∀ z, z ∈ numsBy y true → z < y.seams.length := fun z hz => numsBy_lt hz
    have hull2 : ∀ {H3 : Hp}, (∀ c x, H c = some x → c ≠ e → H3 c = some x) → HullAt C S H3 h l b y := fun {H3} s3 => hH.noD fun c x q nt => s3 c x q fun z => by
      rw [z, he] at q
      exact nt ke (Option.some.inj q).symm
    have lst2 : ∀ {H3 : Hp}, (∀ c x, H c = some x → c ≠ e → H3 c = some x) → ∀ a xs, H a = some (.lst xs) → H3 a = some (.lst xs) := fun {H3} s3 a xs q => s3 a _ q fun z => by
      rw [z, he] at q; cases q
    refine ⟨_, rfl, e, od, ke, rfl, upd_same, ?_⟩
    refine for_items (d := e) (od := od) (kvs := ke) (FarO H h d e u od ke y m n)
      ⟨none, none, none, none, none, [], [], rfl, fun c x q nc => ?_, upd_same, ?_, .nil, Hs.fur_nil⟩ (fun i σ H' _ ⟨_, _, _, _, _, _, _, _, _, q, _⟩ => q) ?_ ?_
    · rw [upd_ne nc, upd_ne (ne_of_none q hu0)]; exact q
    · rw [upd_ne (Ne.symm nue)]; exact upd_same
    · rintro i key val σ H1 Tp hkv ⟨pv, wv, kv, av, lv, o, ko, rfl, s1, hfe, hu1, to1, F1⟩ hTp
      obtain ⟨⟨p, v⟩, hnp, hk1, va, hk2, hva⟩ := paired_get te hkv
      have hk1 : key = Sum.inl (p : Int) := hk1
      have hk2 : val = V.ref va := hk2
      have hva : H va = some (.lst (nl v)) := hva
      subst hk1 hk2
      have hv : v.length = r := hlen p v (List.mem_of_getElem? hnp)
      refine ⟨Tp, _, rfl, SqT.of upd_same, rfl, _, _, rfl, _, _, rfl, rfl, ?_⟩
      have sT : Same H1 (upd H1 Tp (.tup [kV (Sum.inl (p : Int)), V.ref va])) := same_new hTp
      refine ⟨_, rfl, h, l, b, true, y, rfl, hull2 (fun c x q nc => sT _ _ (s1 c x q nc)), hfs, fun a H2 hN => ?_⟩
      have s2 : Same H1 H2 := sT.trans hN.sm
      refine ⟨a, rfl, ⟨_, SqL.of hN.at_⟩, for_list (K := K) (a := a) (xs := nl (numsBy y true)) (FarI H h d e u a va od ke y m n p v i)
        ⟨kv, av, lv, o, ko, rfl, fun c x q nc => s2 _ _ (s1 c x q nc), s2 _ _ hfe, hN.at_, s2 _ _ hu1, to1.keeps fun c xs q => s2 _ _ q, by rw [List.take_zero, List.flatMap_nil, List.append_nil]; exact F1⟩ (fun j σ H' _ ⟨_, _, _, _, _, _, _, _, q, _⟩ => SqL.of q) ?_ ?_⟩
      · rintro j x σ H3 hx ⟨kv, av, lv, o, ko, rfl, s3, hfe3, ha3, hu3, to3, F3⟩
        obtain ⟨kk, hk, rfl⟩ := nl_at hx
        have hkl := wlt kk (List.mem_of_getElem? hk)
        obtain ⟨dx, as, h1, h2, h3, h4, h5⟩ := (hull2 s3).ex
        obtain ⟨c, hc1, hc2, dc, hc3⟩ := HullAt.seam (C := C) (h := h) (l := l) (b := b) (dx := dx) h4 h5 hkl
        have td3 : Tab H3 kd m := td.keeps (lst2 s3)
        have hd3 : H3 d = some (.dK kd) := s3 _ _ hd hde
        have ecs : (n.take i).flatMap (Hs.cand y (inM m) (Hs.wnums y)) ++ ((numsBy y true).take (j + 1)).flatMap (Hs.candK y (inM m) p v) = ((n.take i).flatMap (Hs.cand y (inM m) (Hs.wnums y)) ++ ((numsBy y true).take j).flatMap (Hs.candK y (inM m) p v)) ++ Hs.candK y (inM m) p v kk := by
          rw [take_snoc hk, List.flatMap_append, List.append_assoc]
          simp
        refine ⟨_, rfl, h, C, dx, _, _, rfl, h1, T.clC, T.ns, hf_seams _ _ _, _, rfl, l, _, _, _, rfl, rfl, SqL.of h2, atI_nat hc2, _, rfl, c, seamAt y kk, p, rfl, ⟨dc, hc3⟩, ?_⟩
        cases ho : Kp261.other (seamAt y kk) p with
        | none =>
          have ec : Hs.candK y (inM m) p v kk = [] := by unfold Hs.candK; rw [ho]
          rw [ec, List.append_nil] at ecs
          refine ⟨_, rfl, _, rfl, iteF (iteF ⟨_, _, _, o, ko, rfl, s3, hfe3, ha3, hu3, to3, ?_⟩)⟩
          rw [ecs]; exact F3
        | some q =>
          refine ⟨_, rfl, _, rfl, iteT ⟨_, rfl, _, rfl, d, _, rfl, DGet.k (k := Sum.inl (q : Int)) hd3, _, rfl, ?_⟩⟩
          rw [td3.isSome q]
          cases hi : inM m q with
          | true =>
            have ec : Hs.candK y (inM m) p v kk = [] := by unfold Hs.candK; rw [ho]; simp [hi]
            rw [ec, List.append_nil] at ecs
            refine iteF ⟨_, _, _, o, ko, rfl, s3, hfe3, ha3, hu3, to3, ?_⟩
            rw [ecs]; exact F3
          | false =>
            have ec : Hs.candK y (inM m) p v kk = [(q, v ++ [kk])] := by unfold Hs.candK; rw [ho]; simp [hi]
            rw [ec] at ecs
            have hva3 : H3 va = some (.lst (nl v)) := lst2 s3 _ _ hva
            refine iteT ⟨_, rfl, _, rfl, (by show 1 ≤ sizeLine; decide), fun t1 ht1 => ⟨va, t1, _, _, rfl, rfl, by rw [upd_ne (ne_of_none hva3 ht1)]; exact hva3, upd_same, ?_, fun t2 ht2 => ?_⟩⟩
            · rw [nl_len]; show v.length + 1 ≤ sizeLine; rw [sizeLine_eq]; omega
            have s4 : Same H3 (upd (upd H3 t1 (.lst [V.int (kk : Int)])) t2 (.lst (nl v ++ [V.int (kk : Int)]))) := same_upd (same_new ht1) ht2
            generalize hH4 : upd (upd H3 t1 (.lst [V.int (kk : Int)])) t2 (.lst (nl v ++ [V.int (kk : Int)])) = H4 at s4
            have ht2' : H4 t2 = some (.lst ((Kp261.ints (v ++ [kk])).map V.int)) := by rw [← hH4, upd_same, ints_snoc]
            have hu4 : H4 u = some (.dK ko) := s4 _ _ hu3
            have to4 : Tab H4 ko o := to3.keeps fun c xs q => s4 _ _ q
            have CS := cs_ok (i := i) (p := p) (inW := inM m) hok hlen hv (ks := (numsBy y true).take j) fun z hz => wlt z (List.mem_of_mem_take hz)
            have few : o.length ≤ y.parts := Hs.keys_few F3.nd fun a' b' h' => CS.lt a' b' (F3.lo a' b' h').1
            have lko : ko.length < sizeLine := by rw [to4.len, sizeLine_eq]; omega
            have fin : ∀ (a' : Addr) (w' : List Nat), H4 a' = some (.lst (nl w')) → (w' = v ++ [kk] ∨ (q, w') ∈ o) → Hs.lexLe w' (v ++ [kk]) → (∀ v', (q, v') ∈ o → Hs.lexLe w' v') →
                sDPut (tVar 3) (tVar 7) (tC (V.ref a')) { rt := fun _ _ => True, nx := FarI H h d e u a va od ke y m n p v i (j + 1) }
                [some (.ref h), some (.ref d), some (.ref e), some (.ref u), some (.int (p : Int)), some (.ref va), some (.int (kk : Int)), some (.int (q : Int)), some (.ref t2)] H4 := fun a' w' e1 e2 e3 e4 => by
              refine ⟨_, rfl, _, rfl, u, _, rfl, DPut.k (k := Sum.inl (q : Int)) hu4 lko, ?_⟩
              refine ⟨_, _, _, Hs.putM o q w', _, rfl, fun c x q' nc => ?_, ?_, ?_, upd_same, ?_, ?_⟩
              · have := s4 _ _ (s3 c x q' nc)
                rw [upd_ne (fun z => by rw [z, hu0] at q'; cases q')]; exact this
              · rw [upd_ne (ne_of (s4 _ _ hfe3) hu4 (by intro z; cases z))]; exact s4 _ _ hfe3
              · rw [upd_ne (ne_of (s4 _ _ ha3) hu4 (by intro z; cases z))]; exact s4 _ _ ha3
              · refine (to4.put e1).keeps fun c xs q' => ?_
                rw [upd_ne (ne_of q' hu4 (by intro z; cases z))]; exact q'
              · rw [ecs]
                exact F3.put e2 e3 e4 fun v' hv' => by rw [CS.len q v' hv', List.length_append, List.length_singleton, hv]
            refine ⟨_, rfl, _, rfl, u, rfl, .inl ⟨ko, .inl hu4⟩, _, rfl, _, rfl, _, DGet.k (k := Sum.inl (q : Int)) hu4, ?_⟩
            rcases to4.get q with ⟨g1, g2⟩ | ⟨a2, w2, g1, g2, g3⟩
            · rw [g1]
              refine ⟨t2, t2, _, _, rfl, ht2', ht2', rfl, ?_⟩
              have e0 : (if Lx.lessI (Kp261.ints (v ++ [kk])) (Kp261.ints (v ++ [kk])) = true then t2 else t2) = t2 := by split <;> rfl
              rw [e0]
              exact fin t2 (v ++ [kk]) ht2' (.inl rfl) (Hs.lexLe_refl _) fun v' hv' => absurd hv' (g2 v')
            · rw [g1]
              have lw : w2.length = (v ++ [kk]).length := by rw [CS.len q w2 (F3.lo q w2 g3).1, List.length_append, List.length_singleton, hv]
              refine ⟨t2, a2, _, _, rfl, ht2', g2, by rw [ints_len', ints_len', lw], ?_⟩
              cases hl : Lx.lessI (Kp261.ints w2) (Kp261.ints (v ++ [kk])) with
              | true =>
                exact fin a2 w2 g2 (.inr g3) (less_true hl) fun v' hv' => (F3.lo q w2 g3).2 v' (F3.lo q v' hv').1
              | false =>
                refine fin t2 (v ++ [kk]) ht2' (.inl rfl) (Hs.lexLe_refl _) fun v' hv' => ?_
                have c1 := (F3.lo q v' hv').1
                exact Hs.lexLe_trans (b := w2) lw.symm (by rw [CS.len q w2 (F3.lo q w2 g3).1, CS.len q v' c1]) (less_false lw hl) ((F3.lo q w2 g3).2 v' c1)
      · rintro σ H3 ⟨kv, av, lv, o, ko, rfl, s3, hfe3, ha3, hu3, to3, F3⟩
        refine ⟨_, _, _, _, _, o, ko, rfl, s3, hfe3, hu3, to3, ?_⟩
        rw [nl_len, List.take_length, numsBy_wnums] at F3
        rw [take_snoc hnp, List.flatMap_append]
        simpa [Hs.cand] using F3
    · rintro σ H1 ⟨pv, wv, kv, av, lv, o, ko, rfl, s1, hfe, hu1, to1, F1⟩
      rw [te.len, List.take_length] at F1
      refine ⟨hfe, _, rfl, k u _ o (fun c x q => ?_) ⟨ko, by rw [upd_ne (Ne.symm nue)]; exact hu1, to1.keeps fun c xs q => ?_⟩ hu0 F1⟩
      · by_cases z : c = e
        · rw [z, upd_same, ← he, ← z]; exact q
        · rw [upd_ne z]; exact s1 c x q z
      · rw [upd_ne (ne_of q hfe (by intro z; cases z))]; exact q
end Hl
end
section
set_option Elab.async false
set_option linter.all false
set_option maxRecDepth 100000
set_option maxHeartbeats 4000000
namespace Hl
open PySem PySem.Spec PyProof.Rows L2
open Kp261 (Seam Yard seamAt nums)
variable {P : Program} {w : World} {K : PySem.W.Frag} {mg : Str → Option Value} {base : Heap}
theorem walk_lt {y : Yard} (hok : Hs.okYard y) {to : Nat} : ∀ {l : List Nat} {p : Nat}, p < y.parts → Hs.Walk y to p l → to < y.parts
  | [], p, hp, h => by
    have e : p = to := h
    rw [← e]; exact hp
  | k :: l, p, _, ⟨q, hk, hq, h⟩ => walk_lt hok (other_lt hok (Hs.mem_wnums.mp hk).1 hq) h
abbrev sFrom : Stmt := top 30
def spFrom (C S : Addr) : Sp := fun vs H Q _ => ∃ (h l : Addr) (b : Bool) (y : Yard) (x : Nat), vs = [.ref h, .int (x : Int)] ∧ HullAt C S H h l b y ∧ Hs.okYard y ∧ y.parts ≤ 7 ∧ y.seams.length ≤ 10 ∧ x < y.parts ∧
  ∀ (p : Addr) (H' : Hp) (m : List (Nat × List Nat)), Same H H' → WaysAt H' p m → (∀ q v, (q, v) ∈ m ↔ Hs.Best y q x v) → Q (.ref p) H'
theorem scFrom : FnScope ["hull", "x", "ways", "newest"] ["hull", "x"] (defScope sFrom) := ⟨rfl, rfl, rfl, by decide +kernel, rfl, by decide +kernel, by decide +kernel⟩
theorem one_way {H H1 : Hp} {d l1 : Addr} {x : Nat} (h1 : H1 l1 = some (.lst [])) (hd : H1 d = some (.dK (mergeK [] [(Sum.inl (x : Int), V.ref l1)]))) : WaysAt H1 d [(x, [])] :=
  ⟨_, hd, .cons ⟨rfl, l1, rfl, h1⟩ .nil⟩
theorem ok_from {C S f : Addr} {fd : FuncData} (F : Fun K "ways_from" "ways_from" sFrom f fd) (GF : Prom P w K mg base 2 "ways_one_further" ["hull", "ways", "newest"] (spFurther C S)) : FnOk P w K mg base CX0 3 f fd ["hull", "x"] (spFrom C S) := by
  refine F.ok scFrom (fun vs H Q E h => ?_) (fun cdv A outer s H vs Q E hr h => ?_)
  · obtain ⟨h, l, b, y, x, rfl, _⟩ := h
    rfl
  · obtain ⟨h, l, b, y, x, rfl, hH, hok, hfew, hfs, hx, k⟩ := h
    refine ⟨_, pss_cons (ps_set (i := 2) scFrom.nd rfl (Or.inl rfl) (pe_disp (pps_cons (pv 1) (pe_lst pa_nil) pps_nil) rfl rfl (by simp) (by decide)))
      (pss_cons (ps_set (i := 3) scFrom.nd rfl (Or.inl rfl) (pe_disp (pps_cons (pv 1) (pe_lst pa_nil) pps_nil) rfl rfl (by simp) (by decide)))
      (pss_cons (ps_while PassesOwn.never (pt_truth (pv 3) (fun _ => rfl))
        (pss_cons (ps_set (i := 3) scFrom.nd rfl (Or.inl rfl) (pe_prom GF hr (by decide) rfl (pa_cons (pv 0) (pa_cons (pv 2) (pa_cons (pv 3) pa_nil)))))
        (pss_one (ps_expr (pe_bm PySem.F.plainAttrs_dict PySem.F.slot_dict_update PySem.F.type_dict_update mt_update (pv 2) (pa_cons (pv 3) pa_nil))))))
      (pss_one (ps_ret (pv 2))))), ?_⟩
    refine fun d1 hd1 => ⟨_, rfl, Nat.zero_le _, fun l1 hl1 => ?_⟩
    have n1 : d1 ≠ l1 := fun z => by rw [← z, upd_same] at hl1; cases hl1
    refine ⟨by rw [upd_ne n1]; exact upd_same, [(Sum.inl (x : Int), V.ref l1)], rfl, (by show 1 ≤ 15; decide), ?_⟩
    have hl1' : H l1 = none := by rw [upd_ne (Ne.symm n1)] at hl1; exact hl1
    have sA : Same H (upd (upd (upd H d1 (.dK [])) l1 (.lst [])) d1 (.dK (mergeK [] [(Sum.inl (x : Int), V.ref l1)]))) := fun c o q => by
      rw [upd_ne (ne_of_none q hd1), upd_ne (ne_of_none q hl1'), upd_ne (ne_of_none q hd1)]; exact q
    have wA : WaysAt (upd (upd (upd H d1 (.dK [])) l1 (.lst [])) d1 (.dK (mergeK [] [(Sum.inl (x : Int), V.ref l1)]))) d1 [(x, [])] := one_way (H := H) (l1 := l1) (by rw [upd_ne (Ne.symm n1)]; exact upd_same) upd_same
    generalize upd (upd (upd H d1 (.dK [])) l1 (.lst [])) d1 (.dK (mergeK [] [(Sum.inl (x : Int), V.ref l1)])) = HA at sA wA
    refine fun d2 hd2 => ⟨_, rfl, Nat.zero_le _, fun l2 hl2 => ?_⟩
    have n2 : d2 ≠ l2 := fun z => by rw [← z, upd_same] at hl2; cases hl2
    refine ⟨by rw [upd_ne n2]; exact upd_same, [(Sum.inl (x : Int), V.ref l2)], rfl, (by show 1 ≤ 15; decide), ?_⟩
    have hl2' : HA l2 = none := by rw [upd_ne (Ne.symm n2)] at hl2; exact hl2
    have sB : Same HA (upd (upd (upd HA d2 (.dK [])) l2 (.lst [])) d2 (.dK (mergeK [] [(Sum.inl (x : Int), V.ref l2)]))) := fun c o q => by
      rw [upd_ne (ne_of_none q hd2), upd_ne (ne_of_none q hl2'), upd_ne (ne_of_none q hd2)]; exact q
    have wB : WaysAt (upd (upd (upd HA d2 (.dK [])) l2 (.lst [])) d2 (.dK (mergeK [] [(Sum.inl (x : Int), V.ref l2)]))) d2 [(x, [])] := one_way (H := H) (l1 := l2) (by rw [upd_ne (Ne.symm n2)]; exact upd_same) upd_same
    generalize upd (upd (upd HA d2 (.dK [])) l2 (.lst [])) d2 (.dK (mergeK [] [(Sum.inl (x : Int), V.ref l2)])) = HB at sB wB
    have n12 : d1 ≠ d2 := by
      obtain ⟨_, q, _⟩ := wA
      exact ne_of_none q hd2
    have keys : ∀ {m : List (Nat × List Nat)} {r : Nat}, (m.map (·.1)).Nodup → (∀ q v, (q, v) ∈ m → Hs.Best y q x v) → m.length ≤ y.parts := fun nd hm => Hs.keys_few nd fun q v hqv => walk_lt hok hx (hm q v hqv).walk
    refine ⟨fun mm σ H' => ∃ (nw : Addr) (m n : List (Nat × List Nat)) (r : Nat), σ = [some (.ref h), some (.int (x : Int)), some (.ref d1), some (.ref nw)] ∧ mm = y.parts - r ∧ r ≤ y.parts ∧ Same H H' ∧ d1 ≠ nw ∧ WaysAt H' d1 m ∧ WaysAt H' nw n ∧
        Hs.Level y x r n ∧ (n.map (·.1)).Nodup ∧ (m.map (·.1)).Nodup ∧ ∀ q v, (q, v) ∈ m ↔ Hs.Best y q x v ∧ v.length ≤ r, ⟨y.parts, d2, _, _, 0, rfl, rfl, Nat.zero_le _, sA.trans sB, n12, wA.same sB, wB, Hs.level_zero, by simp, by simp, fun q v => ?_⟩, ?_⟩
    · rw [Hs.level_zero q v]
      exact ⟨fun h => ⟨h.1, by omega⟩, fun h => ⟨h.1, by omega⟩⟩
    · rintro mm σ H1 ⟨nw, m, n, r, rfl, rfl, hrp, s1, hne, wm, ⟨kn, hkn, tn⟩, LV, ndn, ndm, hm⟩
      refine ⟨_, rfl, _, .inr (.inr ⟨kn, hkn, rfl⟩), ?_⟩
      cases tn with
      | nil =>
        refine iteF ⟨_, rfl, k d1 H1 m s1 wm fun q v => ?_⟩
        rw [hm q v]
        refine ⟨fun h => h.1, fun B => ⟨B, ?_⟩⟩
        have := Hs.level_end (r := r) (fun p' w' B' e' => nomatch (LV p' w').mpr ⟨B', e'⟩) B
        omega
      | @cons kv pw kn n hkv tn =>
        have tn' : Tab H1 (kv :: kn) (pw :: n) := .cons hkv tn
        obtain ⟨p0, v0⟩ := pw
        have B0 := (LV p0 v0).mp (by simp)
        have hlt : r < y.parts := by
          rw [← B0.2]
          exact Hs.best_lt hok (walk_lt hok hx B0.1.walk) B0.1
        refine iteT ⟨fun σ' H' => ∃ mm', mm' < y.parts - r ∧ ∃ (nw : Addr) (m n : List (Nat × List Nat)) (r : Nat), σ' = [some (.ref h), some (.int (x : Int)), some (.ref d1), some (.ref nw)] ∧ mm' = y.parts - r ∧ r ≤ y.parts ∧ Same H H' ∧ d1 ≠ nw ∧ WaysAt H' d1 m ∧ WaysAt H' nw n ∧
          Hs.Level y x r n ∧ (n.map (·.1)).Nodup ∧ (m.map (·.1)).Nodup ∧ ∀ q v, (q, v) ∈ m ↔ Hs.Best y q x v ∧ v.length ≤ r, fun σ' H' h' => h', ?_⟩
        refine ⟨_, rfl, _, rfl, _, rfl, h, l, d1, nw, b, y, m, (p0, v0) :: n, r, rfl, Same.hull s1 hH, hok, hfew, hfs, hne, wm, ⟨_, hkn, tn'⟩, by omega, fun p v hpv => ((LV p v).mp hpv).2, fun nw' H2 o s2 wo fr FO => ?_⟩
        have LO : Hs.Level y x (r + 1) o := Hs.level_next LV (fun q => by
          rw [inM_iff]
          exact ⟨fun ⟨v, hv⟩ => ⟨v, (hm q v).mp hv⟩, fun ⟨v, hv⟩ => ⟨v, (hm q v).mpr hv⟩⟩) FO
        obtain ⟨km, hkm, tm⟩ := wm.same s2
        obtain ⟨ko, hko, to⟩ := wo
        have ne' : d1 ≠ nw' := by
          obtain ⟨_, q, _⟩ := wm
          exact ne_of_none q fr
        have l1 : m.length ≤ y.parts := keys (r := r) ndm fun q v hqv => ((hm q v).mp hqv).1
        have l2 : o.length ≤ y.parts := keys (r := r) FO.nd fun q v hqv => ((LO q v).mp hqv).1
        refine ⟨_, rfl, .inr (.inr (.inl ⟨rfl, .inl ⟨km, hkm⟩⟩)), _, rfl, d1, nw', km, ko, rfl, rfl, ne', hkm, hko, ?_, ?_⟩
        · rw [tm.len, to.len, sizeLine_eq]; omega
        refine ⟨y.parts - (r + 1), by omega, nw', Hs.mergeM m o, o, r + 1, rfl, rfl, hlt, fun c q e => ?_, ne', ⟨_, upd_same, (to.merge tm).keeps fun c xs e => ?_⟩, ⟨ko, by rw [upd_ne (Ne.symm ne')]; exact hko, to.keeps fun c xs e => ?_⟩, LO, FO.nd, Hs.mergeM_nodup o ndm, fun q v => ?_⟩
        · have := s2 _ _ (s1 c q e)
          rw [upd_ne (ne_of_none e hd1)]; exact this
        · rw [upd_ne (ne_of e hkm (by intro z; cases z))]; exact e
        · rw [upd_ne (ne_of e hkm (by intro z; cases z))]; exact e
        · rw [Hs.mem_mergeM (R := fun q v => Hs.Best y q x v) (fun a b c h1 h2 => h1.unique h2) (fun a b h => ((hm a b).mp h).1) (fun a b h => ((LO a b).mp h).1) q v, hm q v, LO q v]
          constructor
          · rintro (⟨h1, h2⟩ | ⟨h1, h2⟩)
            · exact ⟨h1, by omega⟩
            · exact ⟨h1, by omega⟩
          · rintro ⟨h1, h2⟩
            rcases Nat.lt_or_ge r v.length with z | z
            · exact .inr ⟨h1, by omega⟩
            · exact .inl ⟨h1, z⟩
abbrev sWayOr : Stmt := top 31
def wayAns : Option (List Nat) → List Int
  | some l => (l.length : Int) :: Kp261.ints l
  | none => [-33]
def spWayOr (C S : Addr) : Sp := fun vs H Q _ => ∃ (h l : Addr) (b : Bool) (y : Yard) (x z : Nat), vs = [.ref h, .int (x : Int), .int (z : Int)] ∧ HullAt C S H h l b y ∧ Hs.okYard y ∧ y.parts ≤ 7 ∧ y.seams.length ≤ 10 ∧ x < y.parts ∧ z < y.parts ∧
  ∀ (p : Addr) (H' : Hp), NewL H H' p ((wayAns (Kp261.way y x z)).map V.int) → Q (.ref p) H'
theorem scWayOr : FnScope ["hull", "x", "y", "way"] ["hull", "x", "y"] (defScope sWayOr) := ⟨rfl, rfl, rfl, by decide +kernel, rfl, by decide +kernel, by decide +kernel⟩
theorem ok_wayOr {C S f : Addr} {fd : FuncData} (F : Fun K "way_or_refusal" "way_or_refusal" sWayOr f fd) (T : Txt K mg C S) (GW : Prom P w K mg base 3 "ways_from" ["hull", "x"] (spFrom C S)) (GC : Prom P w K mg base 1 "counted" ["numbers"] spCounted) :
    FnOk P w K mg base CX0 4 f fd ["hull", "x", "y"] (spWayOr C S) := by
  refine F.ok scWayOr (fun vs H Q E h => ?_) (fun cdv A outer s H vs Q E hr h => ?_)
  · obtain ⟨h, l, b, y, x, z, rfl, _⟩ := h
    rfl
  · obtain ⟨h, l, b, y, x, z, rfl, hH, hok, hfew, hfs, hx, hz, k⟩ := h
    have hu := hu_of hr
    refine ⟨_, pss_cons (ps_set (i := 3) scWayOr.nd rfl (Or.inl rfl) (pe_dget1 hu (pe_prom GW hr (by decide) rfl (pa_cons (pv 0) (pa_cons (pv 1) pa_nil))) (pv 2) ⟨rfl, rfl, rfl, rfl⟩))
      (pss_cons (ps_if (pt_cmp (pc_isN (pv 3))) (pss_one (ps_ret (pe_lst (pa_cons (pe_gint T.cNt rfl) pa_nil)))) pss_nil)
      (pss_one (ps_ret (pe_prom GC hr (by decide) rfl (pa_cons (pv 3) pa_nil))))), ?_⟩
    refine ⟨_, rfl, _, rfl, h, l, b, y, x, rfl, hH, hok, hfew, hfs, hx, fun d H1 m s1 wd M => ?_⟩
    obtain ⟨kd, hd, td⟩ := wd
    refine ⟨d, rfl, .inl ⟨kd, .inl hd⟩, _, rfl, _, DGet.k (k := Sum.inl (z : Int)) hd, ?_⟩
    obtain ⟨W1, W2⟩ := Hs.way_found hok hx hz M
    rcases td.get z with ⟨g1, g2⟩ | ⟨a, v, g1, g2, g3⟩
    · rw [g1]
      rw [W2 g2] at k
      refine ⟨_, rfl, _, rfl, iteT ⟨(by show 1 ≤ sizeLine; decide), fun p hp => k p _ ⟨same_upd s1 hp, upd_same, s1.free hp⟩⟩⟩
    · rw [g1]
      rw [W1 v g3] at k
      have lv : v.length < y.parts := Hs.best_lt hok hz ((M z v).mp g3)
      refine ⟨_, rfl, _, rfl, iteF ⟨_, rfl, a, Kp261.ints v, rfl, g2, by rw [ints_len']; omega, fun p H2 hN => k p H2 ⟨s1.trans hN.sm, ?_, s1.free hN.fr⟩⟩⟩
      rw [hN.at_, ints_len']; rfl
end Hl
end
section
set_option Elab.async false
set_option linter.all false
set_option maxRecDepth 100000
set_option maxHeartbeats 2000000
namespace Hl
open PySem PySem.Spec PyProof.Rows L2
open Kp261 (Seam Yard seamAt nums)
variable {P : Program} {w : World} {K : PySem.W.Frag} {mg : Str → Option Value} {base : Heap}
def HullSt (C S : Addr) (H : Hp) (h l : Addr) : Kp261.State → Prop
  | some y => HullAt C S H h l true y
  | none => ∃ y, HullAt C S H h l false y
structure Frame (H H' : Hp) (l : Addr) : Prop where
  lst : ∀ b xs, H b = some (.lst xs) → b ≠ l → H' b = some (.lst xs)
  frz : ∀ b o u, H b = some (.frz o u) → H' b = some (.frz o u)
theorem Frame.of {TB : Hp → Prop} {H H' : Hp} {l : Addr} (e : Ext TB H H') : Frame H H' l := ⟨fun b xs q _ => e.keep _ _ q (fun _ z => by cases z), fun b o u q => e.keep _ _ q (fun _ z => by cases z)⟩
theorem Frame.then {H H1 H2 : Hp} {l l1 : Addr} (a : Frame H H1 l) (b : Frame H1 H2 l1) (hl : l1 = l ∨ H l1 = none) : Frame H H2 l :=
  ⟨fun c xs q n => b.lst c xs (a.lst c xs q n) (fun z => by
    rcases hl with e | e
    · exact n (z.trans e)
    · rw [z, e] at q; cases q), fun c o u q => b.frz c o u (a.frz c o u q)⟩
structure Done (C S Pt : Addr) (H : Hp) (h l : Addr) (r : Kp261.State × Kp261.Ans) (p : Addr) (H' : Hp) : Prop where
  ex : ∃ l', HullSt C S H' h l' r.1 ∧ (l' = l ∨ H l' = none)
  fr : Frame H H' l
  tb : TBo Pt H'
  at_ : H' p = some (.lst ((r.2.num :: r.2.nums).map V.int))
  new : ∀ b xs, H b = some (.lst xs) → b ≠ p
structure Base (C S Pt : Addr) (H : Hp) (h l : Addr) (y : Yard) : Prop where
  hull : HullAt C S H h l true y
  good : Hs.Good y
  tb : TBo Pt H
def RdAns (C S Pt : Addr) (H : Hp) (h l : Addr) (y : Yard) (c : Kp261.Call) (Q : VK) : Prop := ∀ (p : Addr) (H' : Hp), Done C S Pt H h l (Kp261.step (some y) c) p H' → Q (.ref p) H'
def spAns0 (C S Pt : Addr) (c : Kp261.Call) : Sp := fun vs H Q _ => ∃ (h l : Addr) (y : Yard) (v : V), vs = [.ref h, v] ∧ Base C S Pt H h l y ∧ RdAns C S Pt H h l y c Q
def spAns1 (C S Pt : Addr) (c : Nat → Kp261.Call) : Sp := fun vs H Q _ => ∃ (h l g : Addr) (y : Yard) (k : Nat), vs = [.ref h, .ref g] ∧ Base C S Pt H h l y ∧ H g = some (.lst [.int (k : Int)]) ∧ RdAns C S Pt H h l y (c k) Q
def spAns2 (C S Pt : Addr) (c : Nat → Nat → Kp261.Call) : Sp := fun vs H Q _ => ∃ (h l g : Addr) (y : Yard) (k j : Nat), vs = [.ref h, .ref g] ∧ Base C S Pt H h l y ∧ H g = some (.lst [.int (k : Int), .int (j : Int)]) ∧ RdAns C S Pt H h l y (c k j) Q
def spAns3 (C S Pt : Addr) (c : Nat → Nat → Nat → Kp261.Call) : Sp := fun vs H Q _ => ∃ (h l g : Addr) (y : Yard) (k j i : Nat), vs = [.ref h, .ref g] ∧ Base C S Pt H h l y ∧ H g = some (.lst [.int (k : Int), .int (j : Int), .int (i : Int)]) ∧ RdAns C S Pt H h l y (c k j i) Q
theorem new_of {H H1 : Hp} {l p : Addr} {o : HO} (F : Frame H H1 l) (hl : H1 l = some o) (hp : H1 p = none) : ∀ b xs, H b = some (.lst xs) → b ≠ p := fun b xs e => by
  by_cases z : b = l
  · rw [z]; exact ne_of_none hl hp
  · exact ne_of_none (F.lst b xs e z) hp
theorem done_read {C S Pt : Addr} {H H1 H' : Hp} {h l p : Addr} {y : Yard} {r : Kp261.State × Kp261.Ans} {num : Int} {ns : List Int} (B : Base C S Pt H h l y) (e : Ext (TBo Pt) H H1) (s : Same H1 H') (fr : H1 p = none) (hr : r = (some y, ⟨num, ns⟩)) (hp : H' p = some (.lst ((num :: ns).map V.int))) : Done C S Pt H h l r p H' := by
  subst hr
  have e' : Ext (TBo Pt) H H' := e.trans (.of s)
  exact ⟨⟨l, e'.hull B.hull, .inl rfl⟩, .of e', e'.tb B.tb, hp, fun b xs q => ne_of_none (e.keep _ _ q (fun _ z => by cases z)) fr⟩
theorem ints_len (l : List Nat) : (Kp261.ints l).length = l.length := by unfold Kp261.ints; rw [List.length_map]
theorem order_len (y : Yard) : (Kp261.order y).length ≤ y.seams.length := by
  rw [(Hs.order_told y).2.length_eq, ← open_numsBy]; exact numsBy_len y false
theorem order_lt {y : Yard} {k : Nat} (h : k ∈ Kp261.order y) : k < y.seams.length := (Hs.mem_order.mp h).1
abbrev sAOrder : Stmt := top 39
theorem scAOrder : FnScope ["hull", "given"] ["hull", "given"] (defScope sAOrder) := ⟨rfl, rfl, rfl, by decide +kernel, rfl, by decide +kernel, by decide +kernel⟩
theorem ok_aOrder {C S Pt f : Addr} {fd : FuncData} (F : Fun K "answer_order" "answer_order" sAOrder f fd) (GC : Prom P w K mg base 1 "counted" ["numbers"] spCounted) (GO : Prom P w K mg base 5 "order_told" ["hull"] (spOrder C S Pt)) : FnOk P w K mg base CX0 6 f fd ["hull", "given"] (spAns0 C S Pt .order) := by
  refine F.ok scAOrder (fun vs H Q E h => ?_) (fun cdv A outer s H vs Q E hr h => ?_)
  · obtain ⟨h, l, y, v, rfl, _⟩ := h
    rfl
  · obtain ⟨h, l, y, v, rfl, B, k⟩ := h
    refine ⟨_, pss_one (ps_ret (pe_prom GC hr (by decide) rfl (pa_cons (pe_prom GO hr (by decide) rfl (pa_cons (pv 0) pa_nil)) pa_nil))), ?_⟩
    refine ⟨_, rfl, h, l, true, y, rfl, B.hull, B.good.fewS, B.tb, fun a H1 e1 ha => ?_⟩
    refine ⟨a, _, rfl, ha, ?_, fun p H2 hN => k p H2 (done_read B e1 hN.sm hN.fr ?_ hN.at_)⟩
    · rw [ints_len]; have := order_len y; have := B.good.fewS; omega
    · show (some y, Kp261.tellAll (Kp261.order y)) = _
      unfold Kp261.tellAll
      rw [ints_len]
abbrev sALocked : Stmt := top 42
theorem scALocked : FnScope ["hull", "given"] ["hull", "given"] (defScope sALocked) := ⟨rfl, rfl, rfl, by decide +kernel, rfl, by decide +kernel, by decide +kernel⟩
theorem ok_aLocked {C S Pt f : Addr} {fd : FuncData} (F : Fun K "answer_locked" "answer_locked" sALocked f fd) (GC : Prom P w K mg base 1 "counted" ["numbers"] spCounted) (GO : Prom P w K mg base 5 "order_told" ["hull"] (spOrder C S Pt))
    (GL : Prom P w K mg base 3 "locked_of" ["hull", "numbers"] (spLockedOf C S)) : FnOk P w K mg base CX0 6 f fd ["hull", "given"] (spAns0 C S Pt .locked) := by
  refine F.ok scALocked (fun vs H Q E h => ?_) (fun cdv A outer s H vs Q E hr h => ?_)
  · obtain ⟨h, l, y, v, rfl, _⟩ := h
    rfl
  · obtain ⟨h, l, y, v, rfl, B, k⟩ := h
    refine ⟨_, pss_one (ps_ret (pe_prom GC hr (by decide) rfl (pa_cons (pe_prom GL hr (by decide) rfl (pa_cons (pv 0) (pa_cons (pe_prom GO hr (by decide) rfl (pa_cons (pv 0) pa_nil)) pa_nil))) pa_nil))), ?_⟩
    have l1 := order_len y
    have l2 := B.good.fewS
    refine ⟨_, rfl, _, rfl, h, l, true, y, rfl, B.hull, B.good.fewS, B.tb, fun a H1 e1 ha => ?_⟩
    refine ⟨h, l, a, true, y, _, rfl, e1.hull B.hull, B.good.ok, B.good.few, B.good.fewS, ha, fun k hk => order_lt hk, by omega, fun q H2 hN2 => ?_⟩
    refine ⟨q, _, rfl, hN2.at_, ?_, fun p H3 hN => k p H3 (done_read B (e1.trans (.of hN2.sm)) hN.sm hN.fr ?_ hN.at_)⟩
    · rw [ints_len]; exact Nat.le_trans (Hs.lockRec_len _ _) (by omega)
    · show (some y, Kp261.tellAll (Kp261.lockedOf y (Kp261.order y))) = _
      unfold Kp261.tellAll
      rw [ints_len, Hs.lockedOf_eq]
abbrev sAMany : Stmt := top 43
theorem scAMany : FnScope ["hull", "given"] ["hull", "given"] (defScope sAMany) := ⟨rfl, rfl, rfl, by decide +kernel, rfl, by decide +kernel, by decide +kernel⟩
theorem ok_aMany {C S Pt f : Addr} {fd : FuncData} (F : Fun K "answer_many" "answer_many" sAMany f fd) (T : Txt K mg C S) (GB : Prom P w K mg base 1 "seams_by_weld" ["hull", "welded"] (spByWeld C S))
    (GL : Prom P w K mg base 3 "locked_of" ["hull", "numbers"] (spLockedOf C S)) : FnOk P w K mg base CX0 6 f fd ["hull", "given"] (spAns0 C S Pt .many) := by
  refine F.ok scAMany (fun vs H Q E h => ?_) (fun cdv A outer s H vs Q E hr h => ?_)
  · obtain ⟨h, l, y, v, rfl, _⟩ := h
    rfl
  · obtain ⟨h, l, y, v, rfl, B, k⟩ := h
    refine ⟨_, pss_one (ps_ret (pe_lst (pa_cons (pe_callB call_len_seq (by rfl) T.blen PySem.boot_len (pa_cons (pe_prom GL hr (by decide) rfl (pa_cons (pv 0) (pa_cons (pe_prom GB hr (by decide) rfl (pa_cons (pv 0) (pa_cons pe_bl pa_nil))) pa_nil))) pa_nil)) pa_nil))), ?_⟩
    have l1 := numsBy_len y false
    have l2 := B.good.fewS
    refine ⟨_, rfl, _, rfl, h, l, true, false, y, rfl, B.hull, B.good.fewS, fun a H1 hN1 => ?_⟩
    refine ⟨h, l, a, true, y, _, rfl, Same.hull hN1.sm B.hull, B.good.ok, B.good.few, B.good.fewS, hN1.at_, fun k hk => numsBy_lt hk, by omega, fun q H2 hN2 => ?_⟩
    refine ⟨q, _, rfl, .inl (SqL.of hN2.at_), (by show 1 ≤ sizeLine; decide), fun p hp => k p _ (done_read (num := _) (ns := []) B (.of (hN1.sm.trans hN2.sm)) (same_new hp) hp ?_ upd_same)⟩
    show (some y, Kp261.say ((Kp261.lockedOf y (Kp261.open_ y)).length : Int)) = _
    rw [Hs.lockedOf_eq, ← open_numsBy, nl_len]
    rfl
abbrev sASofar : Stmt := top 41
theorem scASofar : FnScope ["hull", "given"] ["hull", "given"] (defScope sASofar) := ⟨rfl, rfl, rfl, by decide +kernel, rfl, by decide +kernel, by decide +kernel⟩
theorem ok_aSofar {C S Pt f : Addr} {fd : FuncData} (F : Fun K "answer_sofar" "answer_sofar" sASofar f fd) (GS : Prom P w K mg base 1 "strain_so_far" ["hull"] (spSoFar C S)) : FnOk P w K mg base CX0 6 f fd ["hull", "given"] (spAns0 C S Pt .sofar) := by
  refine F.ok scASofar (fun vs H Q E h => ?_) (fun cdv A outer s H vs Q E hr h => ?_)
  · obtain ⟨h, l, y, v, rfl, _⟩ := h
    rfl
  · obtain ⟨h, l, y, v, rfl, B, k⟩ := h
    refine ⟨_, pss_one (ps_ret (pe_lst (pa_cons (pe_prom GS hr (by decide) rfl (pa_cons (pv 0) pa_nil)) pa_nil))), ?_⟩
    refine ⟨_, rfl, h, l, true, y, rfl, B.hull, B.good, fun H1 s1 => ⟨(by show 1 ≤ sizeLine; decide), fun p hp => k p _ (done_read (num := _) (ns := []) B (.of s1) (same_new hp) hp rfl upd_same)⟩⟩
abbrev sALeast : Stmt := top 40
theorem scALeast : FnScope ["hull", "given", "locked"] ["hull", "given"] (defScope sALeast) := ⟨rfl, rfl, rfl, by decide +kernel, rfl, by decide +kernel, by decide +kernel⟩
theorem ok_aLeast {C S Pt f : Addr} {fd : FuncData} (F : Fun K "answer_least" "answer_least" sALeast f fd) (GO : Prom P w K mg base 5 "order_told" ["hull"] (spOrder C S Pt)) (GL : Prom P w K mg base 3 "locked_of" ["hull", "numbers"] (spLockedOf C S))
    (GT : Prom P w K mg base 1 "strain_of" ["hull", "numbers"] (spStrainOf C S)) (GS : Prom P w K mg base 1 "strain_so_far" ["hull"] (spSoFar C S)) : FnOk P w K mg base CX0 6 f fd ["hull", "given"] (spAns0 C S Pt .least) := by
  refine F.ok scALeast (fun vs H Q E h => ?_) (fun cdv A outer s H vs Q E hr h => ?_)
  · obtain ⟨h, l, y, v, rfl, _⟩ := h
    rfl
  · obtain ⟨h, l, y, v, rfl, B, k⟩ := h
    refine ⟨_, pss_cons (ps_set (i := 2) scALeast.nd rfl (Or.inl rfl) (pe_prom GL hr (by decide) rfl (pa_cons (pv 0) (pa_cons (pe_prom GO hr (by decide) rfl (pa_cons (pv 0) pa_nil)) pa_nil))))
      (pss_one (ps_ret (pe_lst (pa_cons (pe_prom GT hr (by decide) rfl (pa_cons (pv 0) (pa_cons (pv 2) pa_nil))) (pa_cons (pe_prom GS hr (by decide) rfl (pa_cons (pv 0) pa_nil)) pa_nil))))), ?_⟩
    have l1 := order_len y
    have l2 := B.good.fewS
    refine ⟨_, rfl, _, rfl, h, l, true, y, rfl, B.hull, B.good.fewS, B.tb, fun a H1 e1 ha => ?_⟩
    refine ⟨h, l, a, true, y, _, rfl, e1.hull B.hull, B.good.ok, B.good.few, B.good.fewS, ha, fun k hk => order_lt hk, by omega, fun q H2 hN2 => ?_⟩
    have hH2 := Same.hull hN2.sm (e1.hull B.hull)
    refine ⟨_, rfl, _, rfl, h, l, q, true, y, _, rfl, hH2, hN2.at_, fun k hk => order_lt (Hs.lockRec_sub _ _ _ hk), Nat.le_trans (Hs.lockRec_len _ _) (by omega), fun H3 s3 => ?_⟩
    refine ⟨_, rfl, h, l, true, y, rfl, Same.hull s3 hH2, B.good, fun H4 s4 => ⟨(by show 2 ≤ sizeLine; decide), fun p hp => k p _ (done_read (num := _) (ns := [_]) B (e1.trans (.of ((hN2.sm.trans s3).trans s4))) (same_new hp) hp ?_ upd_same)⟩⟩
    show (some y, (⟨(Kp261.least y : Int), Kp261.ints [Kp261.sofar y]⟩ : Kp261.Ans)) = _
    rw [Hs.least_eq, Hs.lockedOf_eq]
    rfl
end Hl
end
section
set_option Elab.async false
set_option linter.all false
set_option maxRecDepth 100000
set_option maxHeartbeats 2000000
namespace Hl
open PySem PySem.Spec PyProof.Rows L2
open Kp261 (Seam Yard seamAt nums)
variable {P : Program} {w : World} {K : PySem.W.Frag} {mg : Str → Option Value} {base : Heap}
theorem hf_sf {C S dx dc : Addr} {b : Bool} {n : Nat} {l : Addr} {s : Seam} : HO.ins C dx (hf b n l) ≠ HO.ins S dc (sf s) := by
  intro z
  injection z with _ _ z
  unfold hf sf at z
  injection z with z _
  injection z with z _
  exact absurd z (by decide)
theorem hull_set {C S : Addr} {H : Hp} {h l a : Addr} {b : Bool} {y : Yard} {dx dc : Addr} {as : List Addr} {k : Nat} {s' : Seam} (h1 : H h = some (.ins C dx (hf b y.parts l))) (h2 : H l = some (.lst (as.map V.ref))) (h3 : as.Nodup) (h4 : as.length = y.seams.length)
    (h5 : ∀ (j : Nat) (a : Addr), as[j]? = some a → ∃ s, y.seams[j]? = some s ∧ SeamAt S H a s) (ha : as[k]? = some a) : HullAt C S (upd H a (.ins S dc (sf s'))) h l b { y with seams := y.seams.set k s' } := by
  obtain ⟨s, hs, d, hd⟩ := h5 k a ha
  have na : h ≠ a := ne_of h1 hd hf_sf
  have la : l ≠ a := ne_of h2 hd (by intro z; cases z)
  have hk : k < y.seams.length := (List.getElem?_eq_some_iff.mp hs).1
  refine ⟨dx, as, by rw [upd_ne na]; exact h1, by rw [upd_ne la]; exact h2, h3, by show as.length = (y.seams.set k s').length; rw [List.length_set]; exact h4, fun j c hc => ?_⟩
  by_cases e : j = k
  · subst e
    rw [ha] at hc
    cases hc
    exact ⟨s', List.getElem?_set_self hk, dc, upd_same⟩
  · obtain ⟨t, ht, dt, hdt⟩ := h5 j c hc
    have nc : c ≠ a := fun z => e (nd_ix h3 hc (by rw [z]; exact ha))
    exact ⟨t, by show (y.seams.set k s')[j]? = _; rw [List.getElem?_set_ne (fun z => e z.symm)]; exact ht, dt, by rw [upd_ne nc]; exact hdt⟩
def noT : HO → Bool
  | .tbl _ => false
  | .ext _ => false
  | _ => true
theorem TBo.upd {Pt a : Addr} {H : Hp} {o o' : HO} (t : TBo Pt H) (ha : H a = some o) (n : noT o = true) : TBo Pt (L2.upd H a o') := by
  rcases t with t | ⟨c, t, u⟩
  · have z : Pt ≠ a := ne_of t ha (by intro z; rw [← z] at n; cases n)
    exact .inl (by rw [upd_ne z]; exact t)
  · have z : Pt ≠ a := ne_of t ha (by intro z; rw [← z] at n; cases n)
    have z2 : c ≠ a := ne_of u ha (by intro z; rw [← z] at n; cases n)
    exact .inr ⟨c, by rw [upd_ne z]; exact t, by rw [upd_ne z2]; exact u⟩
theorem TBo.new {Pt a : Addr} {H : Hp} {o' : HO} (t : TBo Pt H) (ha : H a = none) : TBo Pt (L2.upd H a o') := t.same (same_new ha)
theorem Frame.refl (H : Hp) (l : Addr) : Frame H H l := ⟨fun _ _ e _ => e, fun _ _ _ e => e⟩
theorem Frame.ins {H : Hp} {l a C dx : Addr} {fs : List (Str × V)} {o : HO} (ha : H a = some (.ins C dx fs)) : Frame H (upd H a o) l :=
  ⟨fun b xs e _ => by rw [upd_ne (ne_of e ha (by intro z; cases z))]; exact e, fun b u v e => by rw [upd_ne (ne_of e ha (by intro z; cases z))]; exact e⟩
theorem Frame.new {H : Hp} {l a : Addr} {o : HO} (ha : H a = none) : Frame H (upd H a o) l :=
  ⟨fun b xs e _ => by rw [upd_ne (ne_of_none e ha)]; exact e, fun b u v e => by rw [upd_ne (ne_of_none e ha)]; exact e⟩
theorem Frame.same {H H' : Hp} {l : Addr} (s : Same H H') : Frame H H' l := ⟨fun b xs e _ => s _ _ e, fun b u v e => s _ _ e⟩
theorem dec_lt (k n : Nat) : decide (0 ≤ (k : Int) ∧ (k : Int) < (n : Int)) = decide (k < n) := by
  by_cases h : k < n
  · rw [decide_eq_true h]; exact decide_eq_true ⟨by omega, by omega⟩
  · rw [decide_eq_false h]; exact decide_eq_false (by omega)
theorem at0 {xs : List V} {v : V} (h : xs[0]? = some v) : atI xs 0 = some v := at_of (j := 0) rfl h
theorem at1 {xs : List V} {v : V} (h : xs[1]? = some v) : atI xs 1 = some v := at_of (j := 1) rfl h
theorem at2 {xs : List V} {v : V} (h : xs[2]? = some v) : atI xs 2 = some v := at_of (j := 2) rfl h
abbrev sAPart : Stmt := top 34
theorem scAPart : FnScope ["hull", "given"] ["hull", "given"] (defScope sAPart) := ⟨rfl, rfl, rfl, by decide +kernel, rfl, by decide +kernel, by decide +kernel⟩
theorem ok_aPart {C S Pt f : Addr} {fd : FuncData} (F : Fun K "answer_part" "answer_part" sAPart f fd) (T : Txt K mg C S) : FnOk P w K mg base CX0 6 f fd ["hull", "given"] (spAns0 C S Pt .part) := by
  refine F.ok scAPart (fun vs H Q E h => ?_) (fun cdv A outer s H vs Q E hr h => ?_)
  · obtain ⟨h, l, y, v, rfl, _⟩ := h
    rfl
  · obtain ⟨h, l, y, v, rfl, B, k⟩ := h
    obtain ⟨dx, as, h1, h2, h3, h4, h5⟩ := B.hull.ex
    refine ⟨_, pss_cons (ps_if (pt_cmpR op_eq (pe_fld (pv 0) rfl) (pe_gint T.cP rfl) (nomark _)) (pss_one (ps_ret (pe_lst (pa_cons (pe_gint T.cFu rfl) pa_nil)))) pss_nil)
      (pss_cons (ps_fldaug (pv 0) pe_int in_add) (pss_one (ps_ret (pe_lst (pa_cons (pe_op op_sub (pe_fld (pv 0) rfl) pe_int) pa_nil))))), ?_⟩
    refine ⟨_, rfl, h, C, dx, _, _, rfl, h1, T.clC, T.np, hf_parts _ _ _, rfl, _, rfl, ?_⟩
    have est : Kp261.step (some y) .part = if Kp261.PARTS ≤ y.parts then (some y, Kp261.say (-28)) else (some { y with parts := y.parts + 1 }, Kp261.say (y.parts : Int)) := rfl
    have f7 := B.good.few
    have e7 : Kp261.PARTS = 7 := rfl
    refine ite2 (fun c => ?_) (fun c => ?_)
    · have c' : V.int (y.parts : Int) = V.int 7 := of_decide_eq_true c
      injection c' with c'
      rw [if_pos (by omega)] at est
      exact ⟨(by show 1 ≤ sizeLine; decide), fun p hp => k p _ (done_read (num := -28) (ns := []) B (.of (Same.refl _)) (same_new hp) hp est upd_same)⟩
    · have c' : ¬ (y.parts : Int) = 7 := fun z => c (decide_eq_true (by rw [z]))
      rw [if_neg (by omega)] at est
      refine ⟨_, rfl, h, C, dx, _, _, rfl, h1, T.clC, T.np, hf_parts _ _ _, _, _, rfl, rfl, dx, _, h1, (by show 3 < 1000; decide), ?_⟩
      have e1 : putF "part_count" (V.int ((y.parts : Int) + 1)) (hf true y.parts l) = hf true (y.parts + 1) l := put_parts true y.parts (y.parts + 1) l
      rw [e1]
      refine ⟨_, rfl, h, C, dx, _, _, rfl, upd_same, T.clC, T.np, hf_parts _ _ _, _, _, rfl, rfl, (by show 1 ≤ sizeLine; decide), fun p hp => k p _ ?_⟩
      have lh : l ≠ h := ne_of h2 h1 (by intro z; cases z)
      refine ⟨⟨l, ?_, .inl rfl⟩, (Frame.ins h1).then (.new hp) (.inl rfl), (B.tb.upd h1 rfl).new hp, ?_, new_of (Frame.ins h1) (by rw [upd_ne lh]; exact h2) hp⟩
      · rw [est]
        refine Same.hull (same_new hp) ⟨dx, as, upd_same, by rw [upd_ne lh]; exact h2, h3, h4, fun j a ha => ?_⟩
        obtain ⟨t, ht, dt, hdt⟩ := h5 j a ha
        exact ⟨t, ht, dt, by rw [upd_ne (Ne.symm (ne_of h1 hdt hf_sf))]; exact hdt⟩
      · rw [est, upd_same]
        show some (HO.lst [V.int (((y.parts + 1 : Nat) : Int) - 1)]) = some (HO.lst [V.int (y.parts : Int)])
        have : ((y.parts + 1 : Nat) : Int) - 1 = (y.parts : Int) := by omega
        rw [this]
abbrev sABegin : Stmt := top 33
def spBegin (C S Pt : Addr) : Sp := fun vs H Q _ => ∃ (h l g : Addr) (st : Kp261.State) (n : Nat), vs = [.ref h, .ref g] ∧ HullSt C S H h l st ∧ TBo Pt H ∧ H g = some (.lst [.int (n : Int)]) ∧ ∀ (p : Addr) (H' : Hp), Done C S Pt H h l (Kp261.step st (.begin_ n)) p H' → Q (.ref p) H'
theorem scABegin : FnScope ["hull", "given", "n"] ["hull", "given"] (defScope sABegin) := ⟨rfl, rfl, rfl, by decide +kernel, rfl, by decide +kernel, by decide +kernel⟩
theorem hullSt_at {C S : Addr} {H : Hp} {h l : Addr} {st : Kp261.State} (a : HullSt C S H h l st) : ∃ b y, HullAt C S H h l b y := by
  cases st with
  | none => obtain ⟨y, a⟩ := a; exact ⟨false, y, a⟩
  | some y => exact ⟨true, y, a⟩
theorem Same.hullSt {C S : Addr} {H H' : Hp} {h l : Addr} {st : Kp261.State} (s : Same H H') (a : HullSt C S H h l st) : HullSt C S H' h l st := by
  cases st with
  | none => obtain ⟨y, a⟩ := a; exact ⟨y, Same.hull s a⟩
  | some y => exact Same.hull s a
theorem ok_aBegin {C S Pt f : Addr} {fd : FuncData} (F : Fun K "answer_begin" "answer_begin" sABegin f fd) (T : Txt K mg C S) : FnOk P w K mg base CX0 6 f fd ["hull", "given"] (spBegin C S Pt) := by
  refine F.ok scABegin (fun vs H Q E h => ?_) (fun cdv A outer s H vs Q E hr h => ?_)
  · obtain ⟨h, l, g, st, n, rfl, _⟩ := h
    rfl
  · obtain ⟨h, l, g, st, n, rfl, hst, hT, hg, k⟩ := h
    obtain ⟨b, y, hH⟩ := hullSt_at hst
    obtain ⟨dx, as, h1, h2, h3, h4, h5⟩ := hH.ex
    refine ⟨_, pss_cons (ps_set (i := 2) scABegin.nd rfl (Or.inl rfl) (pe_ix ix_list (pv 1) pe_int (fun _ _ => rfl)))
      (pss_cons (ps_if (pt_cmpR op_gt (pv 2) (pe_gint T.cP rfl) (nomark _)) (pss_one (ps_ret (pe_lst (pa_cons (pe_gint T.cOb rfl) pa_nil)))) pss_nil)
      (pss_cons (ps_fld (pv 0) pe_bl rfl) (pss_cons (ps_fld (pv 0) (pv 2) rfl) (pss_cons (ps_fld (pv 0) (pe_lst pa_nil) rfl) (pss_one (ps_ret (pe_lst (pa_cons pe_int pa_nil)))))))), ?_⟩
    refine ⟨_, rfl, g, _, _, _, rfl, rfl, SqL.of hg, at0 rfl, ?_⟩
    refine ⟨_, rfl, _, _, rfl, rfl, _, rfl, ?_⟩
    have est : Kp261.step st (.begin_ n) = if Kp261.PARTS < n then (st, Kp261.say (-22)) else (some ⟨n, []⟩, Kp261.say 0) := rfl
    have e7 : Kp261.PARTS = 7 := rfl
    refine ite2 (fun c => ?_) (fun c => ?_)
    · have c' : (7 : Int) < (n : Int) := of_decide_eq_true c
      rw [if_pos (by omega)] at est
      refine ⟨(by show 1 ≤ sizeLine; decide), fun p hp => k p _ ⟨⟨l, ?_, .inl rfl⟩, .new hp, hT.new hp, ?_, new_of (Frame.refl H l) h2 hp⟩⟩
      · rw [est]; exact Same.hullSt (same_new hp) hst
      · rw [est]; exact upd_same
    · have c' : ¬ (7 : Int) < (n : Int) := fun z => c (decide_eq_true z)
      rw [if_neg (by omega)] at est
      refine ⟨_, rfl, h, C, dx, _, rfl, h1, T.clC, T.nb, (by show 3 < 1000; decide), ?_⟩
      refine ⟨_, rfl, _, rfl, h, C, dx, _, rfl, upd_same, T.clC, T.np, (by show 3 < 1000; decide), ?_⟩
      refine ⟨Nat.zero_le _, fun q hq => ?_⟩
      have nq : q ≠ h := fun z => by rw [z, upd_same] at hq; cases hq
      have hq0 : H q = none := by rw [upd_ne nq, upd_ne nq] at hq; exact hq
      refine ⟨_, rfl, h, C, dx, _, rfl, (by rw [upd_ne (Ne.symm nq)]; exact upd_same), T.clC, T.ns, (by show 3 < 1000; decide), ?_⟩
      refine ⟨(by show 1 ≤ sizeLine; decide), fun p hp => k p _ ⟨⟨q, ?_, .inr hq0⟩, ?_, ?_, ?_, ?_⟩⟩
      · rw [est]
        refine Same.hull (same_new hp) ⟨dx, [], upd_same, ?_, .nil, rfl, fun j a e => by simp at e⟩
        rw [upd_ne nq, upd_same]; rfl
      · exact ((((Frame.ins h1).then (.ins upd_same) (.inl rfl)).then (.new hq) (.inl rfl)).then (.ins (by rw [upd_ne (Ne.symm nq)]; exact upd_same)) (.inl rfl)).then (.new hp) (.inl rfl)
      · exact ((((hT.upd h1 rfl).upd upd_same rfl).new hq).upd (by rw [upd_ne (Ne.symm nq)]; exact upd_same) rfl).new hp
      · rw [est]; exact upd_same
      · have lh : l ≠ h := ne_of h2 h1 (by intro z; cases z)
        have lq : l ≠ q := ne_of_none h2 hq0
        exact new_of ((((Frame.ins h1).then (.ins upd_same) (.inl rfl)).then (.new hq) (.inl rfl)).then (.ins (by rw [upd_ne (Ne.symm nq)]; exact upd_same)) (.inl rfl)) (by rw [upd_ne lh, upd_ne lq, upd_ne lh, upd_ne lh]; exact h2) hp
abbrev sAStrain : Stmt := top 38
theorem scAStrain : FnScope ["hull", "given", "k", "s", "seam", "was"] ["hull", "given"] (defScope sAStrain) := ⟨rfl, rfl, rfl, by decide +kernel, rfl, by decide +kernel, by decide +kernel⟩
theorem ok_aStrain {C S Pt f : Addr} {fd : FuncData} (F : Fun K "answer_strain" "answer_strain" sAStrain f fd) (T : Txt K mg C S) (GI : Prom P w K mg base 1 "is_seam" ["hull", "k"] (spIsSeam C S)) (GT : Prom P w K mg base 1 "is_strain" ["s"] spIsStrain) :
    FnOk P w K mg base CX0 6 f fd ["hull", "given"] (spAns2 C S Pt .strain) := by
  refine F.ok scAStrain (fun vs H Q E h => ?_) (fun cdv A outer s H vs Q E hr h => ?_)
  · obtain ⟨h, l, g, y, k, j, rfl, _⟩ := h
    rfl
  · obtain ⟨h, l, g, y, n, j, rfl, B, hg, k⟩ := h
    obtain ⟨dx, as, h1, h2, h3, h4, h5⟩ := B.hull.ex
    refine ⟨_, pss_cons (ps_set (i := 2) scAStrain.nd rfl (Or.inl rfl) (pe_ix ix_list (pv 1) pe_int (fun _ _ => rfl)))
      (pss_cons (ps_set (i := 3) scAStrain.nd rfl (Or.inl rfl) (pe_ix ix_list (pv 1) pe_int (fun _ _ => rfl)))
      (pss_cons (ps_if (pt_not (pt_val (pe_prom GI hr (by decide) rfl (pa_cons (pv 0) (pa_cons (pv 2) pa_nil))))) (pss_one (ps_ret (pe_lst (pa_cons (pe_gint T.cNo rfl) pa_nil)))) pss_nil)
      (pss_cons (ps_if (pt_not (pt_val (pe_prom GT hr (by decide) rfl (pa_cons (pv 3) pa_nil)))) (pss_one (ps_ret (pe_lst (pa_cons (pe_gint T.cOb rfl) pa_nil)))) pss_nil)
      (pss_cons (ps_set (i := 4) scAStrain.nd rfl (Or.inl rfl) (pe_ix ix_list (pe_fld (pv 0) rfl) (pv 2) (fun _ _ => rfl)))
      (pss_cons (ps_set (i := 5) scAStrain.nd rfl (Or.inl rfl) (pe_fld (pv 4) rfl))
      (pss_cons (ps_fld (pv 4) (pv 3) rfl) (pss_one (ps_ret (pe_lst (pa_cons (pv 5) pa_nil)))))))))), ?_⟩
    refine ⟨_, rfl, g, _, _, _, rfl, rfl, SqL.of hg, at0 rfl, ?_⟩
    refine ⟨_, rfl, g, _, _, _, rfl, rfl, SqL.of hg, at1 rfl, ?_⟩
    refine ⟨_, rfl, _, rfl, h, l, _, true, y, rfl, B.hull, _, rfl, ?_⟩
    have est : Kp261.step (some y) (.strain n j) = if Kp261.isSeam y n = false then (some y, Kp261.say (-2)) else if j = 0 ∨ 1000 < j then (some y, Kp261.say (-22)) else (some { y with seams := y.seams.set n { seamAt y n with strain := j } }, Kp261.say ((seamAt y n).strain : Int)) := rfl
    rw [dec_lt]
    refine ite2 (fun c => ?_) (fun c => ?_)
    · have c' : Kp261.isSeam y n = false := by simpa [Kp261.isSeam] using c
      rw [if_pos c'] at est
      exact ⟨(by show 1 ≤ sizeLine; decide), fun p hp => k p _ (done_read (num := -2) (ns := []) B (.of (Same.refl _)) (same_new hp) hp est upd_same)⟩
    · have hn : n < y.seams.length := by simpa using c
      have c' : ¬ Kp261.isSeam y n = false := by simpa [Kp261.isSeam] using hn
      rw [if_neg c'] at est
      refine ⟨_, rfl, _, rfl, _, rfl, ?_⟩
      refine ite2 (fun d => ?_) (fun d => ?_)
      · have d' : j = 0 ∨ 1000 < j := by
          have : ¬ ((1 : Int) ≤ (j : Int) ∧ (j : Int) ≤ 1000) := fun z => by rw [decide_eq_true z] at d; cases d
          omega
        rw [if_pos d'] at est
        exact ⟨(by show 1 ≤ sizeLine; decide), fun p hp => k p _ (done_read (num := -22) (ns := []) B (.of (Same.refl _)) (same_new hp) hp est upd_same)⟩
      · have d' : ¬ (j = 0 ∨ 1000 < j) := by
          have : (1 : Int) ≤ (j : Int) ∧ (j : Int) ≤ 1000 := by simpa using d
          omega
        rw [if_neg d'] at est
        obtain ⟨c, hc1, hc2, dc, hc3⟩ := HullAt.seam (C := C) (h := h) (l := l) (b := true) (dx := dx) h4 h5 hn
        refine ⟨_, rfl, h, C, dx, _, _, rfl, h1, T.clC, T.ns, hf_seams _ _ _, _, rfl, l, _, _, _, rfl, rfl, SqL.of h2, atI_nat hc2, ?_⟩
        refine ⟨_, rfl, c, S, dc, _, _, rfl, hc3, T.clS, T.nt, sf_strain _, ?_⟩
        refine ⟨_, rfl, _, rfl, c, S, dc, _, rfl, hc3, T.clS, T.nt, (by show 5 < 1000; decide), ?_⟩
        refine ⟨_, rfl, (by show 1 ≤ sizeLine; decide), fun p hp => k p _ ⟨⟨l, ?_, .inl rfl⟩, (Frame.ins hc3).then (.new hp) (.inl rfl), (B.tb.upd hc3 rfl).new hp, ?_, new_of (Frame.ins hc3) (by rw [upd_ne (ne_of h2 hc3 (by intro z; cases z))]; exact h2) hp⟩⟩
        · rw [est]
          refine Same.hull (same_new hp) ?_
          rw [put_strain]
          exact hull_set h1 h2 h3 h4 h5 hc1
        · rw [est]; exact upd_same
abbrev sACut : Stmt := top 37
theorem scACut : FnScope ["hull", "given", "k", "seam", "was_locked"] ["hull", "given"] (defScope sACut) := ⟨rfl, rfl, rfl, by decide +kernel, rfl, by decide +kernel, by decide +kernel⟩
theorem ok_aCut {C S Pt f : Addr} {fd : FuncData} (F : Fun K "answer_cut" "answer_cut" sACut f fd) (T : Txt K mg C S) (GI : Prom P w K mg base 1 "is_seam" ["hull", "k"] (spIsSeam C S)) :
    FnOk P w K mg base CX0 6 f fd ["hull", "given"] (spAns1 C S Pt .cut) := by
  refine F.ok scACut (fun vs H Q E h => ?_) (fun cdv A outer s H vs Q E hr h => ?_)
  · obtain ⟨h, l, g, y, k, rfl, _⟩ := h
    rfl
  · obtain ⟨h, l, g, y, n, rfl, B, hg, k⟩ := h
    obtain ⟨dx, as, h1, h2, h3, h4, h5⟩ := B.hull.ex
    refine ⟨_, pss_cons (ps_set (i := 2) scACut.nd rfl (Or.inl rfl) (pe_ix ix_list (pv 1) pe_int (fun _ _ => rfl)))
      (pss_cons (ps_if (pt_not (pt_val (pe_prom GI hr (by decide) rfl (pa_cons (pv 0) (pa_cons (pv 2) pa_nil))))) (pss_one (ps_ret (pe_lst (pa_cons (pe_gint T.cNo rfl) pa_nil)))) pss_nil)
      (pss_cons (ps_set (i := 3) scACut.nd rfl (Or.inl rfl) (pe_ix ix_list (pe_fld (pv 0) rfl) (pv 2) (fun _ _ => rfl)))
      (pss_cons (ps_if (pt_not (pt_val (pe_fld (pv 3) rfl))) (pss_one (ps_ret (pe_lst (pa_cons (pe_gint T.cNw rfl) pa_nil)))) pss_nil)
      (pss_cons (ps_set (i := 4) scACut.nd rfl (Or.inl rfl) (pe_fld (pv 3) rfl))
      (pss_cons (ps_fld (pv 3) pe_bl rfl) (pss_cons (ps_fld (pv 3) pe_bl rfl) (pss_one (ps_ret (pe_lst (pa_cons (pe_ifExp (pt_val (pv 4)) pe_int pe_int) pa_nil)))))))))), ?_⟩
    refine ⟨_, rfl, g, _, _, _, rfl, rfl, SqL.of hg, at0 rfl, ?_⟩
    refine ⟨_, rfl, _, rfl, h, l, _, true, y, rfl, B.hull, _, rfl, ?_⟩
    have est : Kp261.step (some y) (.cut n) = if Kp261.isSeam y n = false then (some y, Kp261.say (-2)) else if (seamAt y n).welded = false then (some y, Kp261.say (-6)) else (some { y with seams := y.seams.set n { seamAt y n with welded := false, locked := false } }, Kp261.say (if (seamAt y n).locked then 1 else 0)) := rfl
    rw [dec_lt]
    refine ite2 (fun c => ?_) (fun c => ?_)
    · have c' : Kp261.isSeam y n = false := by simpa [Kp261.isSeam] using c
      rw [if_pos c'] at est
      exact ⟨(by show 1 ≤ sizeLine; decide), fun p hp => k p _ (done_read (num := -2) (ns := []) B (.of (Same.refl _)) (same_new hp) hp est upd_same)⟩
    · have hn : n < y.seams.length := by simpa using c
      have c' : ¬ Kp261.isSeam y n = false := by simpa [Kp261.isSeam] using hn
      rw [if_neg c'] at est
      obtain ⟨a, hc1, hc2, dc, hc3⟩ := HullAt.seam (C := C) (h := h) (l := l) (b := true) (dx := dx) h4 h5 hn
      refine ⟨_, rfl, h, C, dx, _, _, rfl, h1, T.clC, T.ns, hf_seams _ _ _, _, rfl, l, _, _, _, rfl, rfl, SqL.of h2, atI_nat hc2, ?_⟩
      refine ⟨_, rfl, a, S, dc, _, _, rfl, hc3, T.clS, T.nw, sf_welded _, _, rfl, ?_⟩
      refine ite2 (fun d => ?_) (fun d => ?_)
      · have d' : (seamAt y n).welded = false := by simpa using d
        rw [if_pos d'] at est
        exact ⟨(by show 1 ≤ sizeLine; decide), fun p hp => k p _ (done_read (num := -6) (ns := []) B (.of (Same.refl _)) (same_new hp) hp est upd_same)⟩
      · have d' : ¬ (seamAt y n).welded = false := by simpa using d
        rw [if_neg d'] at est
        refine ⟨_, rfl, a, S, dc, _, _, rfl, hc3, T.clS, T.nk, sf_locked _, ?_⟩
        refine ⟨_, rfl, a, S, dc, _, rfl, hc3, T.clS, T.nw, (by show 5 < 1000; decide), ?_⟩
        refine ⟨_, rfl, a, S, dc, _, rfl, upd_same, T.clS, T.nk, (by show 5 < 1000; decide), ?_⟩
        rw [put_welded, put_locked, upd_upd]
        refine ⟨_, rfl, _, rfl, ?_⟩
        have fin : ∀ z : Int, (if (seamAt y n).locked = true then (1 : Int) else 0) = z → ∀ p, upd H a (.ins S dc (sf { seamAt y n with welded := false, locked := false })) p = none → Q (.ref p) (upd (upd H a (.ins S dc (sf { seamAt y n with welded := false, locked := false }))) p (.lst [V.int z])) := fun z ez p hp => by
          refine k p _ ⟨⟨l, ?_, .inl rfl⟩, (Frame.ins hc3).then (.new hp) (.inl rfl), (B.tb.upd hc3 rfl).new hp, ?_, new_of (Frame.ins hc3) (by rw [upd_ne (ne_of h2 hc3 (by intro z; cases z))]; exact h2) hp⟩
          · rw [est]
            exact Same.hull (same_new hp) (hull_set h1 h2 h3 h4 h5 hc1)
          · rw [est, upd_same, ← ez]; rfl
        refine ite2 (fun e => ?_) (fun e => ?_)
        · exact ⟨(by show 1 ≤ sizeLine; decide), fun p hp => fin 1 (by rw [if_pos e]) p hp⟩
        · exact ⟨(by show 1 ≤ sizeLine; decide), fun p hp => fin 0 (by rw [if_neg e]) p hp⟩
end Hl
end
section
set_option Elab.async false
set_option linter.all false
set_option maxRecDepth 100000
set_option maxHeartbeats 2000000
namespace Hl
open PySem PySem.Spec PyProof.Rows L2
open Kp261 (Seam Yard seamAt nums)
variable {P : Program} {w : World} {K : PySem.W.Frag} {mg : Str → Option Value} {base : Heap}
structure PromMk (P : Program) (w : World) (K : PySem.W.Frag) (mg : Str → Option Value) (base : Heap) (k : Nat) (C : Addr) (ps : List Str) (sp : Sp) : Prop where
  ex : ∃ f fd, Mk K C f ∧ FnOk P w K mg base CX0 k f fd ps sp ∧ Binds K fd ps []
theorem pe_mk {X : Cx} {k j : Nat} {C : Addr} {x : Str} {ps : List Str} {sp : Sp} {p pos : Pos} {e : Expr} {es : List Expr} {t : TA} (G : PromMk X.prog X.w X.K X.mg X.base k C ps sp) (hr : Room j X.A) (hk : k + 1 ≤ j) (hg : Gl X x) (hm : X.mg x = some (.ref C)) (ha : PA X (e :: es) t)
    (hdb : (x == ("__debug__" : Str)) = false := by decide) (he : starEach (e :: es) X.env = (false, eval e X.env) :: starEach es X.env := by rfl) (hpl : (backTo pos (starEach es X.env)).any (·.1) = false := by rfl) :
    PE X (.Call (.Name x p) (e :: es) [] pos) (tMake C sp [] E0 t) := by
  obtain ⟨f, fd, M, F, hb⟩ := G.ex
  exact pe_make M F (hr.mono hk) hg hm hb .nil pass0 ha hdb he hpl
theorem pe_mk0 {X : Cx} {k j : Nat} {C : Addr} {x : Str} {ps : List Str} {sp : Sp} {p pos : Pos} (G : PromMk X.prog X.w X.K X.mg X.base k C ps sp) (hr : Room j X.A) (hk : k + 1 ≤ j) (hg : Gl X x) (hm : X.mg x = some (.ref C))
    (hdb : (x == ("__debug__" : Str)) = false := by decide) : PE X (.Call (.Name x p) [] [] pos) (tMake C sp [] E0 tNil) := by
  obtain ⟨f, fd, M, F, hb⟩ := G.ex
  exact pe_make0 M F (hr.mono hk) hg hm hb .nil pass0 hdb
abbrev sASeam : Stmt := top 35
theorem scASeam : FnScope ["hull", "given", "x", "y", "s"] ["hull", "given"] (defScope sASeam) := ⟨rfl, rfl, rfl, by decide +kernel, rfl, by decide +kernel, by decide +kernel⟩
theorem ok_aSeam {C S Pt f : Addr} {fd : FuncData} (F : Fun K "answer_seam" "answer_seam" sASeam f fd) (T : Txt K mg C S) (GP : Prom P w K mg base 1 "is_part" ["hull", "x"] (spIsPart C S)) (GT : Prom P w K mg base 1 "is_strain" ["s"] spIsStrain)
    (GM : PromMk P w K mg base 1 S ["self", "x", "y", "strain"] (spInitS S)) : FnOk P w K mg base CX0 6 f fd ["hull", "given"] (spAns3 C S Pt .seam) := by
  refine F.ok scASeam (fun vs H Q E h => ?_) (fun cdv A outer s H vs Q E hr h => ?_)
  · obtain ⟨h, l, g, y, i, j, n, rfl, _⟩ := h
    rfl
  · obtain ⟨h, l, g, y, i, j, n, rfl, B, hg, k⟩ := h
    obtain ⟨dx, as, h1, h2, h3, h4, h5⟩ := B.hull.ex
    refine ⟨_, pss_cons (ps_set (i := 2) scASeam.nd rfl (Or.inl rfl) (pe_ix ix_list (pv 1) pe_int (fun _ _ => rfl)))
      (pss_cons (ps_set (i := 3) scASeam.nd rfl (Or.inl rfl) (pe_ix ix_list (pv 1) pe_int (fun _ _ => rfl)))
      (pss_cons (ps_set (i := 4) scASeam.nd rfl (Or.inl rfl) (pe_ix ix_list (pv 1) pe_int (fun _ _ => rfl)))
      (pss_cons (ps_if (PW.pt (pw_or (pt_not (pt_val (pe_prom GP hr (by decide) rfl (pa_cons (pv 0) (pa_cons (pv 2) pa_nil))))) (pw_or1 (pt_not (pt_val (pe_prom GP hr (by decide) rfl (pa_cons (pv 0) (pa_cons (pv 3) pa_nil)))))))) (pss_one (ps_ret (pe_lst (pa_cons (pe_gint T.cNo rfl) pa_nil)))) pss_nil)
      (pss_cons (ps_if (PW.pt (pw_or (pt_cmpR op_eq (pv 2) (pv 3) (nomark _)) (pw_or1 (pt_not (pt_val (pe_prom GT hr (by decide) rfl (pa_cons (pv 4) pa_nil))))))) (pss_one (ps_ret (pe_lst (pa_cons (pe_gint T.cOb rfl) pa_nil)))) pss_nil)
      (pss_cons (ps_if (pt_cmpR op_eq (pe_callB call_len_seq (by rfl) T.blen PySem.boot_len (pa_cons (pe_fld (pv 0) rfl) pa_nil)) (pe_gint T.cS rfl) (nomark _)) (pss_one (ps_ret (pe_lst (pa_cons (pe_gint T.cFu rfl) pa_nil)))) pss_nil)
      (pss_cons (ps_expr (pe_bm PySem.F.plainAttrs_list PySem.F.slot_list_append PySem.F.type_list_append mt_append (pe_fld (pv 0) rfl) (pa_cons (pe_mk GM hr (by decide) rfl T.mgS (pa_cons (pv 2) (pa_cons (pv 3) (pa_cons (pv 4) pa_nil)))) pa_nil)))
      (pss_one (ps_ret (pe_lst (pa_cons (pe_op op_sub (pe_callB call_len_seq (by rfl) T.blen PySem.boot_len (pa_cons (pe_fld (pv 0) rfl) pa_nil)) pe_int) pa_nil)))))))))), ?_⟩
    refine ⟨_, rfl, g, _, _, _, rfl, rfl, SqL.of hg, at0 rfl, ?_⟩
    refine ⟨_, rfl, g, _, _, _, rfl, rfl, SqL.of hg, at1 rfl, ?_⟩
    refine ⟨_, rfl, g, _, _, _, rfl, rfl, SqL.of hg, at2 rfl, ?_⟩
    refine ⟨_, rfl, _, rfl, h, l, _, true, y, rfl, B.hull, _, rfl, ?_⟩
    have est : Kp261.step (some y) (.seam i j n) = if Kp261.isPart y i = false ∨ Kp261.isPart y j = false then (some y, Kp261.say (-2)) else if i = j ∨ n = 0 ∨ 1000 < n then (some y, Kp261.say (-22)) else if Kp261.SEAMS ≤ y.seams.length then (some y, Kp261.say (-28)) else (some { y with seams := y.seams ++ [⟨i, j, n, false, false⟩] }, Kp261.say (y.seams.length : Int)) := rfl
    have no2 : (Kp261.isPart y i = false ∨ Kp261.isPart y j = false) → 1 ≤ sizeLine ∧ ∀ p, H p = none → Q (.ref p) (upd H p (.lst [V.int (-2)])) := fun c => by
      rw [if_pos c] at est
      exact ⟨by decide, fun p hp => k p _ (done_read (num := -2) (ns := []) B (.of (Same.refl _)) (same_new hp) hp est upd_same)⟩
    rw [dec_lt]
    refine ite2 (fun c => ?_) (fun c => ?_)
    · exact iteT (no2 (.inl (by simpa [Kp261.isPart] using c)))
    · have hi : i < y.parts := by simpa using c
      refine ⟨_, rfl, _, rfl, h, l, _, true, y, rfl, B.hull, _, rfl, ?_⟩
      rw [dec_lt]
      refine ite2 (fun d => no2 (.inr (by simpa [Kp261.isPart] using d))) (fun d => ?_)
      have hj : j < y.parts := by simpa using d
      rw [if_neg (by simp [Kp261.isPart, hi, hj])] at est
      have no22 : (i = j ∨ n = 0 ∨ 1000 < n) → 1 ≤ sizeLine ∧ ∀ p, H p = none → Q (.ref p) (upd H p (.lst [V.int (-22)])) := fun c => by
        rw [if_pos c] at est
        exact ⟨by decide, fun p hp => k p _ (done_read (num := -22) (ns := []) B (.of (Same.refl _)) (same_new hp) hp est upd_same)⟩
      refine ⟨_, rfl, _, rfl, rfl, _, rfl, ?_⟩
      refine ite2 (fun e => ?_) (fun e => ?_)
      · have e' : V.int (i : Int) = V.int (j : Int) := of_decide_eq_true e
        injection e' with e'
        exact iteT (no22 (.inl (by omega)))
      · have ne : ¬ i = j := fun z => e (decide_eq_true (by rw [z]))
        refine ⟨_, rfl, _, rfl, _, rfl, ?_⟩
        refine ite2 (fun q => no22 (.inr ?_)) (fun q => ?_)
        · have : ¬ ((1 : Int) ≤ (n : Int) ∧ (n : Int) ≤ 1000) := fun z => by rw [decide_eq_true z] at q; cases q
          omega
        · have hn : ¬ (i = j ∨ n = 0 ∨ 1000 < n) := by
            have : ((1 : Int) ≤ (n : Int) ∧ (n : Int) ≤ 1000) := by
              by_cases z : ((1 : Int) ≤ (n : Int) ∧ (n : Int) ≤ 1000)
              · exact z
              · rw [decide_eq_false z] at q; exact absurd rfl q
            omega
          rw [if_neg hn] at est
          have l10 := B.good.fewS
          have e10 : Kp261.SEAMS = 10 := rfl
          refine ⟨_, rfl, h, C, dx, _, _, rfl, h1, T.clC, T.ns, hf_seams _ _ _, l, _, rfl, .inl (SqL.of h2), rfl, _, rfl, ?_⟩
          rw [List.length_map, h4]
          refine ite2 (fun q2 => ?_) (fun q2 => ?_)
          · have q' : V.int (y.seams.length : Int) = V.int 10 := of_decide_eq_true q2
            injection q' with q'
            rw [if_pos (by omega)] at est
            exact ⟨(by show 1 ≤ sizeLine; decide), fun p hp => k p _ (done_read (num := -28) (ns := []) B (.of (Same.refl _)) (same_new hp) hp est upd_same)⟩
          · have q' : ¬ (y.seams.length : Int) = 10 := fun z => q2 (decide_eq_true (by rw [z]))
            rw [if_neg (by omega)] at est
            refine ⟨_, rfl, h, C, dx, _, _, rfl, h1, T.clC, T.ns, hf_seams _ _ _, .inl ⟨rfl, _, SqL.of h2⟩, _, rfl, _, rfl, _, rfl, fun x0 d0 n0 m0 ne0 => ?_⟩
            refine ⟨x0, d0, i, j, n, rfl, upd_same, fun H2 hS hk2 => ⟨rfl, ?_⟩⟩
            have s2 : Same H H2 := Same.made n0 m0 hk2
            obtain ⟨ds, hS⟩ := hS
            refine ⟨l, _, _, rfl, rfl, s2 _ _ h2, by rw [List.length_map]; exact small1000 (by omega), ?_⟩
            have nhl : h ≠ l := ne_of h1 h2 (by intro z; cases z)
            have nx0 : ∀ {b : Addr} {o : HO}, H b = some o → b ≠ x0 := fun {b o} e => ne_of_none e n0
            have h1' : upd H2 l (.lst (as.map V.ref ++ [V.ref x0])) h = some (.ins C dx (hf true y.parts l)) := by rw [upd_ne nhl]; exact s2 _ _ h1
            refine ⟨_, rfl, h, C, dx, _, _, rfl, h1', T.clC, T.ns, hf_seams _ _ _, l, _, rfl, .inl (SqL.of upd_same), _, _, rfl, rfl, (by show 1 ≤ sizeLine; decide), fun p hp => k p _ ⟨⟨l, ?_, .inl rfl⟩, ?_, ?_, ?_, ?_⟩⟩
            · rw [est]
              refine Same.hull (same_new hp) ⟨dx, as ++ [x0], h1', by rw [upd_same, List.map_append]; rfl, ?_, ?_, fun jj a ha => ?_⟩
              · rw [List.nodup_append]
                refine ⟨h3, by simp, fun a ha b hb => ?_⟩
                obtain ⟨t, ht⟩ := List.getElem?_of_mem ha
                obtain ⟨_, _, dt, hdt⟩ := h5 t a ht
                rw [List.mem_singleton.mp hb]
                exact nx0 hdt
              · show (as ++ [x0]).length = (y.seams ++ [_]).length
                rw [List.length_append, List.length_append, h4]; rfl
              · show ∃ s, (y.seams ++ [_])[jj]? = some s ∧ _
                by_cases hjj : jj < as.length
                · rw [List.getElem?_append_left hjj] at ha
                  obtain ⟨t, ht, dt, hdt⟩ := h5 jj a ha
                  refine ⟨t, by rw [List.getElem?_append_left (by omega)]; exact ht, dt, ?_⟩
                  rw [upd_ne (ne_of (s2 _ _ hdt) (s2 _ _ h2) (by intro z; cases z))]; exact s2 _ _ hdt
                · rw [List.getElem?_append_right (by omega)] at ha
                  have ej : jj - as.length = 0 := by
                    have := (List.getElem?_eq_some_iff.mp ha).1
                    simp at this
                    omega
                  rw [ej] at ha
                  have ea : x0 = a := Option.some.inj ha
                  subst ea
                  refine ⟨_, by rw [List.getElem?_append_right (by omega), show jj - y.seams.length = 0 by omega]; rfl, ds, ?_⟩
                  rw [upd_ne (Ne.symm (nx0 h2))]; exact hS
            · refine ((Frame.same s2).then ?_ (.inl rfl)).then (.new hp) (.inl rfl)
              exact ⟨fun b xs e z => by rw [upd_ne z]; exact e, fun b o u e => by rw [upd_ne (ne_of e (s2 _ _ h2) (by intro z; cases z))]; exact e⟩
            · exact ((B.tb.same s2).upd (s2 _ _ h2) rfl).new hp
            · rw [est, upd_same]
              show some (HO.lst [V.int (((as.map V.ref ++ [V.ref x0]).length : Int) - 1)]) = some (HO.lst [V.int (y.seams.length : Int)])
              have : (((as.map V.ref ++ [V.ref x0]).length : Nat) : Int) - 1 = (y.seams.length : Int) := by
                rw [List.length_append, List.length_map, h4]
                show ((y.seams.length + 1 : Nat) : Int) - 1 = _
                omega
              rw [this]
            · refine new_of (l := l) ((Frame.same s2).then ?_ (.inl rfl)) upd_same hp
              exact ⟨fun b xs e z => by rw [upd_ne z]; exact e, fun b o u e => by rw [upd_ne (ne_of e (s2 _ _ h2) (by intro z; cases z))]; exact e⟩
abbrev sAWeld : Stmt := top 36
theorem scAWeld : FnScope ["hull", "given", "k", "seam"] ["hull", "given"] (defScope sAWeld) := ⟨rfl, rfl, rfl, by decide +kernel, rfl, by decide +kernel, by decide +kernel⟩
theorem ok_aWeld {C S Pt f : Addr} {fd : FuncData} (F : Fun K "answer_weld" "answer_weld" sAWeld f fd) (T : Txt K mg C S) (GI : Prom P w K mg base 1 "is_seam" ["hull", "k"] (spIsSeam C S)) (GW : Prom P w K mg base 4 "would_be_locked" ["hull", "k"] (spWould C S))
    (GS : Prom P w K mg base 1 "strain_so_far" ["hull"] (spSoFar C S)) : FnOk P w K mg base CX0 6 f fd ["hull", "given"] (spAns1 C S Pt .weld) := by
  refine F.ok scAWeld (fun vs H Q E h => ?_) (fun cdv A outer s H vs Q E hr h => ?_)
  · obtain ⟨h, l, g, y, n, rfl, _⟩ := h
    rfl
  · obtain ⟨h, l, g, y, n, rfl, B, hg, k⟩ := h
    obtain ⟨dx, as, h1, h2, h3, h4, h5⟩ := B.hull.ex
    refine ⟨_, pss_cons (ps_set (i := 2) scAWeld.nd rfl (Or.inl rfl) (pe_ix ix_list (pv 1) pe_int (fun _ _ => rfl)))
      (pss_cons (ps_if (pt_not (pt_val (pe_prom GI hr (by decide) rfl (pa_cons (pv 0) (pa_cons (pv 2) pa_nil))))) (pss_one (ps_ret (pe_lst (pa_cons (pe_gint T.cNo rfl) pa_nil)))) pss_nil)
      (pss_cons (ps_set (i := 3) scAWeld.nd rfl (Or.inl rfl) (pe_ix ix_list (pe_fld (pv 0) rfl) (pv 2) (fun _ _ => rfl)))
      (pss_cons (ps_if (pt_val (pe_fld (pv 3) rfl)) (pss_one (ps_ret (pe_lst (pa_cons (pe_gint T.cWa rfl) pa_nil)))) pss_nil)
      (pss_cons (ps_fld (pv 3) (pe_prom GW hr (by decide) rfl (pa_cons (pv 0) (pa_cons (pv 2) pa_nil))) rfl)
      (pss_cons (ps_fld (pv 3) pe_bl rfl) (pss_one (ps_ret (pe_lst (pa_cons (pe_ifExp (pt_val (pe_fld (pv 3) rfl)) pe_int pe_int) (pa_cons (pe_prom GS hr (by decide) rfl (pa_cons (pv 0) pa_nil)) pa_nil)))))))))), ?_⟩
    refine ⟨_, rfl, g, _, _, _, rfl, rfl, SqL.of hg, at0 rfl, ?_⟩
    refine ⟨_, rfl, _, rfl, h, l, _, true, y, rfl, B.hull, _, rfl, ?_⟩
    have est : Kp261.step (some y) (.weld n) = if Kp261.isSeam y n = false then (some y, Kp261.say (-2)) else if (seamAt y n).welded then (some y, Kp261.say (-17)) else (some (Kp261.weldIt y n), (⟨(if (seamAt (Kp261.weldIt y n) n).locked then 1 else 0), Kp261.ints [Kp261.sofar (Kp261.weldIt y n)]⟩ : Kp261.Ans)) := rfl
    rw [dec_lt]
    refine ite2 (fun c => ?_) (fun c => ?_)
    · have c' : Kp261.isSeam y n = false := by simpa [Kp261.isSeam] using c
      rw [if_pos c'] at est
      exact ⟨(by show 1 ≤ sizeLine; decide), fun p hp => k p _ (done_read (num := -2) (ns := []) B (.of (Same.refl _)) (same_new hp) hp est upd_same)⟩
    · have hn : n < y.seams.length := by simpa using c
      have c' : ¬ Kp261.isSeam y n = false := by simpa [Kp261.isSeam] using hn
      rw [if_neg c'] at est
      obtain ⟨a, hc1, hc2, dc, hc3⟩ := HullAt.seam (C := C) (h := h) (l := l) (b := true) (dx := dx) h4 h5 hn
      refine ⟨_, rfl, h, C, dx, _, _, rfl, h1, T.clC, T.ns, hf_seams _ _ _, _, rfl, l, _, _, _, rfl, rfl, SqL.of h2, atI_nat hc2, ?_⟩
      refine ⟨_, rfl, a, S, dc, _, _, rfl, hc3, T.clS, T.nw, sf_welded _, _, rfl, ?_⟩
      refine ite2 (fun d => ?_) (fun d => ?_)
      · rw [if_pos d] at est
        exact ⟨(by show 1 ≤ sizeLine; decide), fun p hp => k p _ (done_read (num := -17) (ns := []) B (.of (Same.refl _)) (same_new hp) hp est upd_same)⟩
      · rw [if_neg d] at est
        refine ⟨_, rfl, _, rfl, h, l, true, y, n, rfl, B.hull, B.good.ok, B.good.few, B.good.fewS, hn, fun H2 s3 => ?_⟩
        generalize hb : Kp261.hang y.parts (Kp261.welded y) (seamAt y n).x (seamAt y n).y = bb
        refine ⟨_, rfl, a, S, dc, _, rfl, s3 _ _ hc3, T.clS, T.nk, (by show 5 < 1000; decide), ?_⟩
        refine ⟨_, rfl, a, S, dc, _, rfl, upd_same, T.clS, T.nw, (by show 5 < 1000; decide), ?_⟩
        rw [put_locked, put_welded, upd_upd]
        have hW : HullAt C S (upd H2 a (.ins S dc (sf { seamAt y n with locked := bb, welded := true }))) h l true (Kp261.weldIt y n) := by
          have hh := Same.hull s3 B.hull
          have h5' : ∀ (j : Nat) (c : Addr), as[j]? = some c → ∃ s, y.seams[j]? = some s ∧ SeamAt S H2 c s := fun j c hc => by
            obtain ⟨t, ht, dt, hdt⟩ := h5 j c hc
            exact ⟨t, ht, dt, s3 _ _ hdt⟩
          have := hull_set (s' := { seamAt y n with locked := bb, welded := true }) (dc := dc) (s3 _ _ h1) (s3 _ _ h2) h3 h4 h5' hc1
          rw [← hb] at this ⊢
          exact this
        have kfin : ∀ z : Int, (if bb = true then (1 : Int) else 0) = z → 2 ≤ sizeLine → ∀ (H4 : Hp), Same (upd H2 a (.ins S dc (sf { seamAt y n with locked := bb, welded := true }))) H4 → ∀ p, H4 p = none → Q (.ref p) (upd H4 p (.lst [V.int z, V.int ((Kp261.sofar (Kp261.weldIt y n) : Nat) : Int)])) := fun z ez _ H4 s4 p hp => by
          refine k p _ ⟨⟨l, ?_, .inl rfl⟩, ?_, ?_, ?_, ?_⟩
          · rw [est]
            exact Same.hull (same_upd s4 hp) hW
          · exact (((Frame.same s3).then (.ins (s3 _ _ hc3)) (.inl rfl)).then (.same s4) (.inl rfl)).then (.new hp) (.inl rfl)
          · exact (((B.tb.same s3).upd (s3 _ _ hc3) rfl).same s4).new hp
          · rw [est, upd_same]
            have el : (seamAt (Kp261.weldIt y n) n).locked = bb := by
              rw [Hs.weldIt_at hn, if_pos rfl]
              exact hb
            show _ = some (HO.lst [V.int (if (seamAt (Kp261.weldIt y n) n).locked = true then 1 else 0), V.int ((Kp261.sofar (Kp261.weldIt y n) : Nat) : Int)])
            rw [el, ez]
          · exact new_of (((Frame.same s3).then (.ins (s3 _ _ hc3)) (.inl rfl)).then (.same s4) (.inl rfl)) (s4 _ _ (by rw [upd_ne (ne_of (s3 _ _ h2) (s3 _ _ hc3) (by intro z; cases z))]; exact s3 _ _ h2)) hp
        refine ⟨_, rfl, a, S, dc, _, _, rfl, upd_same, T.clS, T.nk, sf_locked _, _, rfl, ?_⟩
        refine ite2 (fun e => ?_) (fun e => ?_)
        · exact ⟨_, rfl, h, l, true, _, rfl, hW, B.good.weld hn, fun H4 s4 => ⟨(by show 2 ≤ sizeLine; decide), fun p hp => kfin 1 (by rw [if_pos e]) (by decide) H4 s4 p hp⟩⟩
        · exact ⟨_, rfl, h, l, true, _, rfl, hW, B.good.weld hn, fun H4 s4 => ⟨(by show 2 ≤ sizeLine; decide), fun p hp => kfin 0 (by rw [if_neg e]) (by decide) H4 s4 p hp⟩⟩
end Hl
end
section
set_option Elab.async false
set_option linter.all false
set_option maxRecDepth 100000
set_option maxHeartbeats 4000000
namespace Hl
open PySem PySem.Spec PyProof.Rows L2
open Kp261 (Seam Yard seamAt nums)
variable {P : Program} {w : World} {K : PySem.W.Frag} {mg : Str → Option Value} {base : Heap}
theorem refl_ext {Pt : Addr} {H : Hp} : Ext (TBo Pt) H H := .of (Same.refl _)
abbrev sAHang : Stmt := top 44
theorem scAHang : FnScope ["hull", "given", "x", "y"] ["hull", "given"] (defScope sAHang) := ⟨rfl, rfl, rfl, by decide +kernel, rfl, by decide +kernel, by decide +kernel⟩
theorem ok_aHang {C S Pt f : Addr} {fd : FuncData} (F : Fun K "answer_hang" "answer_hang" sAHang f fd) (T : Txt K mg C S) (GP : Prom P w K mg base 1 "is_part" ["hull", "x"] (spIsPart C S)) (GB : Prom P w K mg base 1 "seams_by_weld" ["hull", "welded"] (spByWeld C S))
    (GT : Prom P w K mg base 3 "hang_together" ["hull", "numbers", "x", "y"] (spTog C S)) : FnOk P w K mg base CX0 6 f fd ["hull", "given"] (spAns2 C S Pt .hang) := by
  refine F.ok scAHang (fun vs H Q E h => ?_) (fun cdv A outer s H vs Q E hr h => ?_)
  · obtain ⟨h, l, g, y, i, j, rfl, _⟩ := h
    rfl
  · obtain ⟨h, l, g, y, i, j, rfl, B, hg, k⟩ := h
    refine ⟨_, pss_cons (ps_set (i := 2) scAHang.nd rfl (Or.inl rfl) (pe_ix ix_list (pv 1) pe_int (fun _ _ => rfl)))
      (pss_cons (ps_set (i := 3) scAHang.nd rfl (Or.inl rfl) (pe_ix ix_list (pv 1) pe_int (fun _ _ => rfl)))
      (pss_cons (ps_if (PW.pt (pw_or (pt_not (pt_val (pe_prom GP hr (by decide) rfl (pa_cons (pv 0) (pa_cons (pv 2) pa_nil))))) (pw_or1 (pt_not (pt_val (pe_prom GP hr (by decide) rfl (pa_cons (pv 0) (pa_cons (pv 3) pa_nil)))))))) (pss_one (ps_ret (pe_lst (pa_cons (pe_gint T.cNo rfl) pa_nil)))) pss_nil)
      (pss_one (ps_ret (pe_lst (pa_cons (pe_ifExp (pt_val (pe_prom GT hr (by decide) rfl (pa_cons (pv 0) (pa_cons (pe_prom GB hr (by decide) rfl (pa_cons (pv 0) (pa_cons pe_bl pa_nil))) (pa_cons (pv 2) (pa_cons (pv 3) pa_nil)))))) pe_int pe_int) pa_nil)))))), ?_⟩
    refine ⟨_, rfl, g, _, _, _, rfl, rfl, SqL.of hg, at0 rfl, ?_⟩
    refine ⟨_, rfl, g, _, _, _, rfl, rfl, SqL.of hg, at1 rfl, ?_⟩
    refine ⟨_, rfl, _, rfl, h, l, _, true, y, rfl, B.hull, _, rfl, ?_⟩
    have est : Kp261.step (some y) (.hang i j) = (some y, if Kp261.isPart y i = false ∨ Kp261.isPart y j = false then Kp261.say (-2) else Kp261.say (if Kp261.hang y.parts (Kp261.welded y) i j then 1 else 0)) := rfl
    have no2 : (Kp261.isPart y i = false ∨ Kp261.isPart y j = false) → 1 ≤ sizeLine ∧ ∀ p, H p = none → Q (.ref p) (upd H p (.lst [V.int (-2)])) := fun c => by
      rw [if_pos c] at est
      exact ⟨by decide, fun p hp => k p _ (done_read (num := -2) (ns := []) B refl_ext (same_new hp) hp est upd_same)⟩
    rw [dec_lt]
    refine ite2 (fun c => ?_) (fun c => ?_)
    · exact iteT (no2 (.inl (by simpa [Kp261.isPart] using c)))
    · have hi : i < y.parts := by simpa using c
      refine ⟨_, rfl, _, rfl, h, l, _, true, y, rfl, B.hull, _, rfl, ?_⟩
      rw [dec_lt]
      refine ite2 (fun d => no2 (.inr (by simpa [Kp261.isPart] using d))) (fun d => ?_)
      have hj : j < y.parts := by simpa using d
      rw [if_neg (by simp [Kp261.isPart, hi, hj])] at est
      refine ⟨_, rfl, _, rfl, h, l, true, true, y, rfl, B.hull, B.good.fewS, fun a H1 hN => ?_⟩
      refine ⟨_, rfl, _, rfl, h, l, a, true, y, numsBy y true, i, j, rfl, Same.hull hN.sm B.hull, B.good.ok, B.good.few, hN.at_, fun z hz => numsBy_lt hz, hi, hj, fun H2 s2 => ⟨_, rfl, ?_⟩⟩
      rw [numsBy_true]
      refine ite2 (fun e => ?_) (fun e => ?_)
      · rw [if_pos e] at est
        exact ⟨(by show 1 ≤ sizeLine; decide), fun p hp => k p _ (done_read (num := 1) (ns := []) B (.of (hN.sm.trans s2)) (same_new hp) hp est upd_same)⟩
      · rw [if_neg e] at est
        exact ⟨(by show 1 ≤ sizeLine; decide), fun p hp => k p _ (done_read (num := 0) (ns := []) B (.of (hN.sm.trans s2)) (same_new hp) hp est upd_same)⟩
theorem done_way {C S Pt : Addr} {H H' : Hp} {h l p : Addr} {y : Yard} {o : Option (List Nat)} {r : Kp261.State × Kp261.Ans} (B : Base C S Pt H h l y) (hN : NewL H H' p ((wayAns o).map V.int))
    (hr : r = (some y, match (generalizing := false) o with | some l => Kp261.tellAll l | none => Kp261.say (-33))) : Done C S Pt H h l r p H' := by
  cases o with
  | none => exact done_read (num := -33) (ns := []) B refl_ext hN.sm hN.fr hr hN.at_
  | some v => exact done_read (num := (v.length : Int)) (ns := Kp261.ints v) B refl_ext hN.sm hN.fr hr hN.at_
abbrev sAWay : Stmt := top 45
theorem scAWay : FnScope ["hull", "given", "x", "y"] ["hull", "given"] (defScope sAWay) := ⟨rfl, rfl, rfl, by decide +kernel, rfl, by decide +kernel, by decide +kernel⟩
theorem ok_aWay {C S Pt f : Addr} {fd : FuncData} (F : Fun K "answer_way" "answer_way" sAWay f fd) (T : Txt K mg C S) (GP : Prom P w K mg base 1 "is_part" ["hull", "x"] (spIsPart C S)) (GO : Prom P w K mg base 4 "way_or_refusal" ["hull", "x", "y"] (spWayOr C S)) : FnOk P w K mg base CX0 6 f fd ["hull", "given"] (spAns2 C S Pt .way) := by
  refine F.ok scAWay (fun vs H Q E h => ?_) (fun cdv A outer s H vs Q E hr h => ?_)
  · obtain ⟨h, l, g, y, i, j, rfl, _⟩ := h
    rfl
  · obtain ⟨h, l, g, y, i, j, rfl, B, hg, k⟩ := h
    refine ⟨_, pss_cons (ps_set (i := 2) scAWay.nd rfl (Or.inl rfl) (pe_ix ix_list (pv 1) pe_int (fun _ _ => rfl)))
      (pss_cons (ps_set (i := 3) scAWay.nd rfl (Or.inl rfl) (pe_ix ix_list (pv 1) pe_int (fun _ _ => rfl)))
      (pss_cons (ps_if (PW.pt (pw_or (pt_not (pt_val (pe_prom GP hr (by decide) rfl (pa_cons (pv 0) (pa_cons (pv 2) pa_nil))))) (pw_or1 (pt_not (pt_val (pe_prom GP hr (by decide) rfl (pa_cons (pv 0) (pa_cons (pv 3) pa_nil)))))))) (pss_one (ps_ret (pe_lst (pa_cons (pe_gint T.cNo rfl) pa_nil)))) pss_nil)
      (pss_one (ps_ret (pe_prom GO hr (by decide) rfl (pa_cons (pv 0) (pa_cons (pv 2) (pa_cons (pv 3) pa_nil)))))))), ?_⟩
    refine ⟨_, rfl, g, _, _, _, rfl, rfl, SqL.of hg, at0 rfl, ?_⟩
    refine ⟨_, rfl, g, _, _, _, rfl, rfl, SqL.of hg, at1 rfl, ?_⟩
    refine ⟨_, rfl, _, rfl, h, l, _, true, y, rfl, B.hull, _, rfl, ?_⟩
    have est : Kp261.step (some y) (.way i j) = (some y, if Kp261.isPart y i = false ∨ Kp261.isPart y j = false then Kp261.say (-2) else match (generalizing := false) Kp261.way y i j with | some l => Kp261.tellAll l | none => Kp261.say (-33)) := rfl
    have no2 : (Kp261.isPart y i = false ∨ Kp261.isPart y j = false) → 1 ≤ sizeLine ∧ ∀ p, H p = none → Q (.ref p) (upd H p (.lst [V.int (-2)])) := fun c => by
      rw [if_pos c] at est
      exact ⟨by decide, fun p hp => k p _ (done_read (num := -2) (ns := []) B refl_ext (same_new hp) hp est upd_same)⟩
    rw [dec_lt]
    refine ite2 (fun c => ?_) (fun c => ?_)
    · exact iteT (no2 (.inl (by simpa [Kp261.isPart] using c)))
    · have hi : i < y.parts := by simpa using c
      refine ⟨_, rfl, _, rfl, h, l, _, true, y, rfl, B.hull, _, rfl, ?_⟩
      rw [dec_lt]
      refine ite2 (fun d => no2 (.inr (by simpa [Kp261.isPart] using d))) (fun d => ?_)
      have hj : j < y.parts := by simpa using d
      rw [if_neg (by simp [Kp261.isPart, hi, hj])] at est
      exact ⟨_, rfl, _, rfl, _, rfl, h, l, true, y, i, j, rfl, B.hull, B.good.ok, B.good.few, B.good.fewS, hi, hj, fun p H1 hN => k p H1 (done_way B hN est)⟩
abbrev sARing : Stmt := top 46
theorem scARing : FnScope ["hull", "given", "k", "seam"] ["hull", "given"] (defScope sARing) := ⟨rfl, rfl, rfl, by decide +kernel, rfl, by decide +kernel, by decide +kernel⟩
theorem ok_aRing {C S Pt f : Addr} {fd : FuncData} (F : Fun K "answer_ring" "answer_ring" sARing f fd) (T : Txt K mg C S) (GI : Prom P w K mg base 1 "is_seam" ["hull", "k"] (spIsSeam C S)) (GO : Prom P w K mg base 4 "way_or_refusal" ["hull", "x", "y"] (spWayOr C S)) : FnOk P w K mg base CX0 6 f fd ["hull", "given"] (spAns1 C S Pt .ring) := by
  refine F.ok scARing (fun vs H Q E h => ?_) (fun cdv A outer s H vs Q E hr h => ?_)
  · obtain ⟨h, l, g, y, n, rfl, _⟩ := h
    rfl
  · obtain ⟨h, l, g, y, n, rfl, B, hg, k⟩ := h
    obtain ⟨dx, as, h1, h2, h3, h4, h5⟩ := B.hull.ex
    refine ⟨_, pss_cons (ps_set (i := 2) scARing.nd rfl (Or.inl rfl) (pe_ix ix_list (pv 1) pe_int (fun _ _ => rfl)))
      (pss_cons (ps_if (pt_not (pt_val (pe_prom GI hr (by decide) rfl (pa_cons (pv 0) (pa_cons (pv 2) pa_nil))))) (pss_one (ps_ret (pe_lst (pa_cons (pe_gint T.cNo rfl) pa_nil)))) pss_nil)
      (pss_cons (ps_set (i := 3) scARing.nd rfl (Or.inl rfl) (pe_ix ix_list (pe_fld (pv 0) rfl) (pv 2) (fun _ _ => rfl)))
      (pss_cons (ps_if (pt_val (pe_fld (pv 3) rfl)) (pss_one (ps_ret (pe_lst (pa_cons (pe_gint T.cWa rfl) pa_nil)))) pss_nil)
      (pss_one (ps_ret (pe_prom GO hr (by decide) rfl (pa_cons (pv 0) (pa_cons (pe_fld (pv 3) rfl) (pa_cons (pe_fld (pv 3) rfl) pa_nil))))))))), ?_⟩
    refine ⟨_, rfl, g, _, _, _, rfl, rfl, SqL.of hg, at0 rfl, ?_⟩
    refine ⟨_, rfl, _, rfl, h, l, _, true, y, rfl, B.hull, _, rfl, ?_⟩
    have est : Kp261.step (some y) (.ring n) = (some y, if Kp261.isSeam y n = false then Kp261.say (-2) else if (seamAt y n).welded then Kp261.say (-17) else match (generalizing := false) Kp261.way y (seamAt y n).x (seamAt y n).y with | some l => Kp261.tellAll l | none => Kp261.say (-33)) := rfl
    rw [dec_lt]
    refine ite2 (fun c => ?_) (fun c => ?_)
    · have c' : Kp261.isSeam y n = false := by simpa [Kp261.isSeam] using c
      rw [if_pos c'] at est
      exact ⟨(by show 1 ≤ sizeLine; decide), fun p hp => k p _ (done_read (num := -2) (ns := []) B refl_ext (same_new hp) hp est upd_same)⟩
    · have hn : n < y.seams.length := by simpa using c
      have c' : ¬ Kp261.isSeam y n = false := by simpa [Kp261.isSeam] using hn
      rw [if_neg c'] at est
      obtain ⟨a, hc1, hc2, dc, hc3⟩ := HullAt.seam (C := C) (h := h) (l := l) (b := true) (dx := dx) h4 h5 hn
      refine ⟨_, rfl, h, C, dx, _, _, rfl, h1, T.clC, T.ns, hf_seams _ _ _, _, rfl, l, _, _, _, rfl, rfl, SqL.of h2, atI_nat hc2, ?_⟩
      refine ⟨_, rfl, a, S, dc, _, _, rfl, hc3, T.clS, T.nw, sf_welded _, _, rfl, ?_⟩
      refine ite2 (fun d => ?_) (fun d => ?_)
      · rw [if_pos d] at est
        exact ⟨(by show 1 ≤ sizeLine; decide), fun p hp => k p _ (done_read (num := -17) (ns := []) B refl_ext (same_new hp) hp est upd_same)⟩
      · rw [if_neg d] at est
        have hin := B.good.ok.at hn
        exact ⟨_, rfl, _, rfl, a, S, dc, _, _, rfl, hc3, T.clS, T.nx, sf_x _, _, rfl, a, S, dc, _, _, rfl, hc3, T.clS, T.ny, sf_y _, h, l, true, y, _, _, rfl, B.hull, B.good.ok, B.good.few, B.good.fewS, hin.1, hin.2, fun p H1 hN => k p H1 (done_way B hN est)⟩
abbrev sAPieces : Stmt := top 47
theorem scAPieces : FnScope ["hull", "given"] ["hull", "given"] (defScope sAPieces) := ⟨rfl, rfl, rfl, by decide +kernel, rfl, by decide +kernel, by decide +kernel⟩
theorem ok_aPieces {C S Pt f : Addr} {fd : FuncData} (F : Fun K "answer_pieces" "answer_pieces" sAPieces f fd) (GB : Prom P w K mg base 1 "seams_by_weld" ["hull", "welded"] (spByWeld C S)) (GN : Prom P w K mg base 3 "count_pieces" ["hull", "numbers"] (spCount C S)) : FnOk P w K mg base CX0 6 f fd ["hull", "given"] (spAns0 C S Pt .pieces) := by
  refine F.ok scAPieces (fun vs H Q E h => ?_) (fun cdv A outer s H vs Q E hr h => ?_)
  · obtain ⟨h, l, y, v, rfl, _⟩ := h
    rfl
  · obtain ⟨h, l, y, v, rfl, B, k⟩ := h
    refine ⟨_, pss_one (ps_ret (pe_lst (pa_cons (pe_prom GN hr (by decide) rfl (pa_cons (pv 0) (pa_cons (pe_prom GB hr (by decide) rfl (pa_cons (pv 0) (pa_cons pe_bl pa_nil))) pa_nil))) pa_nil))), ?_⟩
    refine ⟨_, rfl, _, rfl, h, l, true, true, y, rfl, B.hull, B.good.fewS, fun a H1 hN => ?_⟩
    refine ⟨h, l, a, true, y, _, rfl, Same.hull hN.sm B.hull, B.good.ok, B.good.few, hN.at_, fun z hz => numsBy_lt hz, fun H2 s2 => ⟨(by show 1 ≤ sizeLine; decide), fun p hp => k p _ (done_read (num := _) (ns := []) B (.of (hN.sm.trans s2)) (same_new hp) hp ?_ upd_same)⟩⟩
    rw [numsBy_true]
    rfl
abbrev sATog : Stmt := top 48
theorem scATog : FnScope ["hull", "given"] ["hull", "given"] (defScope sATog) := ⟨rfl, rfl, rfl, by decide +kernel, rfl, by decide +kernel, by decide +kernel⟩
theorem ok_aTog {C S Pt f : Addr} {fd : FuncData} (F : Fun K "answer_together" "answer_together" sATog f fd) (T : Txt K mg C S) (GN : Prom P w K mg base 3 "count_pieces" ["hull", "numbers"] (spCount C S)) : FnOk P w K mg base CX0 6 f fd ["hull", "given"] (spAns0 C S Pt .together) := by
  refine F.ok scATog (fun vs H Q E h => ?_) (fun cdv A outer s H vs Q E hr h => ?_)
  · obtain ⟨h, l, y, v, rfl, _⟩ := h
    rfl
  · obtain ⟨h, l, y, v, rfl, B, k⟩ := h
    obtain ⟨dx, as, h1, h2, h3, h4, h5⟩ := B.hull.ex
    have fs := B.good.fewS
    refine ⟨_, pss_one (ps_ret (pe_lst (pa_cons (pe_prom GN hr (by decide) rfl (pa_cons (pv 0) (pa_cons (pe_callTy (cr_listRange rfl) rfl T.blist boot_list (pa_cons (pe_callTy cr_range rfl T.brange boot_range (pa_cons (pe_callB call_len_seq (by rfl) T.blen PySem.boot_len (pa_cons (pe_fld (pv 0) rfl) pa_nil)) pa_nil)) pa_nil)) pa_nil))) pa_nil))), ?_⟩
    refine ⟨_, rfl, _, rfl, h, C, dx, _, _, rfl, h1, T.clC, T.ns, hf_seams _ _ _, l, _, rfl, .inl (SqL.of h2), ?_⟩
    rw [List.length_map, h4]
    refine ⟨_, rfl, fun r hr' => ⟨r, y.seams.length, rfl, upd_same, by omega, fun m hm => ?_⟩⟩
    have sm : Same H (upd (upd H r (.rng 0 y.seams.length)) m (.lst ((List.range y.seams.length).map fun (i : Nat) => V.int i))) := same_upd (same_new hr') hm
    refine ⟨h, l, m, true, y, nums y, rfl, Same.hull sm B.hull, B.good.ok, B.good.few, ?_, fun z hz => Hs.mem_nums.mp hz, fun H2 s2 => ⟨(by show 1 ≤ sizeLine; decide), fun p hp => k p _ (done_read (num := _) (ns := []) B (.of (sm.trans s2)) (same_new hp) hp ?_ upd_same)⟩⟩
    · rw [upd_same]
      show _ = some (HO.lst (((List.range y.seams.length).map fun (x : Nat) => (x : Int)).map V.int))
      rw [List.map_map]
      rfl
    · have e : (nums y).map (seamAt y) = y.seams := Hs.nums_seams y
      rw [e]
      rfl
abbrev sAHolds : Stmt := top 49
theorem scAHolds : FnScope ["hull", "given", "k"] ["hull", "given"] (defScope sAHolds) := ⟨rfl, rfl, rfl, by decide +kernel, rfl, by decide +kernel, by decide +kernel⟩
theorem filter_snoc {p : Nat → Bool} {l : List Nat} {j : Nat} : (l ++ [j]).filter p = if p j = true then l.filter p ++ [j] else l.filter p := by
  rw [List.filter_append]
  by_cases c : p j = true
  · rw [if_pos c, List.filter_cons, if_pos c]; rfl
  · rw [if_neg c, List.filter_cons, if_neg c]; simp
theorem ok_aHolds {C S Pt f : Addr} {fd : FuncData} (F : Fun K "answer_holds" "answer_holds" sAHolds f fd) (GC : Prom P w K mg base 1 "counted" ["numbers"] spCounted) (GB : Prom P w K mg base 1 "seams_by_weld" ["hull", "welded"] (spByWeld C S)) (GA : Prom P w K mg base 4 "holds_alone" ["hull", "k"] (spAlone C S)) :
    FnOk P w K mg base CX0 6 f fd ["hull", "given"] (spAns0 C S Pt .holds) := by
  refine F.ok scAHolds (fun vs H Q E h => ?_) (fun cdv A outer s H vs Q E hr h => ?_)
  · obtain ⟨h, l, y, v, rfl, _⟩ := h
    rfl
  · obtain ⟨h, l, y, v, rfl, B, k⟩ := h
    refine ⟨_, pss_one (ps_ret (pe_prom GC hr (by decide) rfl (pa_cons (pe_lc (own := [("k", 2)]) (tt := tB (tCall (spAlone C S) [] E0 (tCons (tVar 0) (tCons (tVar 2) tNil)))) rfl scAHolds.nd (pi_list (pe_prom GB hr (by decide) rfl (pa_cons (pv 0) (pa_cons pe_bl pa_nil)))) (blkOk_by (by rfl))
      (fun _ _ _ _ _ => pg_name (i := 2) scAHolds.nd rfl (Or.inl rfl)) (fun _ _ _ _ _ => pts_one (pt_val (pe_prom GA hr (by decide) rfl (pa_cons (pv 0) (pa_cons (pv 2) pa_nil))))) (fun _ _ _ _ _ => pv 2)) pa_nil))), ?_⟩
    have fs := B.good.fewS
    have lw := numsBy_len y true
    refine ⟨_, rfl, h, l, true, true, y, rfl, B.hull, B.good.fewS, fun a H1 hN => ?_⟩
    refine ⟨a, rfl, ⟨_, SqL.of hN.at_⟩, fun D hD => lc_list (xs := nl (numsBy y true)) (fun i H' => Same H1 H' ∧ H' D = some (.lst (nl (((numsBy y true).take i).filter (Kp261.holds y))))) ⟨same_new hD, upd_same⟩ (fun i H' _ h' => SqL.of (h'.1 _ _ hN.at_)) (fun i x H' hx h' => ?_) (fun H' h' => ?_)⟩
    · obtain ⟨j, hj, rfl⟩ := nl_at hx
      have hjl := numsBy_lt (List.mem_of_getElem? hj)
      have hi : i < (numsBy y true).length := (List.getElem?_eq_some_iff.mp hj).1
      have ef := filter_snoc (p := Kp261.holds y) (l := (numsBy y true).take i) (j := j)
      rw [← take_snoc hj] at ef
      refine ⟨rfl, _, rfl, _, rfl, h, l, true, y, j, rfl, Same.hull (hN.sm.trans h'.1) B.hull, B.good.ok, B.good.few, B.good.fewS, hjl, fun H2 s2 => ⟨_, rfl, ?_⟩⟩
      refine ite2 (fun c => ?_) (fun c => ?_)
      · rw [if_pos c] at ef
        refine ⟨_, rfl, _, s2 _ _ h'.2, ?_, fun b' o e' => ?_, ?_⟩
        · rw [nl_len]
          refine small1000 ?_
          have := List.length_filter_le (Kp261.holds y) ((numsBy y true).take i)
          rw [List.length_take] at this
          omega
        · rw [upd_ne (ne_of_none e' hD)]; exact s2 _ _ (h'.1 b' o e')
        · rw [upd_same, ef, nl_snoc]
      · rw [if_neg c] at ef
        exact ⟨h'.1.trans s2, by rw [ef]; exact s2 _ _ h'.2⟩
    · obtain ⟨s2, hD2⟩ := h'
      rw [nl_len, List.take_length] at hD2
      have e : (nums y).filter (fun k => (seamAt y k).welded && Kp261.holds y k) = (numsBy y true).filter (Kp261.holds y) := by
        rw [numsBy_wnums]
        unfold Hs.wnums
        rw [List.filter_filter]
        refine List.filter_congr fun j _ => ?_
        rw [Bool.and_comm]
      refine ⟨D, _, rfl, hD2, ?_, fun p H3 hN3 => k p H3 (done_read B (.of (hN.sm.trans s2)) hN3.sm hN3.fr ?_ hN3.at_)⟩
      · rw [ints_len]
        have := List.length_filter_le (Kp261.holds y) (numsBy y true)
        omega
      · show (some y, Kp261.tellAll ((nums y).filter fun k => (seamAt y k).welded && Kp261.holds y k)) = _
        rw [e]
        unfold Kp261.tellAll
        rw [ints_len]
abbrev sANext : Stmt := top 50
theorem scANext : FnScope ["hull", "given", "order"] ["hull", "given"] (defScope sANext) := ⟨rfl, rfl, rfl, by decide +kernel, rfl, by decide +kernel, by decide +kernel⟩
theorem ok_aNext {C S Pt f : Addr} {fd : FuncData} (F : Fun K "answer_next" "answer_next" sANext f fd) (T : Txt K mg C S) (GO : Prom P w K mg base 5 "order_told" ["hull"] (spOrder C S Pt)) (GW : Prom P w K mg base 4 "would_be_locked" ["hull", "k"] (spWould C S)) : FnOk P w K mg base CX0 6 f fd ["hull", "given"] (spAns0 C S Pt .next) := by
  refine F.ok scANext (fun vs H Q E h => ?_) (fun cdv A outer s H vs Q E hr h => ?_)
  · obtain ⟨h, l, y, v, rfl, _⟩ := h
    rfl
  · obtain ⟨h, l, y, v, rfl, B, k⟩ := h
    refine ⟨_, pss_cons (ps_set (i := 2) scANext.nd rfl (Or.inl rfl) (pe_prom GO hr (by decide) rfl (pa_cons (pv 0) pa_nil)))
      (pss_cons (ps_if (pt_not (pt_truth (pv 2) (fun _ => rfl))) (pss_one (ps_ret (pe_lst (pa_cons (pe_gint T.cAw rfl) pa_nil)))) pss_nil)
      (pss_one (ps_ret (pe_lst (pa_cons (pe_ix ix_list (pv 2) pe_int (fun _ _ => rfl)) (pa_cons (pe_ifExp (pt_val (pe_prom GW hr (by decide) rfl (pa_cons (pv 0) (pa_cons (pe_ix ix_list (pv 2) pe_int (fun _ _ => rfl)) pa_nil)))) pe_int pe_int) pa_nil)))))), ?_⟩
    refine ⟨_, rfl, h, l, true, y, rfl, B.hull, B.good.fewS, B.tb, fun a H1 e1 ha => ?_⟩
    refine ⟨_, rfl, _, .inl ⟨_, SqL.of ha, rfl⟩, ?_⟩
    have est : Kp261.step (some y) .next = (some y, match (generalizing := false) Kp261.order y with | k :: _ => (⟨(k : Int), Kp261.ints [if Kp261.hang y.parts (Kp261.welded y) (seamAt y k).x (seamAt y k).y then 1 else 0]⟩ : Kp261.Ans) | [] => Kp261.say (-6)) := rfl
    cases eo : Kp261.order y with
    | nil =>
      rw [eo] at est
      exact iteT ⟨(by show 1 ≤ sizeLine; decide), fun p hp => k p _ (done_read (num := -6) (ns := []) B e1 (same_new hp) hp est upd_same)⟩
    | cons n rest =>
      rw [eo] at est ha
      have hn : n < y.seams.length := order_lt (by rw [eo]; simp)
      refine iteF ⟨_, rfl, a, _, _, _, rfl, rfl, SqL.of ha, at0 rfl, ?_⟩
      refine ⟨_, rfl, _, rfl, a, _, _, _, rfl, rfl, SqL.of ha, at0 rfl, h, l, true, y, n, rfl, e1.hull B.hull, B.good.ok, B.good.few, B.good.fewS, hn, fun H2 s2 => ⟨_, rfl, ?_⟩⟩
      refine ite2 (fun c => ?_) (fun c => ?_)
      · refine ⟨(by show 2 ≤ sizeLine; decide), fun p hp => k p _ (done_read (num := (n : Int)) (ns := [1]) B (e1.trans (.of s2)) (same_new hp) hp ?_ upd_same)⟩
        rw [est]
        show (some y, (⟨(n : Int), Kp261.ints [if Kp261.hang y.parts (Kp261.welded y) (seamAt y n).x (seamAt y n).y then 1 else 0]⟩ : Kp261.Ans)) = _
        rw [if_pos c]; rfl
      · refine ⟨(by show 2 ≤ sizeLine; decide), fun p hp => k p _ (done_read (num := (n : Int)) (ns := [0]) B (e1.trans (.of s2)) (same_new hp) hp ?_ upd_same)⟩
        rw [est]
        show (some y, (⟨(n : Int), Kp261.ints [if Kp261.hang y.parts (Kp261.welded y) (seamAt y n).x (seamAt y n).y then 1 else 0]⟩ : Kp261.Ans)) = _
        rw [if_neg c]; rfl
abbrev sAWorth : Stmt := top 51
theorem scAWorth : FnScope ["hull", "given", "k", "order", "changed", "other"] ["hull", "given"] (defScope sAWorth) := ⟨rfl, rfl, rfl, by decide +kernel, rfl, by decide +kernel, by decide +kernel⟩
theorem ok_aWorth {C S Pt f : Addr} {fd : FuncData} (F : Fun K "answer_worth" "answer_worth" sAWorth f fd) (T : Txt K mg C S) (GI : Prom P w K mg base 1 "is_seam" ["hull", "k"] (spIsSeam C S)) (GO : Prom P w K mg base 5 "order_told" ["hull"] (spOrder C S Pt)) (GL : Prom P w K mg base 3 "locked_of" ["hull", "numbers"] (spLockedOf C S))
    (GT : Prom P w K mg base 1 "strain_of" ["hull", "numbers"] (spStrainOf C S)) : FnOk P w K mg base CX0 6 f fd ["hull", "given"] (spAns1 C S Pt .worth) := by
  refine F.ok scAWorth (fun vs H Q E h => ?_) (fun cdv A outer s H vs Q E hr h => ?_)
  · obtain ⟨h, l, g, y, n, rfl, _⟩ := h
    rfl
  · obtain ⟨h, l, g, y, n, rfl, B, hg, k⟩ := h
    obtain ⟨dx, as, h1, h2, h3, h4, h5⟩ := B.hull.ex
    refine ⟨_, pss_cons (ps_set (i := 2) scAWorth.nd rfl (Or.inr rfl) (pe_ix ix_list (pv 1) pe_int (fun _ _ => rfl)))
      (pss_cons (ps_if (pt_not (pt_val (pe_prom GI hr (by decide) rfl (pa_cons (pv 0) (pa_cons (pv 2) pa_nil))))) (pss_one (ps_ret (pe_lst (pa_cons (pe_gint T.cNo rfl) pa_nil)))) pss_nil)
      (pss_cons (ps_if (pt_val (pe_fld (pe_ix ix_list (pe_fld (pv 0) rfl) (pv 2) (fun _ _ => rfl)) rfl)) (pss_one (ps_ret (pe_lst (pa_cons (pe_gint T.cWa rfl) pa_nil)))) pss_nil)
      (pss_cons (ps_set (i := 3) scAWorth.nd rfl (Or.inl rfl) (pe_prom GO hr (by decide) rfl (pa_cons (pv 0) pa_nil)))
      (pss_cons (ps_set (i := 4) scAWorth.nd rfl (Or.inl rfl) (pe_op op_cat (pe_lst (pa_cons (pv 2) pa_nil)) (pe_lc (own := [("other", 5)]) (tt := tTest (tOp rNe (tVar 5) (tVar 2))) rfl scAWorth.nd (pi_list (pv 3)) (blkOk_by (by rfl))
        (fun _ _ _ _ _ => pg_name (i := 5) scAWorth.nd rfl (Or.inl rfl)) (fun _ _ _ _ _ => pts_one (pt_cmpR op_ne (pv 5) (pv 2) (nomark _))) (fun _ _ _ _ _ => pv 5))))
      (pss_one (ps_ret (pe_lst (pa_cons (pe_op op_sub (pe_prom GT hr (by decide) rfl (pa_cons (pv 0) (pa_cons (pe_prom GL hr (by decide) rfl (pa_cons (pv 0) (pa_cons (pv 4) pa_nil))) pa_nil))) (pe_prom GT hr (by decide) rfl (pa_cons (pv 0) (pa_cons (pe_prom GL hr (by decide) rfl (pa_cons (pv 0) (pa_cons (pv 3) pa_nil))) pa_nil)))) pa_nil)))))))), ?_⟩
    refine ⟨_, rfl, g, _, _, _, rfl, rfl, SqL.of hg, at0 rfl, ?_⟩
    refine ⟨_, rfl, _, rfl, h, l, _, true, y, rfl, B.hull, _, rfl, ?_⟩
    have est : Kp261.step (some y) (.worth n) = (some y, if Kp261.isSeam y n = false then Kp261.say (-2) else if (seamAt y n).welded then Kp261.say (-17) else Kp261.say (((if Kp261.hang y.parts (Kp261.welded y) (seamAt y n).x (seamAt y n).y then (seamAt y n).strain else 0) + Kp261.least (Kp261.weldIt y n) - Kp261.least y : Nat) : Int)) := rfl
    rw [dec_lt]
    refine ite2 (fun c => ?_) (fun c => ?_)
    · have c' : Kp261.isSeam y n = false := by simpa [Kp261.isSeam] using c
      rw [if_pos c'] at est
      exact ⟨(by show 1 ≤ sizeLine; decide), fun p hp => k p _ (done_read (num := -2) (ns := []) B refl_ext (same_new hp) hp est upd_same)⟩
    · have hn : n < y.seams.length := by simpa using c
      have c' : ¬ Kp261.isSeam y n = false := by simpa [Kp261.isSeam] using hn
      rw [if_neg c'] at est
      obtain ⟨a, hc1, hc2, dc, hc3⟩ := HullAt.seam (C := C) (h := h) (l := l) (b := true) (dx := dx) h4 h5 hn
      refine ⟨_, rfl, h, C, dx, _, _, rfl, h1, T.clC, T.ns, hf_seams _ _ _, _, rfl, l, _, _, _, rfl, rfl, SqL.of h2, atI_nat hc2, a, S, dc, _, _, rfl, hc3, T.clS, T.nw, sf_welded _, _, rfl, ?_⟩
      refine ite2 (fun d => ?_) (fun d => ?_)
      · rw [if_pos d] at est
        exact ⟨(by show 1 ≤ sizeLine; decide), fun p hp => k p _ (done_read (num := -17) (ns := []) B refl_ext (same_new hp) hp est upd_same)⟩
      · rw [if_neg d] at est
        have hw : (seamAt y n).welded = false := by simpa using d
        have fs := B.good.fewS
        have lo := order_len y
        refine ⟨_, rfl, h, l, true, y, rfl, B.hull, B.good.fewS, B.tb, fun ao H1 e1 hao => ?_⟩
        refine ⟨_, rfl, (by show 1 ≤ sizeLine; decide), fun q1 hq1 => ?_⟩
        have sq : Same H1 (upd H1 q1 (.lst [V.int (n : Int)])) := same_new hq1
        have hao1 := sq _ _ hao
        refine ⟨_, rfl, ao, rfl, ⟨_, SqL.of hao1⟩, fun D hD => lc_list (xs := nl (Kp261.order y)) (fun i H' => Same (upd H1 q1 (.lst [V.int (n : Int)])) H' ∧ H' D = some (.lst (nl (without n ((Kp261.order y).take i))))) ⟨same_new hD, upd_same⟩ (fun i H' _ h' => SqL.of (h'.1 _ _ hao1)) (fun i x H' hx h' => ?_) (fun H' h' => ?_)⟩
        · obtain ⟨j, hj, rfl⟩ := nl_at hx
          have hi : i < (Kp261.order y).length := (List.getElem?_eq_some_iff.mp hj).1
          refine ⟨rfl, _, rfl, _, rfl, rfl, _, rfl, ?_⟩
          rw [dec_vint]
          have ew := without_snoc n ((Kp261.order y).take i) j
          rw [← take_snoc hj] at ew
          by_cases e : j = n
          · rw [decide_eq_true (by omega : (j : Int) = (n : Int))]
            rw [if_pos e] at ew
            refine iteF ⟨h'.1, ?_⟩
            rw [ew]; exact h'.2
          · rw [decide_eq_false (by omega : ¬ (j : Int) = (n : Int))]
            rw [if_neg e] at ew
            refine iteT ⟨_, rfl, _, h'.2, ?_, fun b' o e' => ?_, ?_⟩
            · rw [nl_len]
              refine small1000 ?_
              have := without_len n ((Kp261.order y).take i)
              rw [List.length_take] at this
              omega
            · rw [upd_ne (ne_of_none e' hD)]; exact h'.1 b' o e'
            · rw [upd_same, ew, nl_snoc]
        · obtain ⟨s2, hD2⟩ := h'
          rw [nl_len, List.take_length] at hD2
          have lwo := without_len n (Kp261.order y)
          refine ⟨q1, D, _, _, rfl, rfl, s2 _ _ upd_same, hD2, ?_, fun ch hch => ?_⟩
          · rw [nl_len]; show 1 + _ ≤ sizeLine; rw [sizeLine_eq]; omega
          have s3 : Same H1 (upd H' ch (.lst ([V.int (n : Int)] ++ nl (without n (Kp261.order y))))) := (sq.trans s2).trans (same_new hch)
          have hch3 : upd H' ch (.lst ([V.int (n : Int)] ++ nl (without n (Kp261.order y)))) ch = some (.lst (nl (n :: without n (Kp261.order y)))) := upd_same
          generalize upd H' ch (.lst ([V.int (n : Int)] ++ nl (without n (Kp261.order y)))) = H3 at s3 hch3
          have hH3 := Same.hull s3 (e1.hull B.hull)
          have sub : ∀ z, z ∈ n :: without n (Kp261.order y) → z < y.seams.length := fun z hz => by
            rcases List.mem_cons.mp hz with q | q
            · rw [q]; exact hn
            · exact order_lt (without_sub q)
          refine ⟨_, rfl, _, rfl, _, rfl, h, l, ch, true, y, _, rfl, hH3, B.good.ok, B.good.few, B.good.fewS, hch3, sub, by rw [List.length_cons]; omega, fun la H4 hN4 => ?_⟩
          have hH4 := Same.hull hN4.sm hH3
          refine ⟨h, l, la, true, y, _, rfl, hH4, hN4.at_, fun z hz => sub z (Hs.lockRec_sub _ _ _ hz), Nat.le_trans (Hs.lockRec_len _ _) (by rw [List.length_cons]; omega), fun H5 s5 => ?_⟩
          have hH5 := Same.hull s5 hH4
          have s5' : Same H1 H5 := (s3.trans hN4.sm).trans s5
          refine ⟨_, rfl, _, rfl, _, rfl, h, l, ao, true, y, _, rfl, hH5, B.good.ok, B.good.few, B.good.fewS, s5' _ _ hao, fun z hz => order_lt hz, by omega, fun lb H6 hN6 => ?_⟩
          refine ⟨h, l, lb, true, y, _, rfl, Same.hull hN6.sm hH5, hN6.at_, fun z hz => order_lt (Hs.lockRec_sub _ _ _ hz), Nat.le_trans (Hs.lockRec_len _ _) (by omega), fun H7 s7 => ?_⟩
          refine ⟨_, _, rfl, rfl, (by show 1 ≤ sizeLine; decide), fun p hp => k p _ (done_read (num := _) (ns := []) B (e1.trans (.of ((s5'.trans hN6.sm).trans s7))) (same_new hp) hp ?_ upd_same)⟩
          rw [est]
          have w1 := Hs.worth_eq B.good.ok hn hw
          have w2 : Kp261.least y = ((Hs.lockRec y.parts (seamAt y) (Kp261.welded y) (Kp261.order y)).map fun k => (seamAt y k).strain).sum := by rw [Hs.least_eq, Hs.lockedOf_eq]
          have w3 := Hs.least_le B.good.ok hn hw
          show (some y, Kp261.say _) = (some y, Kp261.say _)
          congr 2
          rw [← w2]
          have w1' : ((Hs.lockRec y.parts (seamAt y) (Kp261.welded y) (n :: without n (Kp261.order y))).map fun k => (seamAt y k).strain).sum = _ := w1
          rw [w1']
          omega
abbrev sALook : Stmt := top 52
theorem scALook : FnScope ["hull", "given", "k", "seam"] ["hull", "given"] (defScope sALook) := ⟨rfl, rfl, rfl, by decide +kernel, rfl, by decide +kernel, by decide +kernel⟩
theorem ok_aLook {C S Pt f : Addr} {fd : FuncData} (F : Fun K "answer_look" "answer_look" sALook f fd) (T : Txt K mg C S) (GI : Prom P w K mg base 1 "is_seam" ["hull", "k"] (spIsSeam C S)) : FnOk P w K mg base CX0 6 f fd ["hull", "given"] (spAns1 C S Pt .look) := by
  refine F.ok scALook (fun vs H Q E h => ?_) (fun cdv A outer s H vs Q E hr h => ?_)
  · obtain ⟨h, l, g, y, n, rfl, _⟩ := h
    rfl
  · obtain ⟨h, l, g, y, n, rfl, B, hg, k⟩ := h
    obtain ⟨dx, as, h1, h2, h3, h4, h5⟩ := B.hull.ex
    refine ⟨_, pss_cons (ps_set (i := 2) scALook.nd rfl (Or.inl rfl) (pe_ix ix_list (pv 1) pe_int (fun _ _ => rfl)))
      (pss_cons (ps_if (pt_not (pt_val (pe_prom GI hr (by decide) rfl (pa_cons (pv 0) (pa_cons (pv 2) pa_nil))))) (pss_one (ps_ret (pe_lst (pa_cons (pe_gint T.cNo rfl) pa_nil)))) pss_nil)
      (pss_cons (ps_set (i := 3) scALook.nd rfl (Or.inl rfl) (pe_ix ix_list (pe_fld (pv 0) rfl) (pv 2) (fun _ _ => rfl)))
      (pss_one (ps_ret (pe_lst (pa_cons (pe_fld (pv 3) rfl) (pa_cons (pe_fld (pv 3) rfl) (pa_cons (pe_fld (pv 3) rfl) (pa_cons (pe_ifExp (pt_val (pe_fld (pv 3) rfl)) pe_int pe_int) (pa_cons (pe_ifExp (pt_val (pe_fld (pv 3) rfl)) pe_int pe_int) pa_nil)))))))))), ?_⟩
    refine ⟨_, rfl, g, _, _, _, rfl, rfl, SqL.of hg, at0 rfl, ?_⟩
    refine ⟨_, rfl, _, rfl, h, l, _, true, y, rfl, B.hull, _, rfl, ?_⟩
    have est : Kp261.step (some y) (.look n) = (some y, if Kp261.isSeam y n = false then Kp261.say (-2) else (⟨((seamAt y n).strain : Int), Kp261.ints [(seamAt y n).x, (seamAt y n).y, if (seamAt y n).welded then 1 else 0, if (seamAt y n).locked then 1 else 0]⟩ : Kp261.Ans)) := rfl
    rw [dec_lt]
    refine ite2 (fun c => ?_) (fun c => ?_)
    · have c' : Kp261.isSeam y n = false := by simpa [Kp261.isSeam] using c
      rw [if_pos c'] at est
      exact ⟨(by show 1 ≤ sizeLine; decide), fun p hp => k p _ (done_read (num := -2) (ns := []) B refl_ext (same_new hp) hp est upd_same)⟩
    · have hn : n < y.seams.length := by simpa using c
      have c' : ¬ Kp261.isSeam y n = false := by simpa [Kp261.isSeam] using hn
      rw [if_neg c'] at est
      obtain ⟨a, hc1, hc2, dc, hc3⟩ := HullAt.seam (C := C) (h := h) (l := l) (b := true) (dx := dx) h4 h5 hn
      refine ⟨_, rfl, h, C, dx, _, _, rfl, h1, T.clC, T.ns, hf_seams _ _ _, _, rfl, l, _, _, _, rfl, rfl, SqL.of h2, atI_nat hc2, ?_⟩
      refine ⟨_, rfl, a, S, dc, _, _, rfl, hc3, T.clS, T.nt, sf_strain _, _, rfl, a, S, dc, _, _, rfl, hc3, T.clS, T.nx, sf_x _, _, rfl, a, S, dc, _, _, rfl, hc3, T.clS, T.ny, sf_y _, ?_⟩
      have fin : ∀ u v : Nat, (if (seamAt y n).welded = true then 1 else 0) = u → (if (seamAt y n).locked = true then 1 else 0) = v → 5 ≤ sizeLine ∧ ∀ p, H p = none → Q (.ref p) (upd H p (.lst [V.int ((seamAt y n).strain : Int), V.int ((seamAt y n).x : Int), V.int ((seamAt y n).y : Int), V.int (u : Int), V.int (v : Int)])) := fun u v e1 e2 => by
        refine ⟨by decide, fun p hp => k p _ (done_read (num := ((seamAt y n).strain : Int)) (ns := [((seamAt y n).x : Int), ((seamAt y n).y : Int), (u : Int), (v : Int)]) B refl_ext (same_new hp) hp ?_ upd_same)⟩
        rw [est, ← e1, ← e2]; rfl
      refine ⟨_, rfl, a, S, dc, _, _, rfl, hc3, T.clS, T.nw, sf_welded _, _, rfl, ?_⟩
      refine ite2 (fun c1 => ?_) (fun c1 => ?_)
      · refine ⟨_, rfl, a, S, dc, _, _, rfl, hc3, T.clS, T.nk, sf_locked _, _, rfl, ?_⟩
        refine ite2 (fun c2 => ?_) (fun c2 => ?_)
        · exact fin 1 1 (by rw [if_pos c1]) (by rw [if_pos c2])
        · exact fin 1 0 (by rw [if_pos c1]) (by rw [if_neg c2])
      · refine ⟨_, rfl, a, S, dc, _, _, rfl, hc3, T.clS, T.nk, sf_locked _, _, rfl, ?_⟩
        refine ite2 (fun c2 => ?_) (fun c2 => ?_)
        · exact fin 0 1 (by rw [if_neg c1]) (by rw [if_pos c2])
        · exact fin 0 0 (by rw [if_neg c1]) (by rw [if_neg c2])
abbrev sATold : Stmt := top 53
theorem scATold : FnScope ["hull", "given"] ["hull", "given"] (defScope sATold) := ⟨rfl, rfl, rfl, by decide +kernel, rfl, by decide +kernel, by decide +kernel⟩
theorem ok_aTold {C S Pt f : Addr} {fd : FuncData} (F : Fun K "answer_told" "answer_told" sATold f fd) (T : Txt K mg C S) (GB : Prom P w K mg base 1 "seams_by_weld" ["hull", "welded"] (spByWeld C S)) : FnOk P w K mg base CX0 6 f fd ["hull", "given"] (spAns0 C S Pt .told) := by
  refine F.ok scATold (fun vs H Q E h => ?_) (fun cdv A outer s H vs Q E hr h => ?_)
  · obtain ⟨h, l, y, v, rfl, _⟩ := h
    rfl
  · obtain ⟨h, l, y, v, rfl, B, k⟩ := h
    obtain ⟨dx, as, h1, h2, h3, h4, h5⟩ := B.hull.ex
    refine ⟨_, pss_one (ps_ret (pe_lst (pa_cons (pe_fld (pv 0) rfl) (pa_cons (pe_callB call_len_seq (by rfl) T.blen PySem.boot_len (pa_cons (pe_fld (pv 0) rfl) pa_nil)) (pa_cons (pe_callB call_len_seq (by rfl) T.blen PySem.boot_len (pa_cons (pe_prom GB hr (by decide) rfl (pa_cons (pv 0) (pa_cons pe_bl pa_nil))) pa_nil)) pa_nil))))), ?_⟩
    refine ⟨_, rfl, h, C, dx, _, _, rfl, h1, T.clC, T.np, hf_parts _ _ _, _, rfl, h, C, dx, _, _, rfl, h1, T.clC, T.ns, hf_seams _ _ _, l, _, rfl, .inl (SqL.of h2), ?_⟩
    refine ⟨_, rfl, h, l, true, true, y, rfl, B.hull, B.good.fewS, fun a H1 hN => ?_⟩
    refine ⟨a, _, rfl, .inl (SqL.of hN.at_), (by show 3 ≤ sizeLine; decide), fun p hp => k p _ (done_read (num := (y.parts : Int)) (ns := [(y.seams.length : Int), ((Kp261.welded y).length : Int)]) B (.of hN.sm) (same_new hp) hp rfl ?_)⟩
    have e : (Kp261.welded y).length = (numsBy y true).length := by rw [← numsBy_true, List.length_map]
    rw [upd_same, List.length_map, h4, nl_len, ← e]
    rfl
end Hl
end
section
set_option Elab.async false
set_option linter.all false
set_option maxRecDepth 100000
set_option maxHeartbeats 4000000
namespace Hl
open PySem PySem.Spec PyProof.Rows L2
open Kp261 (Seam Yard seamAt nums)
variable {P : Program} {w : World} {K : PySem.W.Frag} {mg : Str → Option Value} {base : Heap}
def cnts : List Nat := [1, 0, 3, 1, 1, 2, 0, 0, 0, 0, 0, 2, 2, 1, 0, 0, 0, 0, 1, 1, 0]
theorem ite_case {c : Prop} [Decidable c] {a : Nat} {x : Option (Nat × Nat)} {R : Nat → Prop} (h1 : c → R a) (h2 : ∀ n k, x = some (n, k) → R n) : ∀ n k, (if c then some (a, 0) else x) = some (n, k) → R n := by
  intro n k e
  by_cases h : c
  · rw [if_pos h] at e
    rw [← (Prod.mk.inj (Option.some.inj e)).1]
    exact h1 h
  · rw [if_neg h] at e
    exact h2 n k e
theorem shape_at {p : Int} : ∀ n k, PyKp261.shape p = some (n, k) → ∃ j : Nat, p = (j : Int) ∧ cnts[j]? = some n := by
  unfold PyKp261.shape
  refine ite_case (fun e => ⟨0, e, rfl⟩) ?_
  refine ite_case (fun e => ⟨1, e, rfl⟩) ?_
  refine ite_case (fun e => ⟨2, e, rfl⟩) ?_
  refine ite_case (fun e => ⟨3, e, rfl⟩) ?_
  refine ite_case (fun e => ⟨4, e, rfl⟩) ?_
  refine ite_case (fun e => ⟨5, e, rfl⟩) ?_
  refine ite_case (fun e => ⟨6, e, rfl⟩) ?_
  refine ite_case (fun e => ⟨7, e, rfl⟩) ?_
  refine ite_case (fun e => ⟨8, e, rfl⟩) ?_
  refine ite_case (fun e => ⟨9, e, rfl⟩) ?_
  refine ite_case (fun e => ⟨10, e, rfl⟩) ?_
  refine ite_case (fun e => ⟨11, e, rfl⟩) ?_
  refine ite_case (fun e => ⟨12, e, rfl⟩) ?_
  refine ite_case (fun e => ⟨13, e, rfl⟩) ?_
  refine ite_case (fun e => ⟨14, e, rfl⟩) ?_
  refine ite_case (fun e => ⟨15, e, rfl⟩) ?_
  refine ite_case (fun e => ⟨16, e, rfl⟩) ?_
  refine ite_case (fun e => ⟨17, e, rfl⟩) ?_
  refine ite_case (fun e => ⟨18, e, rfl⟩) ?_
  refine ite_case (fun e => ⟨19, e, rfl⟩) ?_
  refine ite_case (fun e => ⟨20, e, rfl⟩) ?_
  intro n k e
  cases e
inductive Cl : Int → List Int → Kp261.Call → Prop
  | c0 (a : Nat) : Cl 0 [(a : Int)] (.begin_ a)
  | c1 : Cl 1 [] (.part)
  | c2 (a b c : Nat) : Cl 2 [(a : Int), (b : Int), (c : Int)] (.seam a b c)
  | c3 (a : Nat) : Cl 3 [(a : Int)] (.weld a)
  | c4 (a : Nat) : Cl 4 [(a : Int)] (.cut a)
  | c5 (a b : Nat) : Cl 5 [(a : Int), (b : Int)] (.strain a b)
  | c6 : Cl 6 [] (.order)
  | c7 : Cl 7 [] (.least)
  | c8 : Cl 8 [] (.sofar)
  | c9 : Cl 9 [] (.locked)
  | c10 : Cl 10 [] (.many)
  | c11 (a b : Nat) : Cl 11 [(a : Int), (b : Int)] (.hang a b)
  | c12 (a b : Nat) : Cl 12 [(a : Int), (b : Int)] (.way a b)
  | c13 (a : Nat) : Cl 13 [(a : Int)] (.ring a)
  | c14 : Cl 14 [] (.pieces)
  | c15 : Cl 15 [] (.together)
  | c16 : Cl 16 [] (.holds)
  | c17 : Cl 17 [] (.next)
  | c18 (a : Nat) : Cl 18 [(a : Int)] (.worth a)
  | c19 (a : Nat) : Cl 19 [(a : Int)] (.look a)
  | c20 : Cl 20 [] (.told)
theorem nat_of {z : Int} (h : 0 ≤ z) : ∃ n : Nat, z = (n : Int) := ⟨z.toNat, by omega⟩
theorem cl_of {p : Int} {args : List Int} {j : Nat} (hp : p = (j : Int)) (hj : cnts[j]? = some args.length) (hn : ∀ z, z ∈ args → 0 ≤ z) : ∃ x, Cl p args x := by
  subst hp
  match j, hj with
  | 0, hj =>
    have e : args.length = 1 := (Option.some.inj hj).symm
    match args, e, hn with
    | [a], _, hn =>
      obtain ⟨a', rfl⟩ := nat_of (hn a (by simp))
      exact ⟨_, .c0 a'⟩
  | 1, hj =>
    have e : args = [] := List.eq_nil_of_length_eq_zero (Option.some.inj hj).symm
    subst e
    exact ⟨_, .c1⟩
  | 2, hj =>
    have e : args.length = 3 := (Option.some.inj hj).symm
    match args, e, hn with
    | [a, b, c], _, hn =>
      obtain ⟨a', rfl⟩ := nat_of (hn a (by simp))
      obtain ⟨b', rfl⟩ := nat_of (hn b (by simp))
      obtain ⟨c', rfl⟩ := nat_of (hn c (by simp))
      exact ⟨_, .c2 a' b' c'⟩
  | 3, hj =>
    have e : args.length = 1 := (Option.some.inj hj).symm
    match args, e, hn with
    | [a], _, hn =>
      obtain ⟨a', rfl⟩ := nat_of (hn a (by simp))
      exact ⟨_, .c3 a'⟩
  | 4, hj =>
    have e : args.length = 1 := (Option.some.inj hj).symm
    match args, e, hn with
    | [a], _, hn =>
      obtain ⟨a', rfl⟩ := nat_of (hn a (by simp))
      exact ⟨_, .c4 a'⟩
  | 5, hj =>
    have e : args.length = 2 := (Option.some.inj hj).symm
    match args, e, hn with
    | [a, b], _, hn =>
      obtain ⟨a', rfl⟩ := nat_of (hn a (by simp))
      obtain ⟨b', rfl⟩ := nat_of (hn b (by simp))
      exact ⟨_, .c5 a' b'⟩
  | 6, hj =>
    have e : args = [] := List.eq_nil_of_length_eq_zero (Option.some.inj hj).symm
    subst e
    exact ⟨_, .c6⟩
  | 7, hj =>
    have e : args = [] := List.eq_nil_of_length_eq_zero (Option.some.inj hj).symm
    subst e
    exact ⟨_, .c7⟩
  | 8, hj =>
    have e : args = [] := List.eq_nil_of_length_eq_zero (Option.some.inj hj).symm
    subst e
    exact ⟨_, .c8⟩
  | 9, hj =>
    have e : args = [] := List.eq_nil_of_length_eq_zero (Option.some.inj hj).symm
    subst e
    exact ⟨_, .c9⟩
  | 10, hj =>
    have e : args = [] := List.eq_nil_of_length_eq_zero (Option.some.inj hj).symm
    subst e
    exact ⟨_, .c10⟩
  | 11, hj =>
    have e : args.length = 2 := (Option.some.inj hj).symm
    match args, e, hn with
    | [a, b], _, hn =>
      obtain ⟨a', rfl⟩ := nat_of (hn a (by simp))
      obtain ⟨b', rfl⟩ := nat_of (hn b (by simp))
      exact ⟨_, .c11 a' b'⟩
  | 12, hj =>
    have e : args.length = 2 := (Option.some.inj hj).symm
    match args, e, hn with
    | [a, b], _, hn =>
      obtain ⟨a', rfl⟩ := nat_of (hn a (by simp))
      obtain ⟨b', rfl⟩ := nat_of (hn b (by simp))
      exact ⟨_, .c12 a' b'⟩
  | 13, hj =>
    have e : args.length = 1 := (Option.some.inj hj).symm
    match args, e, hn with
    | [a], _, hn =>
      obtain ⟨a', rfl⟩ := nat_of (hn a (by simp))
      exact ⟨_, .c13 a'⟩
  | 14, hj =>
    have e : args = [] := List.eq_nil_of_length_eq_zero (Option.some.inj hj).symm
    subst e
    exact ⟨_, .c14⟩
  | 15, hj =>
    have e : args = [] := List.eq_nil_of_length_eq_zero (Option.some.inj hj).symm
    subst e
    exact ⟨_, .c15⟩
  | 16, hj =>
    have e : args = [] := List.eq_nil_of_length_eq_zero (Option.some.inj hj).symm
    subst e
    exact ⟨_, .c16⟩
  | 17, hj =>
    have e : args = [] := List.eq_nil_of_length_eq_zero (Option.some.inj hj).symm
    subst e
    exact ⟨_, .c17⟩
  | 18, hj =>
    have e : args.length = 1 := (Option.some.inj hj).symm
    match args, e, hn with
    | [a], _, hn =>
      obtain ⟨a', rfl⟩ := nat_of (hn a (by simp))
      exact ⟨_, .c18 a'⟩
  | 19, hj =>
    have e : args.length = 1 := (Option.some.inj hj).symm
    match args, e, hn with
    | [a], _, hn =>
      obtain ⟨a', rfl⟩ := nat_of (hn a (by simp))
      exact ⟨_, .c19 a'⟩
  | 20, hj =>
    have e : args = [] := List.eq_nil_of_length_eq_zero (Option.some.inj hj).symm
    subst e
    exact ⟨_, .c20⟩
  | j + 21, hj =>
    have : (cnts.drop 21)[j]? = some args.length := by rw [List.getElem?_drop, Nat.add_comm]; exact hj
    simp [cnts] at this
theorem cl_call {p : Int} {args : List Int} {x : Kp261.Call} (h : Cl p args x) : Kp261Neutral.callOf [p :: args] = some x := by
  cases h <;> rfl
theorem cl_whole {p : Int} {args : List Int} {x : Kp261.Call} (h : Cl p args x) : PyKp261.whole [p :: args] = [p :: args] := by
  cases h <;> rfl
theorem cl_step {p : Int} {args : List Int} {x : Kp261.Call} (h : Cl p args x) (st : Kp261.State) : Kp261Neutral.step st [p :: args] = ((Kp261.step st x).1, (Kp261.step st x).2.num :: (Kp261.step st x).2.nums) := by
  unfold Kp261Neutral.step
  rw [cl_call h]
theorem cl_none {p : Int} {args : List Int} {x : Kp261.Call} (h : Cl p args x) (hp : ¬ p = 0) : Kp261.step none x = (none, Kp261.say (-11)) := by
  cases h <;> first | rfl | exact absurd rfl hp
structure AnsAt (P : Program) (w : World) (K : PySem.W.Frag) (mg : Str → Option Value) (base : Heap) (fs : List Addr) (i : Nat) (sp : Sp) : Prop where
  ex : ∃ f fd, fs[i]? = some f ∧ PySem.W.keepIn K (.ref f) = true ∧ FnOk P w K mg base CX0 9 f fd ["hull", "given"] sp ∧ Binds K fd ["hull", "given"] []
structure Answerers (P : Program) (w : World) (K : PySem.W.Frag) (mg : Str → Option Value) (base : Heap) (C S Pt aT : Addr) (fs : List Addr) : Prop where
  mg_ : mg "ANSWERERS" = some (.ref aT)
  tup : ∀ H, SqT K H aT (fs.map V.ref)
  a0 : AnsAt P w K mg base fs 0 (spBegin C S Pt)
  a1 : AnsAt P w K mg base fs 1 (spAns0 C S Pt .part)
  a2 : AnsAt P w K mg base fs 2 (spAns3 C S Pt .seam)
  a3 : AnsAt P w K mg base fs 3 (spAns1 C S Pt .weld)
  a4 : AnsAt P w K mg base fs 4 (spAns1 C S Pt .cut)
  a5 : AnsAt P w K mg base fs 5 (spAns2 C S Pt .strain)
  a6 : AnsAt P w K mg base fs 6 (spAns0 C S Pt .order)
  a7 : AnsAt P w K mg base fs 7 (spAns0 C S Pt .least)
  a8 : AnsAt P w K mg base fs 8 (spAns0 C S Pt .sofar)
  a9 : AnsAt P w K mg base fs 9 (spAns0 C S Pt .locked)
  a10 : AnsAt P w K mg base fs 10 (spAns0 C S Pt .many)
  a11 : AnsAt P w K mg base fs 11 (spAns2 C S Pt .hang)
  a12 : AnsAt P w K mg base fs 12 (spAns2 C S Pt .way)
  a13 : AnsAt P w K mg base fs 13 (spAns1 C S Pt .ring)
  a14 : AnsAt P w K mg base fs 14 (spAns0 C S Pt .pieces)
  a15 : AnsAt P w K mg base fs 15 (spAns0 C S Pt .together)
  a16 : AnsAt P w K mg base fs 16 (spAns0 C S Pt .holds)
  a17 : AnsAt P w K mg base fs 17 (spAns0 C S Pt .next)
  a18 : AnsAt P w K mg base fs 18 (spAns1 C S Pt .worth)
  a19 : AnsAt P w K mg base fs 19 (spAns1 C S Pt .look)
  a20 : AnsAt P w K mg base fs 20 (spAns0 C S Pt .told)
abbrev sACall : Stmt := top 57
def spCall (C S Pt : Addr) : Sp := fun vs H Q _ => ∃ (h l g : Addr) (st : Kp261.State) (p : Int) (args : List Int) (x : Kp261.Call), vs = [.ref h, .int p, .ref g] ∧ HullSt C S H h l st ∧ Hs.GoodS st ∧ TBo Pt H ∧ H g = some (.lst (args.map V.int)) ∧ Cl p args x ∧
  ∀ (q : Addr) (H' : Hp), Done C S Pt H h l (Kp261.step st x) q H' → Q (.ref q) H'
theorem scACall : FnScope ["hull", "number", "given"] ["hull", "number", "given"] (defScope sACall) := ⟨rfl, rfl, rfl, by decide +kernel, rfl, by decide +kernel, by decide +kernel⟩
theorem ok_aCall {C S Pt aT f : Addr} {fs : List Addr} {fd : FuncData} (F : Fun K "answer_call" "answer_call" sACall f fd) (T : Txt K mg C S) (cB : GInt mg "BEGIN" 0) (GA : Answerers P w K mg base C S Pt aT fs) : FnOk P w K mg base CX0 10 f fd ["hull", "number", "given"] (spCall C S Pt) := by
  refine F.ok scACall (fun vs H Q E h => ?_) (fun cdv A outer s H vs Q E hr h => ?_)
  · obtain ⟨h, l, g, st, p, args, x, rfl, _⟩ := h
    rfl
  · obtain ⟨h, l, g, st, p, args, x, rfl, hst, hgd, hT, hg, hcl, k⟩ := h
    refine ⟨_, pss_cons (ps_if (PW.pt (pw_and (pt_cmpR op_ne (pv 1) (pe_gint cB rfl) (nomark _)) (pw_and1 (pt_not (pt_val (pe_fld (pv 0) rfl)))))) (pss_one (ps_ret (pe_lst (pa_cons (pe_gint T.cNb rfl) pa_nil)))) pss_nil)
      (pss_one (ps_ret (pe_callX (pe_ix ix_tup (pe_glob rfl GA.mg_ (v := .ref aT) rfl) (pv 1) (fun _ _ => rfl)) (pa_cons (pv 0) (pa_cons (pv 2) pa_nil))))), ?_⟩
    obtain ⟨b, y, hH⟩ := hullSt_at hst
    refine ⟨_, rfl, rfl, _, rfl, ?_⟩
    have disp : ∀ (i : Nat) (sp : Sp), AnsAt P w K mg base fs i sp → p = (i : Int) → sp [.ref h, .ref g] H Q E0 →
        ∃ (a' : Addr) (xs : List V) (i' : Int) (v : V), V.ref aT = V.ref a' ∧ V.int p = V.int i' ∧ SqT K H a' xs ∧ atI xs i' = some v ∧ ∃ f', v = .ref f' ∧ PySem.W.keepIn K (.ref f') = true ∧ (∃ v0, ([some (.ref h), some (.int p), some (.ref g)] : L2.St)[0]? = some (some v0) ∧ ∃ v2, ([some (.ref h), some (.int p), some (.ref g)] : L2.St)[2]? = some (some v2) ∧
          ∃ k' fd' ps' sp', FnOk P w K mg base CX0 k' f' fd' ps' sp' ∧ Room k' (A.deeper (envOfC "answer_call" (defScope sACall) s.heap.objs.size f cdv)) ∧ Binds K fd' ps' [] ∧ sp' [v0, v2] H Q E0) := fun i sp hA hp hs => by
      obtain ⟨f', fd', e1, e2, e3, e4⟩ := hA.ex
      exact ⟨aT, _, _, .ref f', rfl, rfl, GA.tup H, at_of hp (by rw [List.getElem?_map, e1]; rfl), f', rfl, e2, _, rfl, _, rfl, 9, fd', _, sp, e3, hr, e4, hs⟩
    by_cases hp : p = 0
    · have c0 : (!decide (V.int p = V.int 0)) = false := by rw [hp]; rfl
      rw [c0]
      refine iteF (iteF ?_)
      obtain ⟨a', ea, ex⟩ : ∃ a : Nat, args = [(a : Int)] ∧ x = .begin_ a := by
        cases hcl with
        | c0 a => exact ⟨a, rfl, rfl⟩
        | _ => exact absurd hp (by decide)
      subst ea ex
      refine ⟨_, rfl, ?_⟩
      exact disp 0 _ GA.a0 hp ⟨h, l, g, st, a', rfl, hst, hT, hg, k⟩
    · have c0 : (!decide (V.int p = V.int 0)) = true := by
        rw [decide_eq_false (fun z => hp (by injection z))]; rfl
      rw [c0]
      refine iteT ?_
      cases st with
      | none =>
        obtain ⟨y, hy⟩ := hst
        obtain ⟨dx, as, h1, h2, h3, h4, h5⟩ := hy.ex
        refine ⟨_, rfl, h, C, dx, _, _, rfl, h1, T.clC, T.nb, hf_begun _ _ _, _, rfl, ?_⟩
        refine iteT ⟨(by show 1 ≤ sizeLine; decide), fun q hq => k q _ ⟨⟨l, ?_, .inl rfl⟩, .new hq, hT.new hq, ?_, new_of (Frame.refl H l) h2 hq⟩⟩
        · rw [cl_none hcl hp]; exact ⟨y, Same.hull (same_new hq) hy⟩
        · rw [cl_none hcl hp]; exact upd_same
      | some y =>
        have hy : HullAt C S H h l true y := hst
        obtain ⟨dx, as, h1, h2, h3, h4, h5⟩ := hy.ex
        refine ⟨_, rfl, h, C, dx, _, _, rfl, h1, T.clC, T.nb, hf_begun _ _ _, _, rfl, ?_⟩
        refine iteF ⟨_, rfl, ?_⟩
        have B : Base C S Pt H h l y := ⟨hy, hgd y rfl, hT⟩
        cases hcl with
        | c0 a => exact absurd rfl hp
        | c1 => exact disp 1 _ GA.a1 rfl ⟨h, l, y, _, rfl, B, k⟩
        | c2 a b c => exact disp 2 _ GA.a2 rfl ⟨h, l, g, y, a, b, c, rfl, B, hg, k⟩
        | c3 a => exact disp 3 _ GA.a3 rfl ⟨h, l, g, y, a, rfl, B, hg, k⟩
        | c4 a => exact disp 4 _ GA.a4 rfl ⟨h, l, g, y, a, rfl, B, hg, k⟩
        | c5 a b => exact disp 5 _ GA.a5 rfl ⟨h, l, g, y, a, b, rfl, B, hg, k⟩
        | c6 => exact disp 6 _ GA.a6 rfl ⟨h, l, y, _, rfl, B, k⟩
        | c7 => exact disp 7 _ GA.a7 rfl ⟨h, l, y, _, rfl, B, k⟩
        | c8 => exact disp 8 _ GA.a8 rfl ⟨h, l, y, _, rfl, B, k⟩
        | c9 => exact disp 9 _ GA.a9 rfl ⟨h, l, y, _, rfl, B, k⟩
        | c10 => exact disp 10 _ GA.a10 rfl ⟨h, l, y, _, rfl, B, k⟩
        | c11 a b => exact disp 11 _ GA.a11 rfl ⟨h, l, g, y, a, b, rfl, B, hg, k⟩
        | c12 a b => exact disp 12 _ GA.a12 rfl ⟨h, l, g, y, a, b, rfl, B, hg, k⟩
        | c13 a => exact disp 13 _ GA.a13 rfl ⟨h, l, g, y, a, rfl, B, hg, k⟩
        | c14 => exact disp 14 _ GA.a14 rfl ⟨h, l, y, _, rfl, B, k⟩
        | c15 => exact disp 15 _ GA.a15 rfl ⟨h, l, y, _, rfl, B, k⟩
        | c16 => exact disp 16 _ GA.a16 rfl ⟨h, l, y, _, rfl, B, k⟩
        | c17 => exact disp 17 _ GA.a17 rfl ⟨h, l, y, _, rfl, B, k⟩
        | c18 a => exact disp 18 _ GA.a18 rfl ⟨h, l, g, y, a, rfl, B, hg, k⟩
        | c19 a => exact disp 19 _ GA.a19 rfl ⟨h, l, g, y, a, rfl, B, hg, k⟩
        | c20 => exact disp 20 _ GA.a20 rfl ⟨h, l, y, _, rfl, B, k⟩
end Hl
end
section
set_option Elab.async false
set_option linter.all false
set_option maxRecDepth 100000
set_option maxHeartbeats 4000000
namespace Hl
open PySem PySem.Spec PyProof.Rows L2
open Kp261 (Seam Yard seamAt nums)
variable {P : Program} {w : World} {K : PySem.W.Frag} {mg : Str → Option Value} {base : Heap}
abbrev sAnswers : Stmt := top 58
def ArgL (K : PySem.W.Frag) (H : Hp) (a : Addr) (xs : List V) : Prop :=
  (∃ o, H a = some (.frz o (.lst xs))) ∨ ∃ (o : Obj) (its : Array Value) (n : Nat), K.lookup a = some o ∧ o.cls = .type "list" ∧ o.dict = none ∧ o.data = .seq its n ∧ its.size ≤ sizeLine ∧ Vals xs its.toList
theorem ArgL.sq {H : Hp} {a : Addr} {xs : List V} (h : ArgL K H a xs) : SqL K H a xs := by
  rcases h with ⟨o, h⟩ | h
  · exact .inl (.inr ⟨o, h⟩)
  · exact .inr h
theorem ArgL.keep {H H' : Hp} {a : Addr} {xs : List V} (h : ArgL K H a xs) (f : ∀ b o u, H b = some (.frz o u) → H' b = some (.frz o u)) : ArgL K H' a xs := by
  rcases h with ⟨o, h⟩ | h
  · exact .inl ⟨o, f _ _ _ h⟩
  · exact .inr h
theorem ArgL.updLst {H : Hp} {a t : Addr} {xs ys : List V} {o : HO} (h : ArgL K H a xs) (ht : H t = some (.lst ys)) : ArgL K (upd H t o) a xs := h.keep fun b q u e => by
  rw [upd_ne (ne_of e ht (by intro z; cases z))]; exact e
theorem hull_upd {C S : Addr} {H : Hp} {h l t : Addr} {b : Bool} {y : Yard} {xs : List V} {o : HO} (A : HullAt C S H h l b y) (hne : t ≠ l) (ht : H t = some (.lst xs)) : HullAt C S (upd H t o) h l b y := by
  obtain ⟨dx, as, h1, h2, h3, h4, h5⟩ := A.ex
  refine ⟨dx, as, by rw [upd_ne (ne_of h1 ht (by intro z; cases z))]; exact h1, by rw [upd_ne (Ne.symm hne)]; exact h2, h3, h4, fun j a ha => ?_⟩
  obtain ⟨s, hs, d, hd⟩ := h5 j a ha
  exact ⟨s, hs, d, by rw [upd_ne (ne_of hd ht (by intro z; cases z))]; exact hd⟩
theorem hullSt_upd {C S : Addr} {H : Hp} {h l t : Addr} {st : Kp261.State} {xs : List V} {o : HO} (A : HullSt C S H h l st) (hne : t ≠ l) (ht : H t = some (.lst xs)) : HullSt C S (upd H t o) h l st := by
  cases st with
  | none => obtain ⟨y, A⟩ := A; exact ⟨y, hull_upd A hne ht⟩
  | some y => exact hull_upd A hne ht
structure Mid (ns : List Int) (place : Nat) (st : Kp261.State) (out : List Int) : Prop where
  le : place ≤ ns.length
  ex : ∃ (f : Nat) (cs : List (List (List Int))), PyFlat.calls PyKp261.shape f (ns.drop place) = some cs ∧ PyKp261.answers ns = out ++ PyFlat.told (PyFlat.played Kp261Neutral.step st (cs.map PyKp261.whole))
theorem mid_start {ns : List Int} (h : PyKp261.answers_asked ns = true) : Mid ns 0 Kp261.start [] ∧ (PyKp261.answers ns).length ≤ 10000000 := by
  unfold PyKp261.answers_asked at h
  cases e : PyFlat.calls PyKp261.shape ns.length ns with
  | none => rw [e] at h; cases h
  | some raw =>
    rw [e] at h
    simp only [Bool.and_eq_true] at h
    refine ⟨⟨Nat.zero_le _, ns.length, raw, e, ?_⟩, ?_⟩
    · unfold PyKp261.answers PyKp261.calls
      rw [e]
      rfl
    · have := h.2
      unfold PyFlat.short at this
      exact of_decide_eq_true this
theorem mid_end {ns : List Int} {place : Nat} {st : Kp261.State} {out : List Int} (M : Mid ns place st out) (h : ¬ place < ns.length) : out = PyKp261.answers ns := by
  obtain ⟨f, cs, h1, h2⟩ := M.ex
  rw [List.drop_of_length_le (by omega)] at h1
  have e := Hs.calls_nil h1
  subst e
  rw [h2]
  simp [PyFlat.played, PyFlat.told]
theorem mid_turn {ns : List Int} {place : Nat} {st : Kp261.State} {out : List Int} (M : Mid ns place st out) (hnn : ∀ z, z ∈ ns → 0 ≤ z) (h : place < ns.length) :
    ∃ (p : Int) (n j : Nat) (x : Kp261.Call), ns[place]? = some p ∧ p = (j : Int) ∧ cnts[j]? = some n ∧ place + 1 + n ≤ ns.length ∧ Cl p ((ns.drop (place + 1)).take n) x ∧
      Mid ns (place + 1 + n) (Kp261.step st x).1 (out ++ (((Kp261.step st x).2.num :: (Kp261.step st x).2.nums).length : Int) :: ((Kp261.step st x).2.num :: (Kp261.step st x).2.nums)) := by
  obtain ⟨f, cs, h1, h2⟩ := M.ex
  have hd : ns.drop place = ns[place] :: ns.drop (place + 1) := List.drop_eq_getElem_cons h
  rw [hd] at h1
  obtain ⟨n, f', cs', g1, g2, g3, g4⟩ := Hs.calls_cons h1
  obtain ⟨j, hj1, hj2⟩ := shape_at n 0 g1
  rw [List.length_drop] at g2
  have hl : ((ns.drop (place + 1)).take n).length = n := by rw [List.length_take, List.length_drop]; omega
  obtain ⟨x, hx⟩ := cl_of (args := (ns.drop (place + 1)).take n) hj1 (by rw [hl]; exact hj2) (fun z hz => hnn z (List.mem_of_mem_drop (List.mem_of_mem_take hz)))
  refine ⟨ns[place], n, j, x, List.getElem?_eq_getElem h, hj1, hj2, by omega, hx, by omega, f', cs', ?_, ?_⟩
  · rw [List.drop_drop] at g4
    exact g4
  · rw [h2, g3, List.map_cons, cl_whole hx]
    unfold PyFlat.told
    rw [show PyFlat.played Kp261Neutral.step st ([ns[place] :: (ns.drop (place + 1)).take n] :: cs'.map PyKp261.whole) = (Kp261Neutral.step st [ns[place] :: (ns.drop (place + 1)).take n]).2 :: PyFlat.played Kp261Neutral.step (Kp261Neutral.step st [ns[place] :: (ns.drop (place + 1)).take n]).1 (cs'.map PyKp261.whole) from rfl]
    rw [cl_step hx, List.flatMap_cons, List.append_assoc]
theorem cut_at (ns : List Int) (place n : Nat) (h : place + 1 + n ≤ ns.length) : cutV (ns.map V.int) (some ((place : Int) + 1)) (some ((place : Int) + 1 + (n : Int))) = ((ns.drop (place + 1)).take n).map V.int := by
  unfold cutV
  have e1 : (place : Int) + 1 = ((place + 1 : Nat) : Int) := by omega
  have e2 : (place : Int) + 1 + (n : Int) = ((place + 1 + n : Nat) : Int) := by omega
  rw [e2, e1, HT.sIx_nat, HT.sIx_nat, List.length_map, Nat.min_eq_left (by omega), Nat.min_eq_left (by omega), show place + 1 + n - (place + 1) = n by omega, List.map_take, List.map_drop]
def GTup (K : PySem.W.Frag) (mg : Str → Option Value) : Prop := ∃ aG, mg "GIVEN_COUNTS" = some (.ref aG) ∧ ∀ H, SqT K H aG (nl cnts)
def spAnswers (K : PySem.W.Frag) (Pt : Addr) : Sp := fun vs H Q _ => ∃ (a : Addr) (ns : List Int), vs = [.ref a] ∧ ArgL K H a (ns.map V.int) ∧ TBo Pt H ∧ PyKp261.answers_asked ns = true ∧ (∀ z, z ∈ ns → 0 ≤ z) ∧ ns.length ≤ 400 ∧
  ∀ (p : Addr) (H' : Hp), H' p = some (.lst ((PyKp261.answers ns).map V.int)) → Q (.ref p) H'
theorem scAnswers : FnScope ["calls", "hull", "told", "place", "number", "behind", "answer"] ["calls"] (defScope sAnswers) := ⟨rfl, rfl, rfl, by decide +kernel, rfl, by decide +kernel, by decide +kernel⟩
theorem ok_answers {C S Pt f : Addr} {fd : FuncData} (F : Fun K "answers" "answers" sAnswers f fd) (T : Txt K mg C S) (GG : GTup K mg) (GM : PromMk P w K mg base 1 C ["self"] (spInitH C S)) (GC : Prom P w K mg base 10 "answer_call" ["hull", "number", "given"] (spCall C S Pt)) :
    FnOk P w K mg base CX0 11 f fd ["calls"] (spAnswers K Pt) := by
  refine F.ok scAnswers (fun vs H Q E h => ?_) (fun cdv A outer s H vs Q E hr h => ?_)
  · obtain ⟨a, ns, rfl, _⟩ := h
    rfl
  · obtain ⟨a, ns, rfl, hA, hT, hask, hnn, h400, k⟩ := h
    obtain ⟨aG, mG, sG⟩ := GG
    obtain ⟨M0, hlen⟩ := mid_start hask
    refine ⟨_, pss_cons (ps_set (i := 1) scAnswers.nd rfl (Or.inl rfl) (pe_mk0 GM hr (by decide) rfl T.mgC))
      (pss_cons (ps_set (i := 2) scAnswers.nd rfl (Or.inl rfl) (pe_lst pa_nil))
      (pss_cons (ps_set (i := 3) scAnswers.nd rfl (Or.inl rfl) pe_int)
      (pss_cons (ps_while PassesOwn.never (pt_cmpR op_lt (pv 3) (pe_callB call_len_seq (by rfl) T.blen PySem.boot_len (pa_cons (pv 0) pa_nil)) (nomark _))
        (pss_cons (ps_set (i := 4) scAnswers.nd rfl (Or.inl rfl) (pe_ix ix_list (pv 0) (pv 3) (fun _ _ => rfl)))
        (pss_cons (ps_set (i := 5) scAnswers.nd rfl (Or.inl rfl) (pe_op op_add (pe_op op_add (pv 3) pe_int) (pe_ix ix_tup (pe_glob rfl mG (v := .ref aG) rfl) (pv 4) (fun _ _ => rfl))))
        (pss_cons (ps_set (i := 6) scAnswers.nd rfl (Or.inl rfl) (pe_prom GC hr (Nat.le_refl _) rfl (pa_cons (pv 1) (pa_cons (pv 4) (pa_cons (pe_slice sl_list (pv 0) (po_some (pe_op op_add (pv 3) pe_int)) (po_some (pv 5))) pa_nil)))))
        (pss_cons (ps_expr (pe_bm PySem.F.plainAttrs_list PySem.F.slot_list_append PySem.F.type_list_append mt_append (pv 2) (pa_cons (pe_callB call_len_seq (by rfl) T.blen PySem.boot_len (pa_cons (pv 6) pa_nil)) pa_nil)))
        (pss_cons (ps_expr (pe_bm PySem.F.plainAttrs_list PySem.F.slot_list_extend PySem.F.type_list_extend mt_extend (pv 2) (pa_cons (pv 6) pa_nil)))
        (pss_one (ps_set (i := 3) scAnswers.nd rfl (Or.inl rfl) (pv 5)))))))))
      (pss_one (ps_ret (pv 2)))))), ?_⟩
    intro x0 d0 n0 m0 e0
    refine ⟨x0, d0, rfl, upd_same, fun H1 l hH1 hl0 hk1 => ⟨rfl, ?_⟩⟩
    have s1 : Same H H1 := Same.made n0 m0 hk1
    refine ⟨Nat.zero_le _, fun t ht => ?_⟩
    have s2 : Same H (upd H1 t (.lst [])) := same_upd s1 ht
    have hlt : l ≠ t := by
      obtain ⟨_, _, _, h2, _⟩ := hH1.ex
      exact ne_of_none h2 ht
    show tWhile _ _ _ _ _
    refine while_by (fun σ H' => ∃ (place : Nat) (st : Kp261.State) (out : List Int) (l : Addr) (v4 v5 v6 : Option V), σ = [some (.ref a), some (.ref x0), some (.ref t), some (.int (place : Int)), v4, v5, v6] ∧ HullSt C S H' x0 l st ∧ l ≠ t ∧ Hs.GoodS st ∧ TBo Pt H' ∧ ArgL K H' a (ns.map V.int) ∧
        H' t = some (.lst (out.map V.int)) ∧ Mid ns place st out) (fun σ _ => match σ[3]? with | some (some (V.int z)) => ns.length - z.toNat | _ => 0)
      ⟨0, Kp261.start, [], l, none, none, none, rfl, ⟨_, Same.hull (same_new ht) hH1⟩, hlt, Hs.good_start, hT.same s2, hA.keep fun b o u e => s2 _ _ e, upd_same, M0⟩ ?_
      (fun σ H2 Q1 Q2 hq ⟨v3, e3, v0, e0', p', ys, ep, hs', i, j, ei, ej, kk, ek, q⟩ => ⟨v3, e3, v0, e0', p', ys, ep, hs', i, j, ei, ej, kk, ek, hq _ _ q⟩)
    rintro σ H' ⟨place, st, out, l, v4, v5, v6, rfl, hst, hlt, hgd, hT', hA', ht', M⟩
    refine ⟨_, rfl, _, rfl, a, _, rfl, .inl hA'.sq, _, _, rfl, rfl, _, rfl, ?_⟩
    rw [List.length_map]
    refine ite2 (fun c => ?_) (fun c => ?_)
    · have hc : place < ns.length := by
        have : (place : Int) < (ns.length : Int) := of_decide_eq_true c
        omega
      obtain ⟨p, n, j, x, hp, hpj, hj, hle, hx, M'⟩ := mid_turn M hnn hc
      have hlenO : (out ++ (((Kp261.step st x).2.num :: (Kp261.step st x).2.nums).length : Int) :: ((Kp261.step st x).2.num :: (Kp261.step st x).2.nums)).length ≤ 10000000 := by
        obtain ⟨f', cs', _, e⟩ := M'.ex
        rw [e, List.length_append] at hlen
        omega
      have hlenO2 : out.length + 1 + ((Kp261.step st x).2.num :: (Kp261.step st x).2.nums).length ≤ 10000000 := by
        rw [List.length_append, List.length_cons] at hlenO
        omega
      refine ⟨_, rfl, _, rfl, a, _, _, _, rfl, rfl, hA'.sq, atI_nat (by rw [List.getElem?_map, hp]; rfl), ?_⟩
      have hcn : (nl cnts)[j]? = some (V.int (n : Int)) := by
        unfold nl Kp261.ints
        rw [List.map_map, List.getElem?_map, hj]
        rfl
      refine ⟨_, rfl, _, _, rfl, rfl, _, rfl, aG, _, _, _, rfl, rfl, sG _, at_of hpj hcn, _, _, rfl, rfl, ?_⟩
      refine ⟨_, rfl, _, rfl, _, rfl, _, rfl, _, _, rfl, rfl, _, rfl, _, rfl, _, rfl, a, _, rfl, hA'.sq, fun g hg => ?_⟩
      rw [cut_at ns place n hle]
      have s3 : Same H' (upd H' g (.lst (((ns.drop (place + 1)).take n).map V.int))) := same_new hg
      have hT3 := hT'.new (o' := .lst (((ns.drop (place + 1)).take n).map V.int)) hg
      refine ⟨x0, l, g, st, p, _, x, rfl, Same.hullSt s3 hst, hgd, hT3, upd_same, hx, fun q H4 D => ?_⟩
      obtain ⟨l', hst4, hl'⟩ := D.ex
      have ht3 := s3 _ _ ht'
      have ht4 : H4 t = some (.lst (out.map V.int)) := D.fr.lst _ _ ht3 (Ne.symm hlt)
      have ntq : t ≠ q := D.new _ _ ht3
      have hlt' : l' ≠ t := by
        rcases hl' with e | e
        · rw [e]; exact hlt
        · intro z; rw [z, ht3] at e; cases e
      have hA4 : ArgL K H4 a (ns.map V.int) := (hA'.keep fun b o u e => s3 _ _ e).keep D.fr.frz
      refine ⟨_, rfl, .inl ⟨rfl, _, SqL.of ht4⟩, _, rfl, q, _, rfl, .inl (SqL.of D.at_), t, _, _, rfl, rfl, ht4, ?_, ?_⟩
      · rw [List.length_map, sizeLine_eq]; omega
      · refine ⟨_, rfl, .inl ⟨rfl, _, SqL.of upd_same⟩, _, rfl, t, q, _, _, rfl, rfl, upd_same, by rw [upd_ne (Ne.symm ntq)]; exact D.at_, ?_, ?_⟩
        · rw [List.length_append, List.length_map, List.length_map, sizeLine_eq]
          show out.length + 1 + _ ≤ _
          omega
        · refine ⟨_, rfl, ⟨place + 1 + n, (Kp261.step st x).1, _, l', some (.int p), some (.int ((place : Int) + 1 + (n : Int))), some (.ref q), rfl, ?_, hlt', Hs.good_step hgd x, ?_, ?_, ?_, M'⟩, ?_⟩
          · rw [upd_upd]
            have : HullSt C S (upd H4 t (.lst (out.map V.int ++ [V.int (((Kp261.step st x).2.num :: (Kp261.step st x).2.nums).map V.int).length] ++ ((Kp261.step st x).2.num :: (Kp261.step st x).2.nums).map V.int))) x0 l' (Kp261.step st x).1 := hullSt_upd hst4 (Ne.symm hlt') ht4
            exact this
          · exact (D.tb.upd ht4 rfl).upd upd_same rfl
          · exact (hA4.updLst ht4).updLst upd_same
          · rw [upd_same, List.map_append, List.length_map, List.append_assoc]
            rfl
          · show ns.length - (((place : Int) + 1 + (n : Int)).toNat) < ns.length - ((place : Int)).toNat
            omega
    · have hc : ¬ place < ns.length := fun z => c (decide_eq_true (by omega))
      have e := mid_end M hc
      refine ⟨_, rfl, k t H' ?_⟩
      rw [← e]; exact ht'
end Hl
end
section
set_option Elab.async false
set_option linter.all false
set_option maxRecDepth 100000
set_option maxHeartbeats 2000000
namespace L2
open PySem PySem.Spec PyProof.Rows
open PySem.W (WData Codec OpenSpec Well WellAll ReadsW ReadsAllW)
theorem Same.seqT {K : PySem.W.Frag} {H H' : Hp} {a : Addr} {xs : List V} (e : Same H H') (h : SqT K H a xs) : SqT K H' a xs := by
  rcases h with (h | ⟨o, h⟩) | h
  · exact .inl (.inl (e _ _ h))
  · exact .inl (.inr ⟨o, e _ _ h⟩)
  · exact .inr h
mutual
theorem Dw.mono {K : PySem.W.Frag} {H H' : Hp} (s : Same H H') : ∀ {v : V} {d : WData}, Dw K H v d → Dw K H' v d
  | _, _, .non => .non
  | _, _, .bl b => .bl b
  | _, _, .int i => .int i
  | _, _, .str x => .str x
  | _, _, .byt b => .byt b
  | _, _, .lst q a => .lst (s.seq q) (DwAll.mono s a)
  | _, _, .tup q a => .tup (s.seqT q) (DwAll.mono s a)
theorem DwAll.mono {K : PySem.W.Frag} {H H' : Hp} (s : Same H H') : ∀ {v : List V} {d : List WData}, DwAll K H v d → DwAll K H' v d
  | _, _, .nil => .nil
  | _, _, .cons a b => .cons (Dw.mono s a) (DwAll.mono s b)
end
theorem spec_callT {P : Program} {w : World} {K : PySem.W.Frag} {mg mb : Str → Option Value} {CX : CXT} {k : Nat} {fa : Addr} {fd : FuncData} {ps : List Str} {sp : Sp} {s1 : Shared} {vals : List Value} {ds : List WData} {R : PySem.W.WRecords} {cl : Str → Option Addr} {d0 : WData} {c Pt : Addr}
    (KX : K.In s1.heap) (hns : s1.heap.Ns mainGlobals mg) (hb : s1.heap.Ns builtinsNs mb) (hbb : ∀ x : Str, x ≠ "__name__" → mb x = bootBuiltins x) (hlim : s1.heap.NoLimit) (hg : s1.gens = #[])
    (hwl : WellAll w.params s1.heap vals ds) (hpl : plWs ds = true) (hwt : ∀ d ∈ ds, d.weight ≤ 1048576) (hr : Room k callerA) (CH : PySem.W.CodeHd s1.heap c Pt) (hPt : s1.heap.get? Pt = some (PySem.W.tabObj #[])) (nT : PySem.W.noTabs K = true) (BM : BMod mg s1.heap)
    (F : ∀ base : Heap, K.In base → base.Ns mainGlobals mg → PySem.W.CodeHd base c Pt → BMod mg base → FnOk P w K mg base CX k fa fd ps sp) (hbind : ∀ (s : Shared) (us : List Value), us.length = ps.length → BindsTo s fd ⟨us, []⟩ (ps.zip us)) (hlen : ds.length = ps.length)
    (hsp : ∀ (H : Hp) (xs : List V), (∀ b xs, H b ≠ some (.lst xs)) → H Pt = some (.tbl #[]) → DwAll K H xs ds → sp xs H (fun v H' => Dw K H' v d0) fun _ _ _ => False)
    (hCX : ∀ H e s', CX [] H s1 (fun _ _ _ => False) e s' → False) :
    codeAny (model P w) callerA (.call (.ref fa) ⟨vals, []⟩) (fun r s' => ∃ u as, r = .ok (.ret u) ∧ ReadsW R cl s'.heap u d0 as ∧ OldK s1.heap s'.heap ∧ s'.os = s1.os ∧ AllBare s'.gens) s1 := by
  obtain ⟨A, ho, ar⟩ := area_all ds vals hwl hpl hwt
  have hO : OnlyF (argH K s1.heap A) := argH_only ar
  have hok0 : HOk P w (argH K s1.heap A) s1.heap := argH_ok ar
  have hS0 := dw_all KX ar ds vals hwl hpl ho
  have hV := vals_toV ho
  have hK0 : ∀ b u, argH K s1.heap A b = some u → K.lookup b = none := fun b u q => (argH_is ar q).1
  have obj : ∀ {b : Addr} {u : HO}, argH K s1.heap A b = some u → ∃ ob : Obj, s1.heap.get? b = some ob ∧ ∃ (vs : Array Value) (n : Nat), ob.data = .seq vs n := fun {b u} q => by
    obtain ⟨_, vs, _, _, ⟨e2, _⟩ | ⟨e2, _⟩⟩ := argH_is ar q
    · exact ⟨_, e2, _, _, rfl⟩
    · exact ⟨_, e2, _, _, rfl⟩
  generalize argH K s1.heap A = H0 at hO hok0 hS0 hK0 obj
  have nS : ∀ {b : Addr} {o : Obj}, s1.heap.get? b = some o → (∀ vs n, o.data ≠ .seq vs n) → H0 b = none := fun {b o} e d => by
    cases q : H0 b with
    | none => rfl
    | some u =>
      obtain ⟨ob, e1, vs, n, e2⟩ := obj q
      rw [e] at e1
      cases e1
      exact absurd e2 (d vs n)
  have nPt0 : H0 Pt = none := nS hPt (fun vs n z => by cases z)
  have sm : Same H0 (upd H0 Pt (.tbl #[])) := fun b o e => by rw [upd_ne (ne_of_none e nPt0)]; exact e
  have hS : DwAll K (upd H0 Pt (.tbl #[])) (vals.map toV) ds := DwAll.mono sm hS0
  have hPH : upd H0 Pt (.tbl #[]) Pt = some (.tbl #[]) := upd_same
  have hok : HOk P w (upd H0 Pt (.tbl #[])) s1.heap := fun b u e => by
    by_cases z : b = Pt
    · subst z
      rw [upd_same] at e
      cases e
      exact hPt
    · rw [upd_ne z] at e
      exact (hok0 b u e).stay (fun _ _ _ q => q) (fun b' q => sm _ _ q) fun b' xs q => sm _ _ q
  have kPt : K.lookup Pt = none := by
    cases q : K.lookup Pt with
    | none => rfl
    | some o =>
      have e := KX _ _ q
      rw [hPt] at e
      have e' := Option.some.inj e
      have h2 := List.all_eq_true.mp nT (Pt, o) (PySem.W.mem_of_lookupK q)
      subst e'
      exact absurd (show false = true from h2) Bool.false_ne_true
  have hF : ∀ b, (upd H0 Pt (.tbl #[])) b = none ∨ (∃ o u, (upd H0 Pt (.tbl #[])) b = some (.frz o u)) ∨ b = Pt := fun b => by
    by_cases z : b = Pt
    · exact .inr (.inr z)
    · rw [upd_ne z]
      rcases hO b with q | q
      · exact .inl q
      · exact .inr (.inl q)
  have noH : ∀ {b : Addr} {o : Obj}, s1.heap.get? b = some o → (∀ vs n, o.data ≠ .seq vs n) → b ≠ Pt → (upd H0 Pt (.tbl #[])) b = none := fun {b o} e d z => by rw [upd_ne z]; exact nS e d
  have hK : ∀ b o, K.lookup b = some o → (upd H0 Pt (.tbl #[])) b = none := fun b o e => by
    have z : b ≠ Pt := fun z => by rw [z, kPt] at e; cases e
    rw [upd_ne z]
    cases q : H0 b with
    | none => rfl
    | some u => rw [hK0 b u q] at e; cases e
  generalize upd H0 Pt (.tbl #[]) = H at hS hPH hok hF noH hK
  have base_of : ∀ {b : Addr} {o : Obj}, s1.heap.get? b = some o → H b = none → (hidT s1.heap H).get? b = some o := fun e n => hidT_get e n
  have neP : ∀ {b : Addr} {o : Obj}, s1.heap.get? b = some o → (∀ vs, o.data ≠ .fields vs) → b ≠ Pt := fun {b o} e d z => by
    rw [z, hPt] at e
    cases e
    exact d _ rfl
  have nsK : ∀ {b : Addr} {m : Str → Option Value}, s1.heap.Ns b m → (hidT s1.heap H).Ns b m := fun {b m} ⟨o, es, ep, e, d, r⟩ => ⟨o, es, ep, base_of e (noH e (fun vs n z => by rw [d] at z; cases z) (neP e fun vs z => by rw [d] at z; cases z)), d, r⟩
  have hKb : K.In (hidT s1.heap H) := fun b o e => base_of (KX b o e) (hK b o e)
  have hM : Mod K mg (hidT s1.heap H) := ⟨hKb, nsK hns, ⟨mb, nsK hb, hbb⟩, let ⟨mc, h1, h2⟩ := hlim; ⟨mc, nsK h1, h2⟩⟩
  have CHb : PySem.W.CodeHd (hidT s1.heap H) c Pt := by
    obtain ⟨o, vs, file, tf, flags, tg, inF, text, tt, e1, e2, e3, r1, r2, r3, r4, r5, r6, hne⟩ := CH
    exact ⟨o, vs, file, tf, flags, tg, inF, text, tt, base_of e1 (noH e1 (fun vs n z => by rw [e3] at z; cases z) hne), e2, e3, r1, r2, r3, r4, r5, r6, hne⟩
  have BMb : BMod mg (hidT s1.heap H) := by
    obtain ⟨bm, o, b1, b2, b3, b4, b5, b6, b7⟩ := BM
    exact ⟨bm, o, b1, b2, b3, base_of b4 (noH b4 (fun vs n z => by rw [b7] at z; cases z) (neP b4 fun vs z => by rw [b7] at z; cases z)), b5, b6, b7⟩
  have e0 : Env0 P w K mg (hidT s1.heap H) callerA [] s1 H := ⟨rfl, hM, fun b o e => of_hidT e, Nat.le_of_eq (hidT_size _ _), trivial, fun b hb => absurd (show b ∈ ([] : List Addr) from hb) (by simp), hok, .of_eq hg⟩
  have hl : vals.length = ps.length := by rw [wellAll_len hwl]; exact hlen
  have noL : ∀ b xs, H b ≠ some (.lst xs) := fun b xs z => by
    rcases hF b with q | ⟨o, u, q⟩ | q
    · rw [z] at q; cases q
    · rw [z] at q; cases q
    · rw [q, hPH] at z; cases z
  refine codeAny_mono ((F _ hKb (nsK hns) CHb BMb).run callerA [] s1 H ⟨vals, []⟩ vals (vals.map toV) _ _ hr e0 (hbind s1 vals hl) hV (hsp H _ noL hPH hS)) fun r s' x => ?_
  cases r with
  | error e => exact (hCX H e s' x).elim
  | ok fl =>
    cases fl with
    | next => exact False.elim x
    | brk => exact False.elim x
    | cont => exact False.elim x
    | ret u =>
      obtain ⟨v, H', os, bare, un, hok', r', q⟩ := x
      have kept : ∀ b o, b ≠ Pt → s1.heap.get? b = some o → s'.heap.get? b = some o := fun b o hbP e => by
        rcases hF b with q2 | ⟨ob, u3, z⟩ | z
        · exact un.keep b o e q2 (by intro z; exact absurd (show b ∈ ([] : List Addr) from z) (by simp)) (by simp)
        · have z2 := un.frzs b ob _ z
          obtain ⟨e1, _⟩ := hok b _ z
          obtain ⟨e2, _⟩ := hok' b _ z2
          rw [e] at e1
          cases e1
          exact e2
        · exact absurd z hbP
      obtain ⟨more, hm⟩ := un.tbls Pt #[] hPH
      have hPt' : s'.heap.get? Pt = some { cls := .none, data := .fields (#[] ++ more) } := hok' Pt _ hm
      have old : OldK s1.heap s'.heap := by
        refine ⟨fun b o e => ?_, fun b o e => ?_⟩
        · by_cases z : b = Pt
          · subst z
            rw [hPt] at e
            cases e
            obtain ⟨o, vs, file, tf, flags, tg, inF, text, tt, e1, e2, e3, r1, r2, _⟩ := CH
            exact .inr (.inl ⟨⟨c, o, vs, e1, e2, e3, r1⟩, rfl, #[], more, rfl, hPt'⟩)
          · exact .inl (kept b o z e)
        · by_cases z : b = Pt
          · subst z; exact ⟨_, hPt'⟩
          · exact ⟨o, kept b o z e⟩
      have KX' : K.In s'.heap := fun b o e => kept b o (fun z => by rw [z, kPt] at e; cases e) (KX b o e)
      obtain ⟨as, hrd⟩ := Dw.reads (R := R) (cl := cl) hok' KX' d0 v u q r'
      exact ⟨u, as, rfl, hrd, old, os, bare⟩
end L2
end
section
set_option Elab.async false
set_option linter.all false
set_option maxRecDepth 100000
set_option maxHeartbeats 2000000
namespace L2
open PySem PySem.Spec PyProof.Rows
open PySem.W (WData Codec OpenSpec Well WellAll ReadsW ReadsAllW)
theorem walk_specT {r : OpenSpec} {k : Nat} {q : Program} {loose : List Str} {XP : (Str → Option Value) → Heap → Prop} {YP : World → Heap → Prop} {d dx : DefRec} {K : Params → PySem.W.Frag} {CX : CXT} {ps : List Str} {sp : PySem.W.Frag → Addr → Sp} {x : Str}
    (hwell : r.wellSaid = true) (hdf : d.params.defaults = []) (hlen : r.args.length = ps.length) (hr : Room k callerA)
    (hY : ∀ (w : World) (h : Heap), YP w h → (K w.params).In h) (hrec : (recsOf q).find? (fun e => e.name == x) = some dx) (hnt : ∀ (w : World), PySem.W.noTabs (K w.params) = true)
    (F : ∀ (w : World) (mg : Str → Option Value) (fa : Addr) (h : Heap) (c Pt : Addr), YP w h → (K w.params).In h → h.Ns mainGlobals mg → mg d.name = some (.ref fa) → (∃ (a : Addr) (o : Obj) (fd : FuncData), mg x = some (.ref a) ∧ h.get? a = some o ∧ o.data = .func fd ∧ fd.code = .ref c) →
      ∃ fd : FuncData, (∀ (s : Shared) (us : List Value), us.length = ps.length → BindsTo s fd ⟨us, []⟩ (ps.zip us)) ∧
        ∀ base : Heap, (K w.params).In base → base.Ns mainGlobals mg → PySem.W.CodeHd base c Pt → BMod mg base → FnOk r.prog w (K w.params) mg base CX k fa fd ps (sp (K w.params) Pt))
    (hsp : ∀ (K : PySem.W.Frag) (Pt : Addr) (H : Hp) (xs : List V) (a : Codec.denoteAll r.args), (∀ b xs, H b ≠ some (.lst xs)) → H Pt = some (.tbl #[]) → Codec.withinAll r.args a = true → Codec.app r.args r.asked a = true → DwAll K H xs (Codec.encAll r.args a) →
      sp K Pt xs H (fun v H' => Dw K H' v (r.ret.enc (Codec.app r.args r.f a))) fun _ _ _ => False)
    (hCX : ∀ (H : Hp) (s : Shared) (e : Value) (s' : Shared), CX [] H s (fun _ _ _ => False) e s' → False) :
    PySem.W.WalkOS q loose XP YP r d [] (fun f vs => PySem.call f vs) := by
  intro w s_0 s1 mg mb G Y fa o pm cd doc dV kV ho hd hcd hD hmg hg args vals as hpre hlay hrd hwl hlo
  obtain ⟨a, e1, e2⟩ := PySem.W.os_pre_some hpre
  obtain ⟨e3, hwi⟩ := Codec.encAll_of_decAll r.args args a e1
  subst e3
  have KX := hY w _ Y
  have hn : dx.name = x := beq_iff_eq.mp (List.find?_some (p := fun e : DefRec => e.name == x) hrec)
  obtain ⟨a0, o0, fd0, c, Pt, t1, t2, t3, t4, t5, t6⟩ := G.T.tab dx (List.mem_of_find?_eq_some hrec)
  rw [hn] at t1
  obtain ⟨fd, hb, hF⟩ := F w mg fa _ c Pt Y KX G.T.g hmg ⟨a0, o0, fd0, t1, t2, t3, t4⟩
  have CH := PySem.W.CodeHd.of t5 t6
  have hPt := t6.2
  have BM : BMod mg s1.heap := by
    obtain ⟨bm, ob, b1, b2, b3, b4, b5, b6⟩ := G.T.bmain
    refine ⟨bm, ob, b1, b2, fun z => ?_, b3, b4, b5, b6⟩
    obtain ⟨og, es, ep, e, hd', _⟩ := G.T.g
    rw [z, e] at b3
    cases b3
    rw [hd'] at b6
    cases b6
  refine PySem.W.enter_call (codeAny_mono (spec_callT (R := []) (cl := classAt s_0.heap) (d0 := r.ret.enc (Codec.app r.args r.f a)) KX G.T.g G.T.b G.T.builtins G.T.nolimit hg hwl (pl_encAll _ _) (layable_weight hlay) hr CH hPt (hnt w) BM hF hb (by rw [encAll_len]; exact hlen)
    (fun H xs hO hP hS => hsp (K w.params) Pt H xs a hO hP hwi e2 hS) fun H e s' => hCX H s1 e s') fun r' s' hq => ?_)
  obtain ⟨u, as', rfl, h1, h2, h3, h4⟩ := hq
  exact ⟨.inl ⟨u, _, as', rfl, fun _ => rfl, h1, (OpenSpec.post_iff hwell hwi _ _).mpr rfl, fun z => Bool.noConfusion (show false = true from z)⟩, h2, h3, h4⟩
end L2
end
section
set_option Elab.async false
set_option linter.all false
set_option maxRecDepth 100000
set_option maxHeartbeats 4000000
namespace Hl
open PySem PySem.Spec PyProof.Rows L2
theorem tup_refs : ∀ (l : List Addr), Vals (l.map V.ref) (l.map Value.ref)
  | [] => .nil
  | _ :: l => .cons rfl (tup_refs l)
theorem all_mk {P : Program} {w : World} {K : PySem.W.Frag} {h : Heap} {mg : Str → Option Value} {fa C S c Pt : Addr} (X : K.In h) (G : h.Ns mainGlobals mg) (hfa : mg "answers" = some (.ref fa)) (hx : ∃ (a : Addr) (o : Obj) (fd : FuncData), mg "order_told" = some (.ref a) ∧ h.get? a = some o ∧ o.data = .func fd ∧ fd.code = .ref c)
    {t_MOST_PARTS : Tok}
    {t_MOST_SEAMS : Tok}
    {t_MOST_STRAIN : Tok}
    {t_NO_SUCH : Tok}
    {t_NOT_WELDED : Tok}
    {t_NOT_BEGUN : Tok}
    {t_WELDED_ALREADY : Tok}
    {t_OUT_OF_BOUNDS : Tok}
    {t_FULL : Tok}
    {t_ALL_WELDED : Tok}
    {t_NOT_TOGETHER : Tok}
    {t_BEGIN : Tok}
    {fI0 : Addr} {odI0 anI0 : Option Addr} {slI0 : Array (Option Value)} {ocI0 kVI0 dcI0 pmI0 cdI0 ctI0 : Value}
    {fI1 : Addr} {odI1 anI1 : Option Addr} {slI1 : Array (Option Value)} {ocI1 kVI1 dcI1 pmI1 cdI1 ctI1 : Value}
    {f0 : Addr} {od0 an0 : Option Addr} {sl0 : Array (Option Value)} {oc0 kV0 dc0 pm0 ct0 : Value} {cd0 : Value}
    {f1 : Addr} {od1 an1 : Option Addr} {sl1 : Array (Option Value)} {oc1 kV1 dc1 pm1 ct1 : Value} {cd1 : Value}
    {f2 : Addr} {od2 an2 : Option Addr} {sl2 : Array (Option Value)} {oc2 kV2 dc2 pm2 ct2 : Value} {cd2 : Value}
    {f3 : Addr} {od3 an3 : Option Addr} {sl3 : Array (Option Value)} {oc3 kV3 dc3 pm3 ct3 : Value} {cd3 : Value}
    {f4 : Addr} {od4 an4 : Option Addr} {sl4 : Array (Option Value)} {oc4 kV4 dc4 pm4 ct4 : Value} {cd4 : Value}
    {f5 : Addr} {od5 an5 : Option Addr} {sl5 : Array (Option Value)} {oc5 kV5 dc5 pm5 ct5 : Value} {cd5 : Value}
    {f6 : Addr} {od6 an6 : Option Addr} {sl6 : Array (Option Value)} {oc6 kV6 dc6 pm6 ct6 : Value} {cd6 : Value}
    {f7 : Addr} {od7 an7 : Option Addr} {sl7 : Array (Option Value)} {oc7 kV7 dc7 pm7 ct7 : Value} {cd7 : Value}
    {f8 : Addr} {od8 an8 : Option Addr} {sl8 : Array (Option Value)} {oc8 kV8 dc8 pm8 ct8 : Value} {cd8 : Value}
    {f9 : Addr} {od9 an9 : Option Addr} {sl9 : Array (Option Value)} {oc9 kV9 dc9 pm9 ct9 : Value} {cd9 : Value}
    {f10 : Addr} {od10 an10 : Option Addr} {sl10 : Array (Option Value)} {oc10 kV10 dc10 pm10 ct10 : Value} {cd10 : Value}
    {f11 : Addr} {od11 an11 : Option Addr} {sl11 : Array (Option Value)} {oc11 kV11 dc11 pm11 ct11 : Value} {cd11 : Value}
    {f12 : Addr} {od12 an12 : Option Addr} {sl12 : Array (Option Value)} {oc12 kV12 dc12 pm12 ct12 : Value} {cd12 : Value}
    {f13 : Addr} {od13 an13 : Option Addr} {sl13 : Array (Option Value)} {oc13 kV13 dc13 pm13 ct13 : Value} {cd13 : Value}
    {f14 : Addr} {od14 an14 : Option Addr} {sl14 : Array (Option Value)} {oc14 kV14 dc14 pm14 ct14 : Value} {cd14 : Value}
    {f15 : Addr} {od15 an15 : Option Addr} {sl15 : Array (Option Value)} {oc15 kV15 dc15 pm15 ct15 : Value} {cd15 : Value}
    {f16 : Addr} {od16 an16 : Option Addr} {sl16 : Array (Option Value)} {oc16 kV16 dc16 pm16 ct16 : Value} {cd16 : Value}
    {f17 : Addr} {od17 an17 : Option Addr} {sl17 : Array (Option Value)} {oc17 kV17 dc17 pm17 ct17 : Value} {cd17 : Value}
    {f18 : Addr} {od18 an18 : Option Addr} {sl18 : Array (Option Value)} {oc18 kV18 dc18 pm18 ct18 : Value} {cd18 : Value}
    {f19 : Addr} {od19 an19 : Option Addr} {sl19 : Array (Option Value)} {oc19 kV19 dc19 pm19 ct19 : Value} {cd19 : Value}
    {f20 : Addr} {od20 an20 : Option Addr} {sl20 : Array (Option Value)} {oc20 kV20 dc20 pm20 ct20 : Value} {cd20 : Value}
    {f21 : Addr} {od21 an21 : Option Addr} {sl21 : Array (Option Value)} {oc21 kV21 dc21 pm21 ct21 : Value} {cd21 : Value}
    {f22 : Addr} {od22 an22 : Option Addr} {sl22 : Array (Option Value)} {oc22 kV22 dc22 pm22 ct22 : Value} {cd22 : Value}
    {f23 : Addr} {od23 an23 : Option Addr} {sl23 : Array (Option Value)} {oc23 kV23 dc23 pm23 ct23 : Value} {cd23 : Value}
    {f24 : Addr} {od24 an24 : Option Addr} {sl24 : Array (Option Value)} {oc24 kV24 dc24 pm24 ct24 : Value} {cd24 : Value}
    {f25 : Addr} {od25 an25 : Option Addr} {sl25 : Array (Option Value)} {oc25 kV25 dc25 pm25 ct25 : Value} {cd25 : Value}
    {f26 : Addr} {od26 an26 : Option Addr} {sl26 : Array (Option Value)} {oc26 kV26 dc26 pm26 ct26 : Value} {cd26 : Value}
    {f27 : Addr} {od27 an27 : Option Addr} {sl27 : Array (Option Value)} {oc27 kV27 dc27 pm27 ct27 : Value} {cd27 : Value}
    {f28 : Addr} {od28 an28 : Option Addr} {sl28 : Array (Option Value)} {oc28 kV28 dc28 pm28 ct28 : Value} {cd28 : Value}
    {f29 : Addr} {od29 an29 : Option Addr} {sl29 : Array (Option Value)} {oc29 kV29 dc29 pm29 ct29 : Value} {cd29 : Value}
    {f30 : Addr} {od30 an30 : Option Addr} {sl30 : Array (Option Value)} {oc30 kV30 dc30 pm30 ct30 : Value} {cd30 : Value}
    {f31 : Addr} {od31 an31 : Option Addr} {sl31 : Array (Option Value)} {oc31 kV31 dc31 pm31 ct31 : Value} {cd31 : Value}
    {f32 : Addr} {od32 an32 : Option Addr} {sl32 : Array (Option Value)} {oc32 kV32 dc32 pm32 ct32 : Value} {cd32 : Value}
    {f33 : Addr} {od33 an33 : Option Addr} {sl33 : Array (Option Value)} {oc33 kV33 dc33 pm33 ct33 : Value} {cd33 : Value}
    {f34 : Addr} {od34 an34 : Option Addr} {sl34 : Array (Option Value)} {oc34 kV34 dc34 pm34 ct34 : Value} {cd34 : Value}
    {f35 : Addr} {od35 an35 : Option Addr} {sl35 : Array (Option Value)} {oc35 kV35 dc35 pm35 ct35 : Value} {cd35 : Value}
    {f36 : Addr} {od36 an36 : Option Addr} {sl36 : Array (Option Value)} {oc36 kV36 dc36 pm36 ct36 : Value} {cd36 : Value}
    {f37 : Addr} {od37 an37 : Option Addr} {sl37 : Array (Option Value)} {oc37 kV37 dc37 pm37 ct37 : Value} {cd37 : Value}
    {f38 : Addr} {od38 an38 : Option Addr} {sl38 : Array (Option Value)} {oc38 kV38 dc38 pm38 ct38 : Value} {cd38 : Value}
    {f39 : Addr} {od39 an39 : Option Addr} {sl39 : Array (Option Value)} {oc39 kV39 dc39 pm39 ct39 : Value} {cd39 : Value}
    {f40 : Addr} {od40 an40 : Option Addr} {sl40 : Array (Option Value)} {oc40 kV40 dc40 pm40 ct40 : Value} {cd40 : Value}
    {f41 : Addr} {od41 an41 : Option Addr} {sl41 : Array (Option Value)} {oc41 kV41 dc41 pm41 ct41 : Value} {cd41 : Value}
    {aT aG : Addr} {odT odG : Option Addr} {nT nG : Nat} {slT slG : Array (Option Value)} {g0 : Tok} {g1 : Tok} {g2 : Tok} {g3 : Tok} {g4 : Tok} {g5 : Tok} {g6 : Tok} {g7 : Tok} {g8 : Tok} {g9 : Tok} {g10 : Tok} {g11 : Tok} {g12 : Tok} {g13 : Tok} {g14 : Tok} {g15 : Tok} {g16 : Tok} {g17 : Tok} {g18 : Tok} {g19 : Tok} {g20 : Tok}
    (aC : PySem.W.nsIn K mainGlobals "Hull" = some (some (.ref C)))
    (aS : PySem.W.nsIn K mainGlobals "Seam" = some (some (.ref S)))
    (pgC : PySem.W.plainGet K C Str.empty = true)
    (hdC : PySem.W.hasDictIn K C = true)
    (poC : PySem.W.plainOver K C = true)
    (saC : PySem.W.findIn K (.ref C) "__setattr__" = some (some (.builtin "object.__setattr__")))
    (mkC : PySem.W.makesIn K C = true)
    (kcC : PySem.W.keepIn K (.ref C) = true)
    (pgS : PySem.W.plainGet K S Str.empty = true)
    (hdS : PySem.W.hasDictIn K S = true)
    (poS : PySem.W.plainOver K S = true)
    (saS : PySem.W.findIn K (.ref S) "__setattr__" = some (some (.builtin "object.__setattr__")))
    (mkS : PySem.W.makesIn K S = true)
    (kcS : PySem.W.keepIn K (.ref S) = true)
    (n_begun : PySem.W.findIn K (.ref C) "begun" = some none)
    (n_part_count : PySem.W.findIn K (.ref C) "part_count" = some none)
    (n_seams : PySem.W.findIn K (.ref C) "seams" = some none)
    (m_x : PySem.W.findIn K (.ref S) "x" = some none)
    (m_y : PySem.W.findIn K (.ref S) "y" = some none)
    (m_strain : PySem.W.findIn K (.ref S) "strain" = some none)
    (m_welded : PySem.W.findIn K (.ref S) "welded" = some none)
    (m_locked : PySem.W.findIn K (.ref S) "locked" = some none)
    (i_MOST_PARTS : PySem.W.nsIn K mainGlobals "MOST_PARTS" = some (some (.int 7 t_MOST_PARTS)))
    (i_MOST_SEAMS : PySem.W.nsIn K mainGlobals "MOST_SEAMS" = some (some (.int 10 t_MOST_SEAMS)))
    (i_MOST_STRAIN : PySem.W.nsIn K mainGlobals "MOST_STRAIN" = some (some (.int 1000 t_MOST_STRAIN)))
    (i_NO_SUCH : PySem.W.nsIn K mainGlobals "NO_SUCH" = some (some (.int (-2) t_NO_SUCH)))
    (i_NOT_WELDED : PySem.W.nsIn K mainGlobals "NOT_WELDED" = some (some (.int (-6) t_NOT_WELDED)))
    (i_NOT_BEGUN : PySem.W.nsIn K mainGlobals "NOT_BEGUN" = some (some (.int (-11) t_NOT_BEGUN)))
    (i_WELDED_ALREADY : PySem.W.nsIn K mainGlobals "WELDED_ALREADY" = some (some (.int (-17) t_WELDED_ALREADY)))
    (i_OUT_OF_BOUNDS : PySem.W.nsIn K mainGlobals "OUT_OF_BOUNDS" = some (some (.int (-22) t_OUT_OF_BOUNDS)))
    (i_FULL : PySem.W.nsIn K mainGlobals "FULL" = some (some (.int (-28) t_FULL)))
    (i_ALL_WELDED : PySem.W.nsIn K mainGlobals "ALL_WELDED" = some (some (.int (-6) t_ALL_WELDED)))
    (i_NOT_TOGETHER : PySem.W.nsIn K mainGlobals "NOT_TOGETHER" = some (some (.int (-33) t_NOT_TOGETHER)))
    (i_BEGIN : PySem.W.nsIn K mainGlobals "BEGIN" = some (some (.int 0 t_BEGIN)))
    (b_len : PySem.W.nsIn K mainGlobals "len" = some none)
    (b_sum : PySem.W.nsIn K mainGlobals "sum" = some none)
    (b_enumerate : PySem.W.nsIn K mainGlobals "enumerate" = some none)
    (b_range : PySem.W.nsIn K mainGlobals "range" = some none)
    (b_list : PySem.W.nsIn K mainGlobals "list" = some none)
    (b_sorted : PySem.W.nsIn K mainGlobals "sorted" = some none)
    (b_set : PySem.W.nsIn K mainGlobals "set" = some none)
    (b_min : PySem.W.nsIn K mainGlobals "min" = some none)
    (aI0 : PySem.W.findIn K (.ref S) "__init__" = some (some (.ref fI0)))
    (iI0 : PySem.W.isFn K (.ref fI0) = true)
    (lI0 : K.lookup fI0 = some ⟨ocI0, odI0, .func (PySem.W.fnOf "__init__" "Seam.__init__" (defArgs sInitS) (defBody sInitS) (defScope sInitS) .none kVI0 dcI0 pmI0 anI0 cdI0 ctI0), slI0⟩)
    (cI0 : PySem.W.codeIn K cdI0 "Seam.__init__" = true)
    (kI0 : PySem.W.keepIn K (.ref fI0) = true)
    (aI1 : PySem.W.findIn K (.ref C) "__init__" = some (some (.ref fI1)))
    (iI1 : PySem.W.isFn K (.ref fI1) = true)
    (lI1 : K.lookup fI1 = some ⟨ocI1, odI1, .func (PySem.W.fnOf "__init__" "Hull.__init__" (defArgs sInitH) (defBody sInitH) (defScope sInitH) .none kVI1 dcI1 pmI1 anI1 cdI1 ctI1), slI1⟩)
    (cI1 : PySem.W.codeIn K cdI1 "Hull.__init__" = true)
    (kI1 : PySem.W.keepIn K (.ref fI1) = true)
    (a0 : PySem.W.nsIn K mainGlobals "is_part" = some (some (.ref f0)))
    (l0 : K.lookup f0 = some ⟨oc0, od0, .func (PySem.W.fnOf "is_part" "is_part" (defArgs sIsPart) (defBody sIsPart) (defScope sIsPart) .none kV0 dc0 pm0 an0 cd0 ct0), sl0⟩)
    (c0 : PySem.W.codeIn K cd0 "is_part" = true)
    (k0 : PySem.W.keepIn K (.ref f0) = true)
    (a1 : PySem.W.nsIn K mainGlobals "is_seam" = some (some (.ref f1)))
    (l1 : K.lookup f1 = some ⟨oc1, od1, .func (PySem.W.fnOf "is_seam" "is_seam" (defArgs sIsSeam) (defBody sIsSeam) (defScope sIsSeam) .none kV1 dc1 pm1 an1 cd1 ct1), sl1⟩)
    (c1 : PySem.W.codeIn K cd1 "is_seam" = true)
    (k1 : PySem.W.keepIn K (.ref f1) = true)
    (a2 : PySem.W.nsIn K mainGlobals "is_strain" = some (some (.ref f2)))
    (l2 : K.lookup f2 = some ⟨oc2, od2, .func (PySem.W.fnOf "is_strain" "is_strain" (defArgs sIsStrain) (defBody sIsStrain) (defScope sIsStrain) .none kV2 dc2 pm2 an2 cd2 ct2), sl2⟩)
    (c2 : PySem.W.codeIn K cd2 "is_strain" = true)
    (k2 : PySem.W.keepIn K (.ref f2) = true)
    (a3 : PySem.W.nsIn K mainGlobals "seams_by_weld" = some (some (.ref f3)))
    (l3 : K.lookup f3 = some ⟨oc3, od3, .func (PySem.W.fnOf "seams_by_weld" "seams_by_weld" (defArgs sByWeld) (defBody sByWeld) (defScope sByWeld) .none kV3 dc3 pm3 an3 cd3 ct3), sl3⟩)
    (c3 : PySem.W.codeIn K cd3 "seams_by_weld" = true)
    (k3 : PySem.W.keepIn K (.ref f3) = true)
    (a4 : PySem.W.nsIn K mainGlobals "pieces_by" = some (some (.ref f4)))
    (l4 : K.lookup f4 = some ⟨oc4, od4, .func (PySem.W.fnOf "pieces_by" "pieces_by" (defArgs sPieces) (defBody sPieces) (defScope sPieces) .none kV4 dc4 pm4 an4 cd4 ct4), sl4⟩)
    (c4 : PySem.W.codeIn K cd4 "pieces_by" = true)
    (k4 : PySem.W.keepIn K (.ref f4) = true)
    (a5 : PySem.W.nsIn K mainGlobals "joined" = some (some (.ref f5)))
    (l5 : K.lookup f5 = some ⟨oc5, od5, .func (PySem.W.fnOf "joined" "joined" (defArgs sJoined) (defBody sJoined) (defScope sJoined) .none kV5 dc5 pm5 an5 cd5 ct5), sl5⟩)
    (c5 : PySem.W.codeIn K cd5 "joined" = true)
    (k5 : PySem.W.keepIn K (.ref f5) = true)
    (a6 : PySem.W.nsIn K mainGlobals "locked_of" = some (some (.ref f6)))
    (l6 : K.lookup f6 = some ⟨oc6, od6, .func (PySem.W.fnOf "locked_of" "locked_of" (defArgs sLockedOf) (defBody sLockedOf) (defScope sLockedOf) .none kV6 dc6 pm6 an6 cd6 ct6), sl6⟩)
    (c6 : PySem.W.codeIn K cd6 "locked_of" = true)
    (k6 : PySem.W.keepIn K (.ref f6) = true)
    (a7 : PySem.W.nsIn K mainGlobals "order_told" = some (some (.ref f7)))
    (l7 : K.lookup f7 = some ⟨oc7, od7, .func (PySem.W.fnOf "order_told" "order_told" (defArgs sOrder) (defBody sOrder) (defScope sOrder) .none kV7 dc7 pm7 an7 cd7 ct7), sl7⟩)
    (c7 : PySem.W.codeIn K cd7 "order_told" = true)
    (k7 : PySem.W.keepIn K (.ref f7) = true)
    (a8 : PySem.W.nsIn K mainGlobals "strain_of" = some (some (.ref f8)))
    (l8 : K.lookup f8 = some ⟨oc8, od8, .func (PySem.W.fnOf "strain_of" "strain_of" (defArgs sStrainOf) (defBody sStrainOf) (defScope sStrainOf) .none kV8 dc8 pm8 an8 cd8 ct8), sl8⟩)
    (c8 : PySem.W.codeIn K cd8 "strain_of" = true)
    (k8 : PySem.W.keepIn K (.ref f8) = true)
    (a9 : PySem.W.nsIn K mainGlobals "strain_so_far" = some (some (.ref f9)))
    (l9 : K.lookup f9 = some ⟨oc9, od9, .func (PySem.W.fnOf "strain_so_far" "strain_so_far" (defArgs sSoFar) (defBody sSoFar) (defScope sSoFar) .none kV9 dc9 pm9 an9 cd9 ct9), sl9⟩)
    (c9 : PySem.W.codeIn K cd9 "strain_so_far" = true)
    (k9 : PySem.W.keepIn K (.ref f9) = true)
    (a10 : PySem.W.nsIn K mainGlobals "counted" = some (some (.ref f10)))
    (l10 : K.lookup f10 = some ⟨oc10, od10, .func (PySem.W.fnOf "counted" "counted" (defArgs sCounted) (defBody sCounted) (defScope sCounted) .none kV10 dc10 pm10 an10 cd10 ct10), sl10⟩)
    (c10 : PySem.W.codeIn K cd10 "counted" = true)
    (k10 : PySem.W.keepIn K (.ref f10) = true)
    (a11 : PySem.W.nsIn K mainGlobals "would_be_locked" = some (some (.ref f11)))
    (l11 : K.lookup f11 = some ⟨oc11, od11, .func (PySem.W.fnOf "would_be_locked" "would_be_locked" (defArgs sWould) (defBody sWould) (defScope sWould) .none kV11 dc11 pm11 an11 cd11 ct11), sl11⟩)
    (c11 : PySem.W.codeIn K cd11 "would_be_locked" = true)
    (k11 : PySem.W.keepIn K (.ref f11) = true)
    (a12 : PySem.W.nsIn K mainGlobals "count_pieces" = some (some (.ref f12)))
    (l12 : K.lookup f12 = some ⟨oc12, od12, .func (PySem.W.fnOf "count_pieces" "count_pieces" (defArgs sCount) (defBody sCount) (defScope sCount) .none kV12 dc12 pm12 an12 cd12 ct12), sl12⟩)
    (c12 : PySem.W.codeIn K cd12 "count_pieces" = true)
    (k12 : PySem.W.keepIn K (.ref f12) = true)
    (a13 : PySem.W.nsIn K mainGlobals "hang_together" = some (some (.ref f13)))
    (l13 : K.lookup f13 = some ⟨oc13, od13, .func (PySem.W.fnOf "hang_together" "hang_together" (defArgs sTog) (defBody sTog) (defScope sTog) .none kV13 dc13 pm13 an13 cd13 ct13), sl13⟩)
    (c13 : PySem.W.codeIn K cd13 "hang_together" = true)
    (k13 : PySem.W.keepIn K (.ref f13) = true)
    (a14 : PySem.W.nsIn K mainGlobals "holds_alone" = some (some (.ref f14)))
    (l14 : K.lookup f14 = some ⟨oc14, od14, .func (PySem.W.fnOf "holds_alone" "holds_alone" (defArgs sAlone) (defBody sAlone) (defScope sAlone) .none kV14 dc14 pm14 an14 cd14 ct14), sl14⟩)
    (c14 : PySem.W.codeIn K cd14 "holds_alone" = true)
    (k14 : PySem.W.keepIn K (.ref f14) = true)
    (a15 : PySem.W.nsIn K mainGlobals "part_across" = some (some (.ref f15)))
    (l15 : K.lookup f15 = some ⟨oc15, od15, .func (PySem.W.fnOf "part_across" "part_across" (defArgs sAcross) (defBody sAcross) (defScope sAcross) .none kV15 dc15 pm15 an15 cd15 ct15), sl15⟩)
    (c15 : PySem.W.codeIn K cd15 "part_across" = true)
    (k15 : PySem.W.keepIn K (.ref f15) = true)
    (a16 : PySem.W.nsIn K mainGlobals "ways_one_further" = some (some (.ref f16)))
    (l16 : K.lookup f16 = some ⟨oc16, od16, .func (PySem.W.fnOf "ways_one_further" "ways_one_further" (defArgs sFurther) (defBody sFurther) (defScope sFurther) .none kV16 dc16 pm16 an16 cd16 ct16), sl16⟩)
    (c16 : PySem.W.codeIn K cd16 "ways_one_further" = true)
    (k16 : PySem.W.keepIn K (.ref f16) = true)
    (a17 : PySem.W.nsIn K mainGlobals "ways_from" = some (some (.ref f17)))
    (l17 : K.lookup f17 = some ⟨oc17, od17, .func (PySem.W.fnOf "ways_from" "ways_from" (defArgs sFrom) (defBody sFrom) (defScope sFrom) .none kV17 dc17 pm17 an17 cd17 ct17), sl17⟩)
    (c17 : PySem.W.codeIn K cd17 "ways_from" = true)
    (k17 : PySem.W.keepIn K (.ref f17) = true)
    (a18 : PySem.W.nsIn K mainGlobals "way_or_refusal" = some (some (.ref f18)))
    (l18 : K.lookup f18 = some ⟨oc18, od18, .func (PySem.W.fnOf "way_or_refusal" "way_or_refusal" (defArgs sWayOr) (defBody sWayOr) (defScope sWayOr) .none kV18 dc18 pm18 an18 cd18 ct18), sl18⟩)
    (c18 : PySem.W.codeIn K cd18 "way_or_refusal" = true)
    (k18 : PySem.W.keepIn K (.ref f18) = true)
    (a19 : PySem.W.nsIn K mainGlobals "answer_begin" = some (some (.ref f19)))
    (l19 : K.lookup f19 = some ⟨oc19, od19, .func (PySem.W.fnOf "answer_begin" "answer_begin" (defArgs sABegin) (defBody sABegin) (defScope sABegin) .none kV19 dc19 pm19 an19 cd19 ct19), sl19⟩)
    (c19 : PySem.W.codeIn K cd19 "answer_begin" = true)
    (k19 : PySem.W.keepIn K (.ref f19) = true)
    (a20 : PySem.W.nsIn K mainGlobals "answer_part" = some (some (.ref f20)))
    (l20 : K.lookup f20 = some ⟨oc20, od20, .func (PySem.W.fnOf "answer_part" "answer_part" (defArgs sAPart) (defBody sAPart) (defScope sAPart) .none kV20 dc20 pm20 an20 cd20 ct20), sl20⟩)
    (c20 : PySem.W.codeIn K cd20 "answer_part" = true)
    (k20 : PySem.W.keepIn K (.ref f20) = true)
    (a21 : PySem.W.nsIn K mainGlobals "answer_seam" = some (some (.ref f21)))
    (l21 : K.lookup f21 = some ⟨oc21, od21, .func (PySem.W.fnOf "answer_seam" "answer_seam" (defArgs sASeam) (defBody sASeam) (defScope sASeam) .none kV21 dc21 pm21 an21 cd21 ct21), sl21⟩)
    (c21 : PySem.W.codeIn K cd21 "answer_seam" = true)
    (k21 : PySem.W.keepIn K (.ref f21) = true)
    (a22 : PySem.W.nsIn K mainGlobals "answer_weld" = some (some (.ref f22)))
    (l22 : K.lookup f22 = some ⟨oc22, od22, .func (PySem.W.fnOf "answer_weld" "answer_weld" (defArgs sAWeld) (defBody sAWeld) (defScope sAWeld) .none kV22 dc22 pm22 an22 cd22 ct22), sl22⟩)
    (c22 : PySem.W.codeIn K cd22 "answer_weld" = true)
    (k22 : PySem.W.keepIn K (.ref f22) = true)
    (a23 : PySem.W.nsIn K mainGlobals "answer_cut" = some (some (.ref f23)))
    (l23 : K.lookup f23 = some ⟨oc23, od23, .func (PySem.W.fnOf "answer_cut" "answer_cut" (defArgs sACut) (defBody sACut) (defScope sACut) .none kV23 dc23 pm23 an23 cd23 ct23), sl23⟩)
    (c23 : PySem.W.codeIn K cd23 "answer_cut" = true)
    (k23 : PySem.W.keepIn K (.ref f23) = true)
    (a24 : PySem.W.nsIn K mainGlobals "answer_strain" = some (some (.ref f24)))
    (l24 : K.lookup f24 = some ⟨oc24, od24, .func (PySem.W.fnOf "answer_strain" "answer_strain" (defArgs sAStrain) (defBody sAStrain) (defScope sAStrain) .none kV24 dc24 pm24 an24 cd24 ct24), sl24⟩)
    (c24 : PySem.W.codeIn K cd24 "answer_strain" = true)
    (k24 : PySem.W.keepIn K (.ref f24) = true)
    (a25 : PySem.W.nsIn K mainGlobals "answer_order" = some (some (.ref f25)))
    (l25 : K.lookup f25 = some ⟨oc25, od25, .func (PySem.W.fnOf "answer_order" "answer_order" (defArgs sAOrder) (defBody sAOrder) (defScope sAOrder) .none kV25 dc25 pm25 an25 cd25 ct25), sl25⟩)
    (c25 : PySem.W.codeIn K cd25 "answer_order" = true)
    (k25 : PySem.W.keepIn K (.ref f25) = true)
    (a26 : PySem.W.nsIn K mainGlobals "answer_least" = some (some (.ref f26)))
    (l26 : K.lookup f26 = some ⟨oc26, od26, .func (PySem.W.fnOf "answer_least" "answer_least" (defArgs sALeast) (defBody sALeast) (defScope sALeast) .none kV26 dc26 pm26 an26 cd26 ct26), sl26⟩)
    (c26 : PySem.W.codeIn K cd26 "answer_least" = true)
    (k26 : PySem.W.keepIn K (.ref f26) = true)
    (a27 : PySem.W.nsIn K mainGlobals "answer_sofar" = some (some (.ref f27)))
    (l27 : K.lookup f27 = some ⟨oc27, od27, .func (PySem.W.fnOf "answer_sofar" "answer_sofar" (defArgs sASofar) (defBody sASofar) (defScope sASofar) .none kV27 dc27 pm27 an27 cd27 ct27), sl27⟩)
    (c27 : PySem.W.codeIn K cd27 "answer_sofar" = true)
    (k27 : PySem.W.keepIn K (.ref f27) = true)
    (a28 : PySem.W.nsIn K mainGlobals "answer_locked" = some (some (.ref f28)))
    (l28 : K.lookup f28 = some ⟨oc28, od28, .func (PySem.W.fnOf "answer_locked" "answer_locked" (defArgs sALocked) (defBody sALocked) (defScope sALocked) .none kV28 dc28 pm28 an28 cd28 ct28), sl28⟩)
    (c28 : PySem.W.codeIn K cd28 "answer_locked" = true)
    (k28 : PySem.W.keepIn K (.ref f28) = true)
    (a29 : PySem.W.nsIn K mainGlobals "answer_many" = some (some (.ref f29)))
    (l29 : K.lookup f29 = some ⟨oc29, od29, .func (PySem.W.fnOf "answer_many" "answer_many" (defArgs sAMany) (defBody sAMany) (defScope sAMany) .none kV29 dc29 pm29 an29 cd29 ct29), sl29⟩)
    (c29 : PySem.W.codeIn K cd29 "answer_many" = true)
    (k29 : PySem.W.keepIn K (.ref f29) = true)
    (a30 : PySem.W.nsIn K mainGlobals "answer_hang" = some (some (.ref f30)))
    (l30 : K.lookup f30 = some ⟨oc30, od30, .func (PySem.W.fnOf "answer_hang" "answer_hang" (defArgs sAHang) (defBody sAHang) (defScope sAHang) .none kV30 dc30 pm30 an30 cd30 ct30), sl30⟩)
    (c30 : PySem.W.codeIn K cd30 "answer_hang" = true)
    (k30 : PySem.W.keepIn K (.ref f30) = true)
    (a31 : PySem.W.nsIn K mainGlobals "answer_way" = some (some (.ref f31)))
    (l31 : K.lookup f31 = some ⟨oc31, od31, .func (PySem.W.fnOf "answer_way" "answer_way" (defArgs sAWay) (defBody sAWay) (defScope sAWay) .none kV31 dc31 pm31 an31 cd31 ct31), sl31⟩)
    (c31 : PySem.W.codeIn K cd31 "answer_way" = true)
    (k31 : PySem.W.keepIn K (.ref f31) = true)
    (a32 : PySem.W.nsIn K mainGlobals "answer_ring" = some (some (.ref f32)))
    (l32 : K.lookup f32 = some ⟨oc32, od32, .func (PySem.W.fnOf "answer_ring" "answer_ring" (defArgs sARing) (defBody sARing) (defScope sARing) .none kV32 dc32 pm32 an32 cd32 ct32), sl32⟩)
    (c32 : PySem.W.codeIn K cd32 "answer_ring" = true)
    (k32 : PySem.W.keepIn K (.ref f32) = true)
    (a33 : PySem.W.nsIn K mainGlobals "answer_pieces" = some (some (.ref f33)))
    (l33 : K.lookup f33 = some ⟨oc33, od33, .func (PySem.W.fnOf "answer_pieces" "answer_pieces" (defArgs sAPieces) (defBody sAPieces) (defScope sAPieces) .none kV33 dc33 pm33 an33 cd33 ct33), sl33⟩)
    (c33 : PySem.W.codeIn K cd33 "answer_pieces" = true)
    (k33 : PySem.W.keepIn K (.ref f33) = true)
    (a34 : PySem.W.nsIn K mainGlobals "answer_together" = some (some (.ref f34)))
    (l34 : K.lookup f34 = some ⟨oc34, od34, .func (PySem.W.fnOf "answer_together" "answer_together" (defArgs sATog) (defBody sATog) (defScope sATog) .none kV34 dc34 pm34 an34 cd34 ct34), sl34⟩)
    (c34 : PySem.W.codeIn K cd34 "answer_together" = true)
    (k34 : PySem.W.keepIn K (.ref f34) = true)
    (a35 : PySem.W.nsIn K mainGlobals "answer_holds" = some (some (.ref f35)))
    (l35 : K.lookup f35 = some ⟨oc35, od35, .func (PySem.W.fnOf "answer_holds" "answer_holds" (defArgs sAHolds) (defBody sAHolds) (defScope sAHolds) .none kV35 dc35 pm35 an35 cd35 ct35), sl35⟩)
    (c35 : PySem.W.codeIn K cd35 "answer_holds" = true)
    (k35 : PySem.W.keepIn K (.ref f35) = true)
    (a36 : PySem.W.nsIn K mainGlobals "answer_next" = some (some (.ref f36)))
    (l36 : K.lookup f36 = some ⟨oc36, od36, .func (PySem.W.fnOf "answer_next" "answer_next" (defArgs sANext) (defBody sANext) (defScope sANext) .none kV36 dc36 pm36 an36 cd36 ct36), sl36⟩)
    (c36 : PySem.W.codeIn K cd36 "answer_next" = true)
    (k36 : PySem.W.keepIn K (.ref f36) = true)
    (a37 : PySem.W.nsIn K mainGlobals "answer_worth" = some (some (.ref f37)))
    (l37 : K.lookup f37 = some ⟨oc37, od37, .func (PySem.W.fnOf "answer_worth" "answer_worth" (defArgs sAWorth) (defBody sAWorth) (defScope sAWorth) .none kV37 dc37 pm37 an37 cd37 ct37), sl37⟩)
    (c37 : PySem.W.codeIn K cd37 "answer_worth" = true)
    (k37 : PySem.W.keepIn K (.ref f37) = true)
    (a38 : PySem.W.nsIn K mainGlobals "answer_look" = some (some (.ref f38)))
    (l38 : K.lookup f38 = some ⟨oc38, od38, .func (PySem.W.fnOf "answer_look" "answer_look" (defArgs sALook) (defBody sALook) (defScope sALook) .none kV38 dc38 pm38 an38 cd38 ct38), sl38⟩)
    (c38 : PySem.W.codeIn K cd38 "answer_look" = true)
    (k38 : PySem.W.keepIn K (.ref f38) = true)
    (a39 : PySem.W.nsIn K mainGlobals "answer_told" = some (some (.ref f39)))
    (l39 : K.lookup f39 = some ⟨oc39, od39, .func (PySem.W.fnOf "answer_told" "answer_told" (defArgs sATold) (defBody sATold) (defScope sATold) .none kV39 dc39 pm39 an39 cd39 ct39), sl39⟩)
    (c39 : PySem.W.codeIn K cd39 "answer_told" = true)
    (k39 : PySem.W.keepIn K (.ref f39) = true)
    (a40 : PySem.W.nsIn K mainGlobals "answer_call" = some (some (.ref f40)))
    (l40 : K.lookup f40 = some ⟨oc40, od40, .func (PySem.W.fnOf "answer_call" "answer_call" (defArgs sACall) (defBody sACall) (defScope sACall) .none kV40 dc40 pm40 an40 cd40 ct40), sl40⟩)
    (c40 : PySem.W.codeIn K cd40 "answer_call" = true)
    (k40 : PySem.W.keepIn K (.ref f40) = true)
    (a41 : PySem.W.nsIn K mainGlobals "answers" = some (some (.ref f41)))
    (l41 : K.lookup f41 = some ⟨oc41, od41, .func (PySem.W.fnOf "answers" "answers" (defArgs sAnswers) (defBody sAnswers) (defScope sAnswers) .none kV41 dc41 pm41 an41 cd41 ct41), sl41⟩)
    (c41 : PySem.W.codeIn K cd41 "answers" = true)
    (k41 : PySem.W.keepIn K (.ref f41) = true)
    (tA : PySem.W.nsIn K mainGlobals "ANSWERERS" = some (some (.ref aT)))
    (tG : PySem.W.nsIn K mainGlobals "GIVEN_COUNTS" = some (some (.ref aG)))
    (lA : K.lookup aT = some ⟨.type "tuple", odT, .seq #[.ref f19, .ref f20, .ref f21, .ref f22, .ref f23, .ref f24, .ref f25, .ref f26, .ref f27, .ref f28, .ref f29, .ref f30, .ref f31, .ref f32, .ref f33, .ref f34, .ref f35, .ref f36, .ref f37, .ref f38, .ref f39] nT, slT⟩)
    (lG : K.lookup aG = some ⟨.type "tuple", odG, .seq #[.int 1 g0, .int 0 g1, .int 3 g2, .int 1 g3, .int 1 g4, .int 2 g5, .int 0 g6, .int 0 g7, .int 0 g8, .int 0 g9, .int 0 g10, .int 2 g11, .int 2 g12, .int 1 g13, .int 0 g14, .int 0 g15, .int 0 g16, .int 0 g17, .int 1 g18, .int 1 g19, .int 0 g20] nG, slG⟩) :
    ∃ fd : FuncData, (∀ (s : Shared) (us : List Value), us.length = (["calls"] : List Str).length → BindsTo s fd ⟨us, []⟩ ((["calls"] : List Str).zip us)) ∧ ∀ base : Heap, K.In base → base.Ns mainGlobals mg → PySem.W.CodeHd base c Pt → BMod mg base → FnOk P w K mg base CX0 11 fa fd ["calls"] (spAnswers K Pt) := by
  have e := hfa.symm.trans (PySem.W.mg_of X G a41)
  cases e
  have ecd : cd7 = .ref c := by
    obtain ⟨a, o, fd, q1, q2, q3, q4⟩ := hx
    rw [PySem.W.mg_of X G a7] at q1
    cases q1
    rw [X _ _ l7] at q2
    cases q2
    cases q3
    exact q4
  subst ecd
  have T : Txt K mg C S := ⟨⟨pgC, hdC, poC, saC⟩, ⟨pgS, hdS, poS, saS⟩, n_begun, n_part_count, n_seams, m_x, m_y, m_strain, m_welded, m_locked, PySem.W.mg_of X G aC, PySem.W.mg_of X G aS,
    ⟨_, PySem.W.mg_of X G i_MOST_PARTS, _, rfl⟩, ⟨_, PySem.W.mg_of X G i_MOST_SEAMS, _, rfl⟩, ⟨_, PySem.W.mg_of X G i_MOST_STRAIN, _, rfl⟩, ⟨_, PySem.W.mg_of X G i_NO_SUCH, _, rfl⟩, ⟨_, PySem.W.mg_of X G i_NOT_WELDED, _, rfl⟩, ⟨_, PySem.W.mg_of X G i_NOT_BEGUN, _, rfl⟩,
    ⟨_, PySem.W.mg_of X G i_WELDED_ALREADY, _, rfl⟩, ⟨_, PySem.W.mg_of X G i_OUT_OF_BOUNDS, _, rfl⟩, ⟨_, PySem.W.mg_of X G i_FULL, _, rfl⟩, ⟨_, PySem.W.mg_of X G i_ALL_WELDED, _, rfl⟩, ⟨_, PySem.W.mg_of X G i_NOT_TOGETHER, _, rfl⟩, PySem.W.mg_none_of X G b_len, PySem.W.mg_none_of X G b_sum, PySem.W.mg_none_of X G b_enumerate, PySem.W.mg_none_of X G b_range, PySem.W.mg_none_of X G b_list, PySem.W.mg_none_of X G b_sorted, PySem.W.mg_none_of X G b_set, PySem.W.mg_none_of X G b_min⟩
  have cB : GInt mg "BEGIN" 0 := ⟨_, PySem.W.mg_of X G i_BEGIN, _, rfl⟩
  have FI0 := fun_mk (st := sInitS) lI0 cI0 kI0
  have bI0 := FI0.binds (ps := ["self", "x", "y", "strain"]) fun _ _ _ _ _ _ us hl => match us, hl with | [_, _, _, _], _ => rfl
  have FI1 := fun_mk (st := sInitH) lI1 cI1 kI1
  have bI1 := FI1.binds (ps := ["self"]) fun _ _ _ _ _ _ us hl => match us, hl with | [_], _ => rfl
  have F0 := fun_mk (st := sIsPart) l0 c0 k0
  have b0 := F0.binds (ps := ["hull", "x"]) fun _ _ _ _ _ _ us hl => match us, hl with | [_, _], _ => rfl
  have F1 := fun_mk (st := sIsSeam) l1 c1 k1
  have b1 := F1.binds (ps := ["hull", "k"]) fun _ _ _ _ _ _ us hl => match us, hl with | [_, _], _ => rfl
  have F2 := fun_mk (st := sIsStrain) l2 c2 k2
  have b2 := F2.binds (ps := ["s"]) fun _ _ _ _ _ _ us hl => match us, hl with | [_], _ => rfl
  have F3 := fun_mk (st := sByWeld) l3 c3 k3
  have b3 := F3.binds (ps := ["hull", "welded"]) fun _ _ _ _ _ _ us hl => match us, hl with | [_, _], _ => rfl
  have F4 := fun_mk (st := sPieces) l4 c4 k4
  have b4 := F4.binds (ps := ["hull", "numbers"]) fun _ _ _ _ _ _ us hl => match us, hl with | [_, _], _ => rfl
  have F5 := fun_mk (st := sJoined) l5 c5 k5
  have b5 := F5.binds (ps := ["marks", "seam"]) fun _ _ _ _ _ _ us hl => match us, hl with | [_, _], _ => rfl
  have F6 := fun_mk (st := sLockedOf) l6 c6 k6
  have b6 := F6.binds (ps := ["hull", "numbers"]) fun _ _ _ _ _ _ us hl => match us, hl with | [_, _], _ => rfl
  have F7 := fun_mk (st := sOrder) l7 c7 k7
  have b7 := F7.binds (ps := ["hull"]) fun _ _ _ _ _ _ us hl => match us, hl with | [_], _ => rfl
  have F8 := fun_mk (st := sStrainOf) l8 c8 k8
  have b8 := F8.binds (ps := ["hull", "numbers"]) fun _ _ _ _ _ _ us hl => match us, hl with | [_, _], _ => rfl
  have F9 := fun_mk (st := sSoFar) l9 c9 k9
  have b9 := F9.binds (ps := ["hull"]) fun _ _ _ _ _ _ us hl => match us, hl with | [_], _ => rfl
  have F10 := fun_mk (st := sCounted) l10 c10 k10
  have b10 := F10.binds (ps := ["numbers"]) fun _ _ _ _ _ _ us hl => match us, hl with | [_], _ => rfl
  have F11 := fun_mk (st := sWould) l11 c11 k11
  have b11 := F11.binds (ps := ["hull", "k"]) fun _ _ _ _ _ _ us hl => match us, hl with | [_, _], _ => rfl
  have F12 := fun_mk (st := sCount) l12 c12 k12
  have b12 := F12.binds (ps := ["hull", "numbers"]) fun _ _ _ _ _ _ us hl => match us, hl with | [_, _], _ => rfl
  have F13 := fun_mk (st := sTog) l13 c13 k13
  have b13 := F13.binds (ps := ["hull", "numbers", "x", "y"]) fun _ _ _ _ _ _ us hl => match us, hl with | [_, _, _, _], _ => rfl
  have F14 := fun_mk (st := sAlone) l14 c14 k14
  have b14 := F14.binds (ps := ["hull", "k"]) fun _ _ _ _ _ _ us hl => match us, hl with | [_, _], _ => rfl
  have F15 := fun_mk (st := sAcross) l15 c15 k15
  have b15 := F15.binds (ps := ["seam", "part"]) fun _ _ _ _ _ _ us hl => match us, hl with | [_, _], _ => rfl
  have F16 := fun_mk (st := sFurther) l16 c16 k16
  have b16 := F16.binds (ps := ["hull", "ways", "newest"]) fun _ _ _ _ _ _ us hl => match us, hl with | [_, _, _], _ => rfl
  have F17 := fun_mk (st := sFrom) l17 c17 k17
  have b17 := F17.binds (ps := ["hull", "x"]) fun _ _ _ _ _ _ us hl => match us, hl with | [_, _], _ => rfl
  have F18 := fun_mk (st := sWayOr) l18 c18 k18
  have b18 := F18.binds (ps := ["hull", "x", "y"]) fun _ _ _ _ _ _ us hl => match us, hl with | [_, _, _], _ => rfl
  have F19 := fun_mk (st := sABegin) l19 c19 k19
  have b19 := F19.binds (ps := ["hull", "given"]) fun _ _ _ _ _ _ us hl => match us, hl with | [_, _], _ => rfl
  have F20 := fun_mk (st := sAPart) l20 c20 k20
  have b20 := F20.binds (ps := ["hull", "given"]) fun _ _ _ _ _ _ us hl => match us, hl with | [_, _], _ => rfl
  have F21 := fun_mk (st := sASeam) l21 c21 k21
  have b21 := F21.binds (ps := ["hull", "given"]) fun _ _ _ _ _ _ us hl => match us, hl with | [_, _], _ => rfl
  have F22 := fun_mk (st := sAWeld) l22 c22 k22
  have b22 := F22.binds (ps := ["hull", "given"]) fun _ _ _ _ _ _ us hl => match us, hl with | [_, _], _ => rfl
  have F23 := fun_mk (st := sACut) l23 c23 k23
  have b23 := F23.binds (ps := ["hull", "given"]) fun _ _ _ _ _ _ us hl => match us, hl with | [_, _], _ => rfl
  have F24 := fun_mk (st := sAStrain) l24 c24 k24
  have b24 := F24.binds (ps := ["hull", "given"]) fun _ _ _ _ _ _ us hl => match us, hl with | [_, _], _ => rfl
  have F25 := fun_mk (st := sAOrder) l25 c25 k25
  have b25 := F25.binds (ps := ["hull", "given"]) fun _ _ _ _ _ _ us hl => match us, hl with | [_, _], _ => rfl
  have F26 := fun_mk (st := sALeast) l26 c26 k26
  have b26 := F26.binds (ps := ["hull", "given"]) fun _ _ _ _ _ _ us hl => match us, hl with | [_, _], _ => rfl
  have F27 := fun_mk (st := sASofar) l27 c27 k27
  have b27 := F27.binds (ps := ["hull", "given"]) fun _ _ _ _ _ _ us hl => match us, hl with | [_, _], _ => rfl
  have F28 := fun_mk (st := sALocked) l28 c28 k28
  have b28 := F28.binds (ps := ["hull", "given"]) fun _ _ _ _ _ _ us hl => match us, hl with | [_, _], _ => rfl
  have F29 := fun_mk (st := sAMany) l29 c29 k29
  have b29 := F29.binds (ps := ["hull", "given"]) fun _ _ _ _ _ _ us hl => match us, hl with | [_, _], _ => rfl
  have F30 := fun_mk (st := sAHang) l30 c30 k30
  have b30 := F30.binds (ps := ["hull", "given"]) fun _ _ _ _ _ _ us hl => match us, hl with | [_, _], _ => rfl
  have F31 := fun_mk (st := sAWay) l31 c31 k31
  have b31 := F31.binds (ps := ["hull", "given"]) fun _ _ _ _ _ _ us hl => match us, hl with | [_, _], _ => rfl
  have F32 := fun_mk (st := sARing) l32 c32 k32
  have b32 := F32.binds (ps := ["hull", "given"]) fun _ _ _ _ _ _ us hl => match us, hl with | [_, _], _ => rfl
  have F33 := fun_mk (st := sAPieces) l33 c33 k33
  have b33 := F33.binds (ps := ["hull", "given"]) fun _ _ _ _ _ _ us hl => match us, hl with | [_, _], _ => rfl
  have F34 := fun_mk (st := sATog) l34 c34 k34
  have b34 := F34.binds (ps := ["hull", "given"]) fun _ _ _ _ _ _ us hl => match us, hl with | [_, _], _ => rfl
  have F35 := fun_mk (st := sAHolds) l35 c35 k35
  have b35 := F35.binds (ps := ["hull", "given"]) fun _ _ _ _ _ _ us hl => match us, hl with | [_, _], _ => rfl
  have F36 := fun_mk (st := sANext) l36 c36 k36
  have b36 := F36.binds (ps := ["hull", "given"]) fun _ _ _ _ _ _ us hl => match us, hl with | [_, _], _ => rfl
  have F37 := fun_mk (st := sAWorth) l37 c37 k37
  have b37 := F37.binds (ps := ["hull", "given"]) fun _ _ _ _ _ _ us hl => match us, hl with | [_, _], _ => rfl
  have F38 := fun_mk (st := sALook) l38 c38 k38
  have b38 := F38.binds (ps := ["hull", "given"]) fun _ _ _ _ _ _ us hl => match us, hl with | [_, _], _ => rfl
  have F39 := fun_mk (st := sATold) l39 c39 k39
  have b39 := F39.binds (ps := ["hull", "given"]) fun _ _ _ _ _ _ us hl => match us, hl with | [_, _], _ => rfl
  have F40 := fun_mk (st := sACall) l40 c40 k40
  have b40 := F40.binds (ps := ["hull", "number", "given"]) fun _ _ _ _ _ _ us hl => match us, hl with | [_, _, _], _ => rfl
  have F41 := fun_mk (st := sAnswers) l41 c41 k41
  have b41 := F41.binds (ps := ["calls"]) fun _ _ _ _ _ _ us hl => match us, hl with | [_], _ => rfl
  have FO : FunC K "order_told" "order_told" sOrder f7 _ c := ⟨_, _, _, _, _, _, _, _, rfl, l7, c7⟩
  refine ⟨PySem.W.fnOf "answers" "answers" (defArgs sAnswers) (defBody sAnswers) (defScope sAnswers) .none kV41 dc41 pm41 an41 cd41 ct41, fun s us hu => match us, hu with | [_], _ => .of_eq rfl, fun base kb nb CH BM => ?_⟩
  have GPt : Prom P w K mg base 1 "is_part" ["hull", "x"] _ := ⟨f0, _, ok_isPart F0 T, PySem.W.mg_of X G a0, k0, b0⟩
  have GSm : Prom P w K mg base 1 "is_seam" ["hull", "k"] _ := ⟨f1, _, ok_isSeam F1 T, PySem.W.mg_of X G a1, k1, b1⟩
  have GSt : Prom P w K mg base 1 "is_strain" ["s"] _ := ⟨f2, _, ok_isStrain F2 T, PySem.W.mg_of X G a2, k2, b2⟩
  have GB : Prom P w K mg base 1 "seams_by_weld" ["hull", "welded"] _ := ⟨f3, _, ok_byWeld F3 T, PySem.W.mg_of X G a3, k3, b3⟩
  have GJ : Prom P w K mg base 1 "joined" ["marks", "seam"] _ := ⟨f5, _, ok_joined F5 T, PySem.W.mg_of X G a5, k5, b5⟩
  have GP : Prom P w K mg base 2 "pieces_by" ["hull", "numbers"] _ := ⟨f4, _, ok_pieces F4 T GJ, PySem.W.mg_of X G a4, k4, b4⟩
  have GL : Prom P w K mg base 3 "locked_of" ["hull", "numbers"] _ := ⟨f6, _, ok_lockedOf F6 T GJ GB GP, PySem.W.mg_of X G a6, k6, b6⟩
  have GO : Prom P w K mg base 5 "order_told" ["hull"] _ := ⟨f7, _, ok_order FO T CH BM GB, PySem.W.mg_of X G a7, k7, b7⟩
  have GT : Prom P w K mg base 1 "strain_of" ["hull", "numbers"] _ := ⟨f8, _, ok_strainOf F8 T, PySem.W.mg_of X G a8, k8, b8⟩
  have GS : Prom P w K mg base 1 "strain_so_far" ["hull"] _ := ⟨f9, _, ok_soFar F9 T, PySem.W.mg_of X G a9, k9, b9⟩
  have GC : Prom P w K mg base 1 "counted" ["numbers"] _ := ⟨f10, _, ok_counted F10 T, PySem.W.mg_of X G a10, k10, b10⟩
  have GW : Prom P w K mg base 4 "would_be_locked" ["hull", "k"] _ := ⟨f11, _, ok_would F11 GL, PySem.W.mg_of X G a11, k11, b11⟩
  have GN : Prom P w K mg base 3 "count_pieces" ["hull", "numbers"] _ := ⟨f12, _, ok_count F12 T GP, PySem.W.mg_of X G a12, k12, b12⟩
  have GTg : Prom P w K mg base 3 "hang_together" ["hull", "numbers", "x", "y"] _ := ⟨f13, _, ok_tog F13 GP, PySem.W.mg_of X G a13, k13, b13⟩
  have GAl : Prom P w K mg base 4 "holds_alone" ["hull", "k"] _ := ⟨f14, _, ok_alone F14 T GB GTg, PySem.W.mg_of X G a14, k14, b14⟩
  have GX : Prom P w K mg base 1 "part_across" ["seam", "part"] _ := ⟨f15, _, ok_across F15 T, PySem.W.mg_of X G a15, k15, b15⟩
  have GF : Prom P w K mg base 2 "ways_one_further" ["hull", "ways", "newest"] _ := ⟨f16, _, ok_further F16 T GB GX, PySem.W.mg_of X G a16, k16, b16⟩
  have GFr : Prom P w K mg base 3 "ways_from" ["hull", "x"] _ := ⟨f17, _, ok_from F17 GF, PySem.W.mg_of X G a17, k17, b17⟩
  have GWO : Prom P w K mg base 4 "way_or_refusal" ["hull", "x", "y"] _ := ⟨f18, _, ok_wayOr F18 T GFr GC, PySem.W.mg_of X G a18, k18, b18⟩
  have GMS : PromMk P w K mg base 1 S ["self", "x", "y", "strain"] (spInitS S) := ⟨fI0, _, ⟨mkS, aI0, iI0, kcS⟩, ok_initS FI0 T, bI0⟩
  have GMC : PromMk P w K mg base 1 C ["self"] (spInitH C S) := ⟨fI1, _, ⟨mkC, aI1, iI1, kcC⟩, ok_initH FI1 T, bI1⟩
  have GA : Answerers P w K mg base C S Pt aT [f19, f20, f21, f22, f23, f24, f25, f26, f27, f28, f29, f30, f31, f32, f33, f34, f35, f36, f37, f38, f39] := by
    refine { mg_ := PySem.W.mg_of X G tA, tup := fun H => .inr ⟨_, _, _, lA, rfl, rfl, (by show 21 ≤ sizeLine; decide), tup_refs _⟩, a0 := ?_, a1 := ?_, a2 := ?_, a3 := ?_, a4 := ?_, a5 := ?_, a6 := ?_, a7 := ?_, a8 := ?_, a9 := ?_, a10 := ?_, a11 := ?_, a12 := ?_, a13 := ?_, a14 := ?_, a15 := ?_, a16 := ?_, a17 := ?_, a18 := ?_, a19 := ?_, a20 := ?_ }
    · exact ⟨f19, _, rfl, k19, (ok_aBegin F19 T).mono (by decide), b19⟩
    · exact ⟨f20, _, rfl, k20, (ok_aPart F20 T).mono (by decide), b20⟩
    · exact ⟨f21, _, rfl, k21, (ok_aSeam F21 T GPt GSt GMS).mono (by decide), b21⟩
    · exact ⟨f22, _, rfl, k22, (ok_aWeld F22 T GSm GW GS).mono (by decide), b22⟩
    · exact ⟨f23, _, rfl, k23, (ok_aCut F23 T GSm).mono (by decide), b23⟩
    · exact ⟨f24, _, rfl, k24, (ok_aStrain F24 T GSm GSt).mono (by decide), b24⟩
    · exact ⟨f25, _, rfl, k25, (ok_aOrder F25 GC GO).mono (by decide), b25⟩
    · exact ⟨f26, _, rfl, k26, (ok_aLeast F26 GO GL GT GS).mono (by decide), b26⟩
    · exact ⟨f27, _, rfl, k27, (ok_aSofar F27 GS).mono (by decide), b27⟩
    · exact ⟨f28, _, rfl, k28, (ok_aLocked F28 GC GO GL).mono (by decide), b28⟩
    · exact ⟨f29, _, rfl, k29, (ok_aMany F29 T GB GL).mono (by decide), b29⟩
    · exact ⟨f30, _, rfl, k30, (ok_aHang F30 T GPt GB GTg).mono (by decide), b30⟩
    · exact ⟨f31, _, rfl, k31, (ok_aWay F31 T GPt GWO).mono (by decide), b31⟩
    · exact ⟨f32, _, rfl, k32, (ok_aRing F32 T GSm GWO).mono (by decide), b32⟩
    · exact ⟨f33, _, rfl, k33, (ok_aPieces F33 GB GN).mono (by decide), b33⟩
    · exact ⟨f34, _, rfl, k34, (ok_aTog F34 T GN).mono (by decide), b34⟩
    · exact ⟨f35, _, rfl, k35, (ok_aHolds F35 GC GB GAl).mono (by decide), b35⟩
    · exact ⟨f36, _, rfl, k36, (ok_aNext F36 T GO GW).mono (by decide), b36⟩
    · exact ⟨f37, _, rfl, k37, (ok_aWorth F37 T GSm GO GL GT).mono (by decide), b37⟩
    · exact ⟨f38, _, rfl, k38, (ok_aLook F38 T GSm).mono (by decide), b38⟩
    · exact ⟨f39, _, rfl, k39, (ok_aTold F39 T GB).mono (by decide), b39⟩
  have GCall : Prom P w K mg base 10 "answer_call" ["hull", "number", "given"] _ := ⟨f40, _, ok_aCall F40 T cB GA, PySem.W.mg_of X G a40, k40, b40⟩
  have GG : GTup K mg := ⟨aG, PySem.W.mg_of X G tG, fun H => .inr ⟨_, _, _, lG, rfl, rfl, (by show 21 ≤ sizeLine; decide), .cons ⟨_, rfl⟩ (.cons ⟨_, rfl⟩ (.cons ⟨_, rfl⟩ (.cons ⟨_, rfl⟩ (.cons ⟨_, rfl⟩ (.cons ⟨_, rfl⟩ (.cons ⟨_, rfl⟩ (.cons ⟨_, rfl⟩ (.cons ⟨_, rfl⟩ (.cons ⟨_, rfl⟩ (.cons ⟨_, rfl⟩ (.cons ⟨_, rfl⟩ (.cons ⟨_, rfl⟩ (.cons ⟨_, rfl⟩ (.cons ⟨_, rfl⟩ (.cons ⟨_, rfl⟩ (.cons ⟨_, rfl⟩ (.cons ⟨_, rfl⟩ (.cons ⟨_, rfl⟩ (.cons ⟨_, rfl⟩ (.cons ⟨_, rfl⟩ (.nil)))))))))))))))))))))⟩⟩
  exact ok_answers F41 T GG GMC GCall
end Hl
end
def PySem.Challenge.cw_hullseams_s01_answers_holds.tw4868937356130431332 : Nat := 0
def PySem.Challenge.cw_hullseams_s01_answers_holds.tw18432447885607463954 : Nat := 0
open PySem PySem.W PyProof.Rows
set_option maxRecDepth 100000 in
set_option maxHeartbeats 0 in
theorem PySem.Challenge.cw_hullseams_s01_answers_holds : PySem.Challenge.rw_hullseams_s01_answers.Holds := by
  w_on; k_headS; (case hw => exact ⟨[.list [.int 0, .int 0]], by decide +kernel, by decide +kernel⟩)
  k_fillS
  refine' L2.walk_specT (r := PySem.Challenge.rw_hullseams_s01_answers) (k := 11) (CX := L2.CX0) (ps := ["calls"]) (sp := Hl.spAnswers) (x := "order_told") (by decide +kernel) rfl rfl ⟨rfl, by decide, by decide⟩ (fun w h Y => PySem.W.kIn_of Y) ?rec ?nt ?F ?S (fun _ _ _ _ z => z)
  case rec => exact rfl
  case nt => intro w; kernel_rfl
  case F =>
    intro w mg fa h c Pt Y KX G hmg hx
    refine' Hl.all_mk KX G hmg hx ?aC ?aS ?pgC ?hdC ?poC ?saC ?mkC ?kcC ?pgS ?hdS ?poS ?saS ?mkS ?kcS ?n_begun ?n_part_count ?n_seams ?m_x ?m_y ?m_strain ?m_welded ?m_locked ?i_MOST_PARTS ?i_MOST_SEAMS ?i_MOST_STRAIN ?i_NO_SUCH ?i_NOT_WELDED ?i_NOT_BEGUN ?i_WELDED_ALREADY ?i_OUT_OF_BOUNDS ?i_FULL ?i_ALL_WELDED ?i_NOT_TOGETHER ?i_BEGIN ?b_len ?b_sum ?b_enumerate ?b_range ?b_list ?b_sorted ?b_set ?b_min ?aI0 ?iI0 ?lI0 ?cI0 ?kI0 ?aI1 ?iI1 ?lI1 ?cI1 ?kI1 ?a0 ?l0 ?c0 ?k0 ?a1 ?l1 ?c1 ?k1 ?a2 ?l2 ?c2 ?k2 ?a3 ?l3 ?c3 ?k3 ?a4 ?l4 ?c4 ?k4 ?a5 ?l5 ?c5 ?k5 ?a6 ?l6 ?c6 ?k6 ?a7 ?l7 ?c7 ?k7 ?a8 ?l8 ?c8 ?k8 ?a9 ?l9 ?c9 ?k9 ?a10 ?l10 ?c10 ?k10 ?a11 ?l11 ?c11 ?k11 ?a12 ?l12 ?c12 ?k12 ?a13 ?l13 ?c13 ?k13 ?a14 ?l14 ?c14 ?k14 ?a15 ?l15 ?c15 ?k15 ?a16 ?l16 ?c16 ?k16 ?a17 ?l17 ?c17 ?k17 ?a18 ?l18 ?c18 ?k18 ?a19 ?l19 ?c19 ?k19 ?a20 ?l20 ?c20 ?k20 ?a21 ?l21 ?c21 ?k21 ?a22 ?l22 ?c22 ?k22 ?a23 ?l23 ?c23 ?k23 ?a24 ?l24 ?c24 ?k24 ?a25 ?l25 ?c25 ?k25 ?a26 ?l26 ?c26 ?k26 ?a27 ?l27 ?c27 ?k27 ?a28 ?l28 ?c28 ?k28 ?a29 ?l29 ?c29 ?k29 ?a30 ?l30 ?c30 ?k30 ?a31 ?l31 ?c31 ?k31 ?a32 ?l32 ?c32 ?k32 ?a33 ?l33 ?c33 ?k33 ?a34 ?l34 ?c34 ?k34 ?a35 ?l35 ?c35 ?k35 ?a36 ?l36 ?c36 ?k36 ?a37 ?l37 ?c37 ?k37 ?a38 ?l38 ?c38 ?k38 ?a39 ?l39 ?c39 ?k39 ?a40 ?l40 ?c40 ?k40 ?a41 ?l41 ?c41 ?k41 ?tA ?tG ?lA ?lG
    (case aC => k_is)
    (case aS => k_is)
    (case pgC => k_is)
    (case hdC => k_is)
    (case poC => k_is)
    (case saC => k_is)
    (case mkC => k_is)
    (case kcC => k_is)
    (case pgS => k_is)
    (case hdS => k_is)
    (case poS => k_is)
    (case saS => k_is)
    (case mkS => k_is)
    (case kcS => k_is)
    (case n_begun => k_is)
    (case n_part_count => k_is)
    (case n_seams => k_is)
    (case m_x => k_is)
    (case m_y => k_is)
    (case m_strain => k_is)
    (case m_welded => k_is)
    (case m_locked => k_is)
    (case i_MOST_PARTS => k_is)
    (case i_MOST_SEAMS => k_is)
    (case i_MOST_STRAIN => k_is)
    (case i_NO_SUCH => k_is)
    (case i_NOT_WELDED => k_is)
    (case i_NOT_BEGUN => k_is)
    (case i_WELDED_ALREADY => k_is)
    (case i_OUT_OF_BOUNDS => k_is)
    (case i_FULL => k_is)
    (case i_ALL_WELDED => k_is)
    (case i_NOT_TOGETHER => k_is)
    (case i_BEGIN => k_is)
    (case b_len => k_is)
    (case b_sum => k_is)
    (case b_enumerate => k_is)
    (case b_range => k_is)
    (case b_list => k_is)
    (case b_sorted => k_is)
    (case b_set => k_is)
    (case b_min => k_is)
    (case aI0 => k_is)
    (case iI0 => k_is)
    (case lI0 => k_is)
    (case cI0 => k_is)
    (case kI0 => k_is)
    (case aI1 => k_is)
    (case iI1 => k_is)
    (case lI1 => k_is)
    (case cI1 => k_is)
    (case kI1 => k_is)
    (case a0 => k_is)
    (case l0 => k_is)
    (case c0 => k_is)
    (case k0 => k_is)
    (case a1 => k_is)
    (case l1 => k_is)
    (case c1 => k_is)
    (case k1 => k_is)
    (case a2 => k_is)
    (case l2 => k_is)
    (case c2 => k_is)
    (case k2 => k_is)
    (case a3 => k_is)
    (case l3 => k_is)
    (case c3 => k_is)
    (case k3 => k_is)
    (case a4 => k_is)
    (case l4 => k_is)
    (case c4 => k_is)
    (case k4 => k_is)
    (case a5 => k_is)
    (case l5 => k_is)
    (case c5 => k_is)
    (case k5 => k_is)
    (case a6 => k_is)
    (case l6 => k_is)
    (case c6 => k_is)
    (case k6 => k_is)
    (case a7 => k_is)
    (case l7 => k_is)
    (case c7 => k_is)
    (case k7 => k_is)
    (case a8 => k_is)
    (case l8 => k_is)
    (case c8 => k_is)
    (case k8 => k_is)
    (case a9 => k_is)
    (case l9 => k_is)
    (case c9 => k_is)
    (case k9 => k_is)
    (case a10 => k_is)
    (case l10 => k_is)
    (case c10 => k_is)
    (case k10 => k_is)
    (case a11 => k_is)
    (case l11 => k_is)
    (case c11 => k_is)
    (case k11 => k_is)
    (case a12 => k_is)
    (case l12 => k_is)
    (case c12 => k_is)
    (case k12 => k_is)
    (case a13 => k_is)
    (case l13 => k_is)
    (case c13 => k_is)
    (case k13 => k_is)
    (case a14 => k_is)
    (case l14 => k_is)
    (case c14 => k_is)
    (case k14 => k_is)
    (case a15 => k_is)
    (case l15 => k_is)
    (case c15 => k_is)
    (case k15 => k_is)
    (case a16 => k_is)
    (case l16 => k_is)
    (case c16 => k_is)
    (case k16 => k_is)
    (case a17 => k_is)
    (case l17 => k_is)
    (case c17 => k_is)
    (case k17 => k_is)
    (case a18 => k_is)
    (case l18 => k_is)
    (case c18 => k_is)
    (case k18 => k_is)
    (case a19 => k_is)
    (case l19 => k_is)
    (case c19 => k_is)
    (case k19 => k_is)
    (case a20 => k_is)
    (case l20 => k_is)
    (case c20 => k_is)
    (case k20 => k_is)
    (case a21 => k_is)
    (case l21 => k_is)
    (case c21 => k_is)
    (case k21 => k_is)
    (case a22 => k_is)
    (case l22 => k_is)
    (case c22 => k_is)
    (case k22 => k_is)
    (case a23 => k_is)
    (case l23 => k_is)
    (case c23 => k_is)
    (case k23 => k_is)
    (case a24 => k_is)
    (case l24 => k_is)
    (case c24 => k_is)
    (case k24 => k_is)
    (case a25 => k_is)
    (case l25 => k_is)
    (case c25 => k_is)
    (case k25 => k_is)
    (case a26 => k_is)
    (case l26 => k_is)
    (case c26 => k_is)
    (case k26 => k_is)
    (case a27 => k_is)
    (case l27 => k_is)
    (case c27 => k_is)
    (case k27 => k_is)
    (case a28 => k_is)
    (case l28 => k_is)
    (case c28 => k_is)
    (case k28 => k_is)
    (case a29 => k_is)
    (case l29 => k_is)
    (case c29 => k_is)
    (case k29 => k_is)
    (case a30 => k_is)
    (case l30 => k_is)
    (case c30 => k_is)
    (case k30 => k_is)
    (case a31 => k_is)
    (case l31 => k_is)
    (case c31 => k_is)
    (case k31 => k_is)
    (case a32 => k_is)
    (case l32 => k_is)
    (case c32 => k_is)
    (case k32 => k_is)
    (case a33 => k_is)
    (case l33 => k_is)
    (case c33 => k_is)
    (case k33 => k_is)
    (case a34 => k_is)
    (case l34 => k_is)
    (case c34 => k_is)
    (case k34 => k_is)
    (case a35 => k_is)
    (case l35 => k_is)
    (case c35 => k_is)
    (case k35 => k_is)
    (case a36 => k_is)
    (case l36 => k_is)
    (case c36 => k_is)
    (case k36 => k_is)
    (case a37 => k_is)
    (case l37 => k_is)
    (case c37 => k_is)
    (case k37 => k_is)
    (case a38 => k_is)
    (case l38 => k_is)
    (case c38 => k_is)
    (case k38 => k_is)
    (case a39 => k_is)
    (case l39 => k_is)
    (case c39 => k_is)
    (case k39 => k_is)
    (case a40 => k_is)
    (case l40 => k_is)
    (case c40 => k_is)
    (case k40 => k_is)
    (case a41 => k_is)
    (case l41 => k_is)
    (case c41 => k_is)
    (case k41 => k_is)
    (case tA => k_is)
    (case tG => k_is)
    (case lA => k_is)
    (case lG => k_is)
  case S =>
    intro K Pt H xs a hO hP hwi hask hx
    cases hx with
    | cons h1 h2 =>
      cases h2
      cases h1 with
      | lst hs ha =>
        have e := L2.ints_dw a.1 _ ha
        subst e
        have q : ((Codec.inLen 0 400 a.1 && a.1.all (Codec.inInt 0 4294967295)) && true) = true := hwi
        rw [Bool.and_eq_true, Bool.and_eq_true] at q
        refine ⟨_, a.1, rfl, ?_, .inl hP, hask, fun z hz => ?_, (Codec.inNat_iff.mp q.1.1).2, fun p H' hp => .lst (L2.SqL.of hp) (L2.dw_ints _)⟩
        · rcases hs with (hs | ⟨o, hs⟩) | hs
          · exact absurd hs (hO _ _)
          · exact .inl ⟨o, hs⟩
          · exact .inr hs
        · have := List.all_eq_true.mp q.1.2 z hz
          exact (Codec.inInt_iff.mp this).1
#print axioms PySem.Challenge.cw_hullseams_s01_answers_holds
