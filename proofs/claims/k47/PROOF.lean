import PyProof.Rows.All
import Wide.All
import OpenK.AllK
import Wide.FinOn
import PyProof.EqAt
import PyProof.EqKinds
import PyProof.TupleCall
import KE.BitLaws
import KE.RegKTryMore
import PySem.Challenge.RW_twosetsums_k47_whole_runs_and_sums
-- CHANGE: your row's module here, as the last of these rows
set_option Elab.async false
set_option linter.all false
set_option maxRecDepth 100000

namespace L2
open PySem PySem.Spec PyProof.Rows


abbrev Key := Sum Int Str
def keyIs : Key → Value → Bool
  | .inl k, v => Value.isInt k v
  | .inr x, v => Value.isStrOf x v
def keyH (w : World) : Key → Int
  | .inl k => hashInt k
  | .inr x => hashStr w x
theorem keyIs_shape : ∀ {k : Key} {v : Value}, keyIs k v = true → (∃ i t, k = Sum.inl i ∧ v = Value.int i t) ∨ (∃ x t, k = Sum.inr x ∧ v = Value.str x t)
  | .inl i, v, h => by
    obtain ⟨t, e⟩ := Value.isInt_shape (k := i) (v := v) h
    exact .inl ⟨i, t, rfl, e⟩
  | .inr x, v, h => by
    obtain ⟨t, e⟩ := Value.isStrOf_shape (x := x) (v := v) h
    exact .inr ⟨x, t, rfl, e⟩
theorem key_ll (a b : Int) : decide ((Sum.inl a : Key) = Sum.inl b) = (a == b) := by
  by_cases e : a = b
  · subst e; simp
  · have h : ¬ (Sum.inl a : Key) = Sum.inl b := fun q => e (Sum.inl.inj q)
    rw [decide_eq_false h]
    exact (beq_eq_false_iff_ne.mpr e).symm
theorem key_rr (a b : Str) : decide ((Sum.inr a : Key) = Sum.inr b) = decide (a = b) := by
  by_cases e : a = b
  · subst e; simp
  · have h : ¬ (Sum.inr a : Key) = Sum.inr b := fun q => e (Sum.inr.inj q)
    rw [decide_eq_false h, decide_eq_false e]
theorem key_lr (a : Int) (b : Str) : decide ((Sum.inl a : Key) = Sum.inr b) = false := decide_eq_false (fun q => nomatch q)
theorem key_rl (a : Str) (b : Int) : decide ((Sum.inr a : Key) = Sum.inl b) = false := decide_eq_false (fun q => nomatch q)

def mixKind (prog : Program) (w : World) : PySem.KeyKind prog w Key where
  is := keyIs
  hash := keyH w
  inj := fun v a b ha hb => by
    rcases keyIs_shape ha with ⟨i, t, rfl, rfl⟩ | ⟨x, t, rfl, rfl⟩
    · rcases keyIs_shape hb with ⟨j, u, rfl, e⟩ | ⟨y, u, rfl, e⟩
      · injection e with e1 _; rw [e1]
      · exact nomatch e
    · rcases keyIs_shape hb with ⟨j, u, rfl, e⟩ | ⟨y, u, rfl, e⟩
      · exact nomatch e
      · injection e with e1 _; rw [e1]
  byValue := fun k v h => by
    rcases keyIs_shape h with ⟨i, t, rfl, rfl⟩ | ⟨x, t, rfl, rfl⟩ <;> rfl
  pyHash := fun hv h => by
    rcases keyIs_shape hv with ⟨i, t, rfl, rfl⟩ | ⟨x, t, rfl, rfl⟩
    · exact wpAny_pyHash_int h
    · exact wpAny_pyHash_str h
  eqBool := fun hu hv h => by
    rcases keyIs_shape hu with ⟨i, t, rfl, rfl⟩ | ⟨x, t, rfl, rfl⟩
    · rcases keyIs_shape hv with ⟨j, u, rfl, rfl⟩ | ⟨y, u, rfl, rfl⟩
      · rw [key_ll] at h; exact wpAny_eqBool_int h
      · rw [key_lr] at h; exact SeqAt.EqAt.int_str i t y u _ _ _ _ h
    · rcases keyIs_shape hv with ⟨j, u, rfl, rfl⟩ | ⟨y, u, rfl, rfl⟩
      · rw [key_rl] at h; exact SeqAt.EqAt.str_int x t j u _ _ _ _ h
      · rw [key_rr] at h; exact wpAny_eqBool_str h
  «strs» := fun k x t v h => by
    rcases keyIs_shape h with ⟨i, u, rfl, e⟩ | ⟨y, u, rfl, e⟩
    · exact nomatch e
    · injection e with e1 _
      subst e1
      cases v <;> rfl

end L2

namespace L2
open PySem PySem.Spec PyProof.Rows


inductive V where
  | non | bl (b : Bool) | int (i : Int) | str (x : Str) | byt (b : Array UInt8) | flt (b : UInt64) | ref (a : Addr) | ty (n : String)
  deriving DecidableEq

def RelV : V → Value → Prop
  | .non, u => u = Value.none
  | .bl b, u => u = Value.bool b
  | .int i, u => ∃ t, u = Value.int i t
  | .str x, u => ∃ t, u = Value.str x t
  | .byt b, u => ∃ t, u = Value.bytes b t
  | .flt b, u => ∃ t, u = Value.float b t
  | .ref a, u => u = Value.ref a
  | .ty n, u => u = Value.type n

abbrev Vals : List V → List Value → Prop := Paired RelV
theorem Vals.length {xs : List V} {us : List Value} (r : Vals xs us) : xs.length = us.length := Paired.length r
theorem Vals.get : ∀ {xs : List V} {us : List Value} {i : Nat} {x : V}, Vals xs us → xs[i]? = some x → ∃ u, us[i]? = some u ∧ RelV x u
  | _, _, _, _, .nil, e => by simp at e
  | _, _, 0, _, .cons r _, e => by simp at e; subst e; exact ⟨_, rfl, r⟩
  | _, _, i + 1, x, .cons _ t, e => by
    obtain ⟨u, h1, h2⟩ := Vals.get (i := i) (x := x) t (by simpa using e)
    exact ⟨u, by simpa using h1, h2⟩
theorem Vals.set {x : V} {u : Value} (r : RelV x u) : ∀ {xs : List V} {us : List Value} (i : Nat), Vals xs us → Vals (xs.set i x) (us.set i u)
  | _, _, _, .nil => .nil
  | _, _, 0, .cons _ t => .cons r t
  | _, _, i + 1, .cons q t => .cons q (Vals.set r i t)
theorem Vals.append : ∀ {xs ys : List V} {us ws : List Value}, Vals xs us → Vals ys ws → Vals (xs ++ ys) (us ++ ws)
  | _, _, _, _, .nil, s => s
  | _, _, _, _, .cons r t, s => .cons r (Vals.append t s)
theorem Vals.take : ∀ {xs : List V} {us : List Value} (n : Nat), Vals xs us → Vals (xs.take n) (us.take n)
  | _, _, 0, _ => .nil
  | _, _, _ + 1, .nil => .nil
  | _, _, n + 1, .cons r t => .cons r (Vals.take n t)
theorem Vals.drop : ∀ {xs : List V} {us : List Value} (n : Nat), Vals xs us → Vals (xs.drop n) (us.drop n)
  | _, _, 0, r => r
  | _, _, _ + 1, .nil => .nil
  | _, _, n + 1, .cons _ t => Vals.drop n t
def RelO : Option V → Option Value → Prop
  | some v, some u => RelV v u
  | none, none => True
  | _, _ => False
def KV {κ : Type} : List (κ × V) → List (κ × Value) → Prop := Paired fun (p : κ × V) (q : κ × Value) => p.1 = q.1 ∧ RelV p.2 q.2


def kV : Key → V
  | .inl i => .int i
  | .inr x => .str x


inductive HO where
  
  | lst (xs : List V)
  
  | tup (xs : List V)
  
  | dK (kvs : List (Key × V)) | dT (kvs : List (List Key × V))
  
  | set (S : Int → Bool) (n : Nat)
  
  | ins (C dx : Addr) (fs : List (Str × V))
  
  | own (x : Addr)
  
  | xd (fs : List (Str × V))
  
  | met (f x : Addr)
  
  | rng (lo hi : Int)
  
  | frz (o : Obj) (u : HO)
  
  | tbl (ps : Array Value)
  
  | ext (φ : Heap → Prop)

abbrev Hp := Addr → Option HO
def upd (H : Hp) (a : Addr) (o : HO) : Hp := fun b => if b = a then some o else H b
theorem upd_same {H : Hp} {a : Addr} {o : HO} : upd H a o a = some o := by unfold upd; rw [if_pos rfl]
theorem upd_ne {H : Hp} {a b : Addr} {o : HO} (h : b ≠ a) : upd H a o b = H b := by unfold upd; rw [if_neg h]
theorem ne_of_none {H : Hp} {a b : Addr} {o : HO} (h : H a = some o) (h' : H b = none) : a ≠ b := by
  intro e; subst e; rw [h] at h'; cases h'

theorem nd_at {h : Heap} {a : Addr} {ob : Obj} (e : h.get? a = some ob) (n : ob.dict = none) : ∀ o, h.get? a = some o → o.dict = none := fun o q => by rw [e] at q; cases q; exact n
theorem nd_new {h : Heap} {its : Array Value} {n : Nat} : ∀ o, (h.push { cls := .type "tuple", data := .seq its n }).get? h.objs.size = some o → o.dict = none := nd_at (Heap.get?_push_size h rfl) rfl
section
variable (P : Program) (w : World)
def ObjOk (H : Hp) (h : Heap) (a : Addr) : HO → Prop
  | .lst xs => xs.length ≤ sizeLine ∧ ∃ (its : List Value) (n : Nat), Vals xs its ∧ h.get? a = some { cls := .type "list", data := .seq its.toArray n }
  | .tup xs => xs.length ≤ sizeLine ∧ (∀ o, h.get? a = some o → o.dict = none) ∧ ∃ its : List Value, Vals xs its ∧ IsTup h a its.toArray
  | .dK kvs => kvs.length ≤ sizeLine ∧ (a == sysModules) = false ∧ ∃ vs, KV kvs vs ∧ h.DictOf (mixKind P w) a vs
  | .dT kvs => kvs.length ≤ sizeLine ∧ (a == sysModules) = false ∧ ∃ xs : List (List Key × Addr × Value),
      Paired (fun (p : List Key × V) (q : List Key × Addr × Value) => p.1 = q.1 ∧ H q.2.1 = some (.tup (p.1.map kV)) ∧ RelV p.2 q.2.2) kvs xs ∧
      ∃ o es ep, h.get? a = some o ∧ o.ExactDict ∧ o.data = .dict es ep ∧ es.toList = xs.map (entryOfKey (tupleKind (mixKind P w))) ∧ (xs.map (·.1)).Nodup
  | .set S n => h.SetOf (intKind P w) a S n
  | .ins C dx fs => H dx = some (.own a) ∧ fs.length ≤ 1000 ∧ dx ≠ a ∧ h.get? a = some (PySem.W.instObj C dx) ∧
      ∃ mA, h.Ns1 dx mA ∧ (∀ f, RelO (fs.lookup f) (mA f)) ∧ PySem.Within mA (fs.map (·.1))
  | .own _ => ∃ o, h.get? a = some o
  | .xd fs => ∃ mA, h.Ns1 a mA ∧ ∀ f, RelO (fs.lookup f) (mA f)
  | .rng lo hi => ∃ t u v, h.get? a = some { cls := .type "range", data := .fields #[.int lo t, .int hi u, .int 1 v] }
  | .frz o u => h.get? a = some o ∧ ObjOk H h a u
  | .tbl ps => h.get? a = some { cls := .none, data := .fields ps }
  | .met f x => h.get? a = some (PySem.W.methodObj (.ref f) (.ref x))
  | .ext φ => φ h ∧ (∃ o, h.get? a = some o) ∧ ∀ h1 h2 : Heap, φ h1 → (∀ o, h1.get? a = some o → h2.get? a = some o) → φ h2

def HOk (H : Hp) (h : Heap) : Prop := ∀ a o, H a = some o → ObjOk P w H h a o
end

section
variable {P : Program} {w : World} {H H' : Hp} {h h' : Heap} {a : Addr} {o : HO}
theorem ObjOk.lt (x : ObjOk P w H h a o) : a < h.objs.size := by
  cases o with
  | lst xs => obtain ⟨_, _, _, _, e⟩ := x; exact Heap.lt_size e
  | tup xs => obtain ⟨_, _, _, _, p⟩ := x; exact p.lt
  | dK kvs => obtain ⟨_, _, _, _, o, _, _, e, _⟩ := x; exact Heap.lt_size e
  | dT kvs => obtain ⟨_, _, _, _, o, _, _, e, _⟩ := x; exact Heap.lt_size e
  | set S n => obtain ⟨o, _, _, _, e, _⟩ := x; exact Heap.lt_size e
  | ins C dx fs => obtain ⟨_, _, _, e, _⟩ := x; exact Heap.lt_size e
  | own y => obtain ⟨_, e⟩ := x; exact Heap.lt_size e
  | xd fs => obtain ⟨_, ⟨_, _, _, e, _⟩, _⟩ := x; exact Heap.lt_size e
  | rng lo hi => obtain ⟨_, _, _, e⟩ := x; exact Heap.lt_size e
  | frz ob u => obtain ⟨e, _⟩ := x; exact Heap.lt_size e
  | tbl ps => exact Heap.lt_size (show h.get? a = some _ from x)
  | met f y => exact Heap.lt_size (show h.get? a = some _ from x)
  | ext φ => obtain ⟨_, ⟨_, e⟩, _⟩ := x; exact Heap.lt_size e
theorem Paired.mapP {α β : Type} {F G : α → β → Prop} : ∀ {l₁ : List α} {l₂ : List β}, Paired F l₁ l₂ → (∀ a b, F a b → G a b) → Paired G l₁ l₂
  | _, _, .nil, _ => .nil
  | _, _, .cons r t, f => .cons (f _ _ r) (Paired.mapP t f)
theorem ObjOk.stay (x : ObjOk P w H h a o) (k : ∀ b u, (b = a ∨ H b = some (.own a)) → h.get? b = some u → h'.get? b = some u)
    (ho : ∀ b, H b = some (.own a) → H' b = some (.own a)) (ht : ∀ b xs, H b = some (.tup xs) → H' b = some (.tup xs)) : ObjOk P w H' h' a o := by
  induction o with
  | lst xs => obtain ⟨z, its, n, r, e⟩ := x; exact ⟨z, its, n, r, k _ _ (.inl rfl) e⟩
  | tup xs => obtain ⟨z, nd, its, r, ob, e, c⟩ := x; exact ⟨z, nd_at (k _ _ (.inl rfl) e) (nd _ e), its, r, ob, k _ _ (.inl rfl) e, c⟩
  | dK kvs => obtain ⟨z, y, vs, r, ob, es, ep, e, c⟩ := x; exact ⟨z, y, vs, r, ob, es, ep, k _ _ (.inl rfl) e, c⟩
  | dT kvs =>
    obtain ⟨z, y, xs, r, ob, es, ep, e, c⟩ := x
    exact ⟨z, y, xs, Paired.mapP r fun p q z => ⟨z.1, ht _ _ z.2.1, z.2.2⟩, ob, es, ep, k _ _ (.inl rfl) e, c⟩
  | set S n => obtain ⟨ob, es, ep, t, e, c⟩ := x; exact ⟨ob, es, ep, t, k _ _ (.inl rfl) e, c⟩
  | ins C dx fs =>
    obtain ⟨d, z, ne, e, mA, ⟨od, es, ep, e2, c⟩, r⟩ := x
    exact ⟨ho _ d, z, ne, k _ _ (.inl rfl) e, mA, ⟨od, es, ep, k _ _ (.inr d) e2, c⟩, r⟩
  | own y => obtain ⟨ob, e⟩ := x; exact ⟨ob, k _ _ (.inl rfl) e⟩
  | xd fs => obtain ⟨mA, ⟨od, es, ep, e, c⟩, r⟩ := x; exact ⟨mA, ⟨od, es, ep, k _ _ (.inl rfl) e, c⟩, r⟩
  | rng lo hi => obtain ⟨t, u, v, e⟩ := x; exact ⟨t, u, v, k _ _ (.inl rfl) e⟩
  | frz ob u ih => obtain ⟨e, q⟩ := x; exact ⟨k _ _ (.inl rfl) e, ih q⟩
  | tbl ps =>
    have e : h.get? a = some { cls := .none, data := .fields ps } := x
    show h'.get? a = some { cls := .none, data := .fields ps }
    exact k a _ (.inl rfl) e
  | met f y =>
    have e : h.get? a = some (PySem.W.methodObj (.ref f) (.ref y)) := x
    show h'.get? a = some (PySem.W.methodObj (.ref f) (.ref y))
    exact k a _ (.inl rfl) e
  | ext φ => obtain ⟨p, ⟨o, e⟩, st⟩ := x; exact ⟨st _ _ p fun o q => k _ _ (.inl rfl) q, ⟨o, k _ _ (.inl rfl) e⟩, st⟩
theorem HOk.lt (x : HOk P w H h) (e : H a = some o) : a < h.objs.size := (x a o e).lt
theorem HOk.fresh (x : HOk P w H h) (e : h.objs.size ≤ a) : H a = none := by
  cases q : H a with
  | none => rfl
  | some u => exact absurd (Nat.lt_of_lt_of_le (x.lt q) e) (Nat.lt_irrefl _)

theorem HOk.kept (x : HOk P w H h) (k : ∀ b u, h.get? b = some u → h'.get? b = some u) : HOk P w H h' := fun a o e =>
  (x a o e).stay (fun b u _ q => k b u q) (fun _ q => q) fun _ _ q => q

theorem HOk.laid (x : HOk P w H h) (k : ∀ b u, h.get? b = some u → h'.get? b = some u) (hp : h.objs.size ≤ a) (new : ObjOk P w (upd H a o) h' a o) : HOk P w (upd H a o) h' := fun b u e => by
  have hn := x.fresh hp
  by_cases hb : b = a
  · subst hb; rw [upd_same] at e; cases e; exact new
  · rw [upd_ne hb] at e
    exact (x b u e).stay (fun c v _ q => k c v q) (fun c q => by rw [upd_ne (ne_of_none q hn)]; exact q) fun c xs q => by rw [upd_ne (ne_of_none q hn)]; exact q
end


def Rd (H : Hp) (a : Addr) (u : HO) : Prop := H a = some u ∨ ∃ o, H a = some (.frz o u)
theorem Rd.of {H : Hp} {a : Addr} {u : HO} (h : H a = some u) : Rd H a u := .inl h
theorem Rd.ok {P : Program} {w : World} {H : Hp} {h : Heap} {a : Addr} {u : HO} (r : Rd H a u) (x : HOk P w H h) : ObjOk P w H h a u := by
  rcases r with r | ⟨o, r⟩
  · exact x a u r
  · obtain ⟨_, q⟩ := x a _ r
    exact q

def Mut : Option HO → Prop
  | some (.lst _) => True
  | some (.dK _) => True
  | some (.dT _) => True
  | some (.set _ _) => True
  | some (.ins _ _ _) => True
  | some (.ext _) => True
  | _ => False
section
variable {P : Program} {w : World} {H : Hp} {h h' : Heap} {x e : Addr} {o' : HO}

theorem HOk.write (ok : HOk P w H h) (mu : Mut (H x)) (he : e = x ∨ H e = some (.own x)) (k : ∀ b u, b ≠ e → h.get? b = some u → h'.get? b = some u) (heo : ∃ u, h'.get? e = some u)
    (new : ObjOk P w (upd H x o') h' x o') : HOk P w (upd H x o') h' := fun b u q => by
  have nown : ∀ c y, H c = some (.own y) → c ≠ x := fun c y r z => by subst z; rw [r] at mu; exact mu
  have ntup : ∀ c xs, H c = some (.tup xs) → c ≠ x := fun c xs r z => by subst z; rw [r] at mu; exact mu
  by_cases hb : b = x
  · subst hb; rw [upd_same] at q; cases q; exact new
  · rw [upd_ne hb] at q
    by_cases hbe : b = e
    · have q' : H b = some (.own x) := by
        rcases he with z | z
        · exact absurd (hbe.trans z) hb
        · rw [hbe]; exact z
      rw [q] at q'; cases q'
      obtain ⟨v, hv⟩ := heo
      exact ⟨v, by rw [hbe]; exact hv⟩
    · refine (ok b u q).stay (fun c v hc r => k c v ?_ r) (fun c r => by rw [upd_ne (nown c b r)]; exact r) fun c xs r => by rw [upd_ne (ntup c xs r)]; exact r
      rcases hc with rfl | hc
      · exact hbe
      · rintro rfl
        rcases he with z | z
        · exact nown c b hc z
        · rw [hc] at z; cases z; exact hb rfl
end


structure Un (fs ex : List Addr) (H H' : Hp) (h h' : Heap) : Prop where
  keep : ∀ b o, h.get? b = some o → H b = none → b ∉ fs → b ∉ ex → h'.get? b = some o
  slot : ∀ b o, h.get? b = some o → H b = none → b ∈ fs → b ∉ ex → ∃ sl, h'.get? b = some { o with slots := sl }
  free : ∀ b o, h.get? b = some o → H b = none → b ∉ ex → H' b = none
  there : ∀ b o, h.get? b = some o → b ∉ ex → ∃ o', h'.get? b = some o'
  tups : ∀ b xs, H b = some (.tup xs) → H' b = some (.tup xs)
  frzs : ∀ b o u, H b = some (.frz o u) → H' b = some (.frz o u)
  tbls : ∀ b ps, H b = some (.tbl ps) → ∃ more, H' b = some (.tbl (ps ++ more))
section
variable {fs fs' ex ex' : List Addr} {H H1 H2 : Hp} {h h1 h2 h' : Heap} {a x e : Addr} {o : HO}
theorem Un.any (u : Un fs ex H H1 h h1) {b : Addr} {ob : Obj} (q : h.get? b = some ob) (n : H b = none) (hx : b ∉ ex) : ∃ sl, h1.get? b = some { ob with slots := sl } := by
  by_cases hb : b ∈ fs
  · exact u.slot b ob q n hb hx
  · exact ⟨ob.slots, u.keep b ob q n hb hx⟩
theorem Un.trans (a : Un fs ex H H1 h h1) (b : Un fs ex H1 H2 h1 h2) : Un fs ex H H2 h h2 where
  keep := fun c ob q n hc hx => b.keep c ob (a.keep c ob q n hc hx) (a.free c ob q n hx) hc hx
  slot := fun c ob q n hc hx => by
    obtain ⟨sl, e1⟩ := a.slot c ob q n hc hx
    obtain ⟨sl', e2⟩ := b.slot c _ e1 (a.free c ob q n hx) hc hx
    exact ⟨sl', e2⟩
  free := fun c ob q n hx => by
    obtain ⟨o', e1⟩ := a.there c ob q hx
    exact b.free c o' e1 (a.free c ob q n hx) hx
  there := fun c ob q hx => by
    obtain ⟨o', e1⟩ := a.there c ob q hx
    exact b.there c o' e1 hx
  tups := fun c xs q => b.tups c xs (a.tups c xs q)
  frzs := fun c ob xs q => b.frzs c ob xs (a.frzs c ob xs q)
  tbls := fun c ps q => by
    obtain ⟨m1, e1⟩ := a.tbls c ps q
    obtain ⟨m2, e2⟩ := b.tbls c _ e1
    exact ⟨m1 ++ m2, by rw [e2, Array.append_assoc]⟩
theorem Un.kept (k : ∀ b u, h.get? b = some u → h'.get? b = some u) : Un fs ex H H h h' :=
  ⟨fun b ob q _ _ _ => k b ob q, fun b ob q _ _ _ => ⟨ob.slots, k b ob q⟩, fun _ _ _ n _ => n, fun b ob q _ => ⟨ob, k b ob q⟩, fun _ _ q => q, fun _ _ _ q => q, fun _ ps q => ⟨#[], by rw [q]; simp⟩⟩
theorem Un.refl : Un fs ex H H h h := Un.kept fun _ _ q => q
theorem Un.laid (k : ∀ b u, h.get? b = some u → h'.get? b = some u) (hp : h.objs.size ≤ a) (hn : H a = none) : Un fs ex H (upd H a o) h h' where
  keep := fun b u q _ _ _ => k b u q
  slot := fun b u q _ _ _ => ⟨u.slots, k b u q⟩
  free := fun b u q n _ => by rw [upd_ne (Nat.ne_of_lt (Nat.lt_of_lt_of_le (Heap.lt_size q) hp))]; exact n
  there := fun b u q _ => ⟨u, k b u q⟩
  tups := fun b xs q => by rw [upd_ne (ne_of_none q hn)]; exact q
  frzs := fun b u xs q => by rw [upd_ne (ne_of_none q hn)]; exact q
  tbls := fun b ps q => ⟨#[], by rw [upd_ne (ne_of_none q hn), q]; simp⟩
theorem Un.write (mu : Mut (H x)) (he : e = x ∨ H e = some (.own x)) (k : ∀ b u, b ≠ e → h.get? b = some u → h'.get? b = some u) (heo : ∃ u, h'.get? e = some u) : Un fs ex H (upd H x o) h h' := by
  have hx : ∀ b, H b = none → b ≠ x := fun b n z => by subst z; rw [n] at mu; exact mu
  have hb : ∀ b, H b = none → b ≠ e := fun b n z => by
    subst z
    rcases he with r | r
    · exact hx b n r
    · rw [n] at r; cases r
  have hm : ∀ b u, H b = some u → ¬ Mut (some u) → b ≠ x := fun b u q nm z => by subst z; rw [q] at mu; exact nm mu
  refine ⟨fun b u q n _ _ => k b u (hb b n) q, fun b u q n _ _ => ⟨u.slots, k b u (hb b n) q⟩, fun b u q n _ => by rw [upd_ne (hx b n)]; exact n, fun b u q _ => ?_,
    fun b xs q => by rw [upd_ne (hm b _ q fun z => z)]; exact q, fun b u xs q => by rw [upd_ne (hm b _ q fun z => z)]; exact q, fun b ps q => ⟨#[], by rw [upd_ne (hm b _ q fun z => z), q]; simp⟩⟩
  by_cases hbe : b = e
  · subst hbe; exact heo
  · exact ⟨u, k b u hbe q⟩
theorem Un.mono (u : Un fs ex H H1 h h1) (hs : ∀ b ∈ fs, b ∈ fs') (hx : ∀ b ∈ ex, b ∈ ex') : Un fs' ex' H H1 h h1 :=
  ⟨fun b ob q n hb he => u.keep b ob q n (fun z => hb (hs b z)) fun z => he (hx b z), fun _ _ q n _ he => u.any q n fun z => he (hx _ z), fun b ob q n he => u.free b ob q n fun z => he (hx b z), fun b ob q he => u.there b ob q fun z => he (hx b z), u.tups, u.frzs, u.tbls⟩
end


def trk (h : Heap) (H : Hp) : List Addr := (List.range h.objs.size).filter fun a => (H a).isSome
def hidT (h : Heap) (H : Hp) : Heap := PySem.W.hideAll h (trk h H)
theorem hidT_size (h : Heap) (H : Hp) : (hidT h H).objs.size = h.objs.size := PySem.W.hideAll_size _ _
theorem hidT_get {h : Heap} {H : Hp} {b : Addr} {o : Obj} (e : h.get? b = some o) (n : H b = none) : (hidT h H).get? b = some o :=
  PySem.W.hideAll_get _ e fun hm => by
    have q : (H b).isSome = true := (List.mem_filter.mp hm).2
    rw [n] at q; simp at q
theorem of_hidT {h : Heap} {H : Hp} {b : Addr} {o : Obj} (e : (hidT h H).get? b = some o) : h.get? b = some o ∧ H b = none := by
  have e' : h.get? b = some o := PySem.W.of_hideAll (trk h H) e
  refine ⟨e', ?_⟩
  cases q : H b with
  | none => rfl
  | some x =>
    have hm : b ∈ trk h H := List.mem_filter.mpr ⟨List.mem_range.mpr (Heap.lt_size e'), by simp [q]⟩
    have z : (hidT h H).get? b = none := PySem.W.hideAll_none (trk h H) hm
    rw [z] at e; cases e


def allNews (g h : Heap) (L : Addr) : List (Addr × Obj) := (List.range h.objs.size).filterMap fun a => if a = L ∨ (g.get? a).isSome = true then none else (h.get? a).map fun o => (a, o)
def rest (g h : Heap) (L d : Addr) : List (Addr × Obj) := (allNews g h L).filter fun p => decide (p.1 ≠ d)
end L2

namespace L2
open PySem PySem.Spec PyProof.Rows


structure Mod (K : PySem.W.Frag) (mg : Str → Option Value) (base : Heap) : Prop where
  kin : K.In base
  glob : base.Ns mainGlobals mg
  blt : ∃ mb, base.Ns builtinsNs mb ∧ ∀ x : Str, x ≠ "__name__" → mb x = bootBuiltins x
  nolimit : base.NoLimit


structure Cx where
  prog : Program
  w : World
  K : PySem.W.Frag
  mg : Str → Option Value
  base : Heap
  A : Around
  N : List Str
  s_0 : Shared
  H_0 : Hp
  env : Env
  outer : List Env
  stack : List Env
  ex : List Addr
  fn : Str → Bool
  calm : Bool
  pn : List (Addr × Obj)
  xe : Value → Shared → Prop

def frs (l : List Env) : List Addr := l.filterMap (·.frame)
abbrev Cx.fs (X : Cx) : List Addr := frs X.outer

def Vis (sc : Scope) (x : Str) : Prop := sc.names.lookup x = some .local ∨ sc.names.lookup x = some .cell ∨ sc.names.lookup x = some .free
def Loc (sc : Scope) (x : Str) : Prop := sc.names.lookup x = some .local ∨ sc.names.lookup x = some .cell
def Look (env : Env) (h : Heap) (m : Str → Option Value) (x : Str) (u : Value) : Prop :=
  (env.kindOf x = some .local ∧ m x = some u) ∨ ((env.kindOf x = some .cell ∨ env.kindOf x = some .free) ∧ ∃ c, env.cells.lookup x = some c ∧ h.IsCell c (some u))

structure Cx.Ok (X : Cx) : Prop where
  mod : Mod X.K X.mg X.base
  kind : X.env.scope.kind = .function
  glob : X.env.globals = mainGlobals
  blt : X.env.builtins = builtinsNs
  above : X.s_0.heap.objs.size ≤ X.env.locals
  inj : ∀ x y c, X.env.cells.lookup x = some c → X.env.cells.lookup y = some c → x = y
  has : ∀ x, (X.env.kindOf x = some .cell ∨ X.env.kindOf x = some .free) → ∃ c, X.env.cells.lookup x = some c
  cab : ∀ x c, X.fn x = true → X.env.cells.lookup x = some c → X.s_0.heap.objs.size ≤ c
  hd : X.calm = true → X.A.handled = none
  frames : X.A.frames = some X.stack
  stk : X.stack = X.outer ∨ (X.stack = X.env :: X.outer ∧ X.env.frame = some X.env.locals)
  exf : ∀ b ∈ X.ex, b ≠ X.env.locals ∧ ∀ x c, X.env.cells.lookup x = some c → c ≠ b
  bs : ∀ b o, X.base.get? b = some o → X.s_0.heap.get? b = some o ∧ X.H_0 b = none
  bsz : X.base.objs.size ≤ X.s_0.heap.objs.size
  noex : ∀ b o, X.base.get? b = some o → b ∉ X.ex
  exfs : ∀ b ∈ X.ex, b ∉ X.fs
  funs : X.s_0.heap.FunFrames X.base X.outer
  frf : ∀ b ∈ X.fs, X.H_0 b = none

structure Inv (X : Cx) (pins : List (Addr × Obj)) (σ : List (Option V)) (H : Hp) (s : Shared) : Prop where
  ok : X.Ok
  os : s.os = X.s_0.os
  bare : AllBare s.gens
  base : Un X.fs X.ex X.H_0 H X.s_0.heap s.heap
  loc : ∃ m, s.heap.Ns X.env.locals m ∧ ∀ (i : Nat) (x : Str) (v : V), X.N[i]? = some x → σ[i]? = some (some v) → Vis X.env.scope x → ∃ u, RelV v u ∧ Look X.env s.heap m x u
  cell : ∀ x c, X.env.cells.lookup x = some c → ∃ v, s.heap.IsCell c v
  free : H X.env.locals = none
  freeC : ∀ x c, X.env.cells.lookup x = some c → H c = none
  pin : ∀ p ∈ X.pn ++ pins, s.heap.get? p.1 = some p.2 ∧ H p.1 = none ∧ p.1 ≠ X.env.locals ∧ p.1 ∉ X.fs ∧ ∀ v, p.2.data ≠ .cell v
  hok : HOk X.prog X.w H s.heap
  len : σ.length = X.N.length

section
variable {X : Cx} {pins : List (Addr × Obj)} {σ : List (Option V)} {H H' : Hp} {s : Shared} {h' : Heap}

theorem Cx.Ok.nofr (ok : X.Ok) {b : Addr} {o : Obj} (e : X.base.get? b = some o) : b ∉ X.fs := fun hb => by
  have := (ok.funs.mem hb).1
  rw [e] at this; cases this
theorem Inv.bs (I : Inv X pins σ H s) : ∀ b o, X.base.get? b = some o → s.heap.get? b = some o ∧ H b = none := fun b o e =>
  ⟨I.base.keep b o (I.ok.bs b o e).1 (I.ok.bs b o e).2 (I.ok.nofr e) (I.ok.noex b o e), I.base.free b o (I.ok.bs b o e).1 (I.ok.bs b o e).2 (I.ok.noex b o e)⟩
theorem Inv.bk (I : Inv X pins σ H s) : ∀ b o, X.base.get? b = some o → s.heap.get? b = some o := fun b o e => (I.bs b o e).1
theorem Inv.mod (I : Inv X pins σ H s) : Mod X.K X.mg X.base := I.ok.mod
theorem Inv.kIn (I : Inv X pins σ H s) : X.K.In s.heap := I.ok.mod.kin.keeps I.bk
theorem Inv.nolimit (I : Inv X pins σ H s) : s.heap.NoLimit := I.ok.mod.nolimit.keeps I.bk

theorem Inv.lt (I : Inv X pins σ H s) : X.env.locals < s.heap.objs.size := let ⟨_, hn, _⟩ := I.loc; hn.lt
theorem Inv.sz (I : Inv X pins σ H s) : X.s_0.heap.objs.size ≤ s.heap.objs.size := Nat.le_trans I.ok.above (Nat.le_of_lt I.lt)
theorem Inv.nofs (I : Inv X pins σ H s) {a : Addr} (h : s.heap.objs.size ≤ a) : a ∉ X.fs := fun hb => by
  obtain ⟨_, o, ho, _⟩ := I.ok.funs.mem hb
  exact absurd (Nat.lt_of_lt_of_le (Heap.lt_size ho) (Nat.le_trans I.sz h)) (Nat.lt_irrefl _)
theorem Inv.cne (I : Inv X pins σ H s) : ∀ x c, X.env.cells.lookup x = some c → c ≠ X.env.locals := fun x c e z => by
  obtain ⟨v, o, ho, hd⟩ := I.cell x c e
  obtain ⟨m, ⟨o', es, ep, ho', hd', _⟩, _⟩ := I.loc
  rw [z, ho'] at ho; cases ho; rw [hd'] at hd; cases hd
theorem Inv.funs (I : Inv X pins σ H s) : s.heap.FunFrames X.base X.outer := by
  have all : ∀ (l : List Env), (∀ b ∈ frs l, b ∈ X.fs) → X.s_0.heap.FunFrames X.base l → s.heap.FunFrames X.base l := by
    intro l
    induction l with
    | nil => intro _ _; trivial
    | cons env r ih =>
      intro hs hl
      obtain ⟨hk, ⟨L, o, hf, hn, ho, hd⟩, hr⟩ := hl
      have hL : L ∈ X.fs := hs L (by unfold frs; rw [List.filterMap_cons, hf]; exact List.mem_cons_self)
      obtain ⟨sl, e⟩ := I.base.slot L o ho (I.ok.frf L hL) hL fun z => I.ok.exfs L z hL
      exact ⟨hk, ⟨L, _, hf, hn, e, hd⟩, ih (fun b hb => hs b (by unfold frs; rw [List.filterMap_cons, hf]; exact List.mem_cons_of_mem _ hb)) hr⟩
  exact all X.outer (fun _ hb => hb) I.ok.funs


theorem Inv.stack (I : Inv X pins σ H s) : s.heap.FunFrames X.base X.stack := by
  rcases I.ok.stk with e | ⟨e, hf⟩
  · rw [e]; exact I.funs
  · rw [e]
    obtain ⟨m, hn, _⟩ := I.loc
    refine .cons (by rw [I.ok.kind]; decide) hf hn ?_ I.funs
    exact Heap.get?_none_of_le (Nat.le_trans I.ok.bsz I.ok.above)
theorem Inv.stkSub (I : Inv X pins σ H s) : ∀ b ∈ frs X.stack, b ∈ X.env.locals :: X.fs := fun b hb => by
  rcases I.ok.stk with e | ⟨e, hf⟩
  · rw [e] at hb; exact List.mem_cons_of_mem _ hb
  · rw [e] at hb
    unfold frs at hb
    rw [List.filterMap_cons, hf] at hb
    exact hb
theorem Inv.stkFree (I : Inv X pins σ H s) : ∀ b ∈ frs X.stack, H b = none := fun b hb => by
  rcases List.mem_cons.mp (I.stkSub b hb) with e | hb
  · rw [e]; exact I.free
  · obtain ⟨_, o, ho, _⟩ := I.ok.funs.mem hb
    exact I.base.free b o ho (I.ok.frf b hb) fun z => I.ok.exfs b z hb


theorem Inv.step {g' : Array GenState} {t' : Nat} {d' : Drawn} {ch : List Addr} (I : Inv X pins σ H s)
    (hch : ∀ b ∈ ch, (b ∈ X.ex ∨ X.s_0.heap.objs.size ≤ b) ∧ b ≠ X.env.locals ∧ (∀ x c, X.env.cells.lookup x = some c → c ≠ b) ∧ ∀ p ∈ X.pn ++ pins, p.1 ≠ b)
    (keep : ∀ b o, b ≠ X.env.locals → b ∉ X.fs → b ∉ ch → s.heap.get? b = some o → H b = none → h'.get? b = some o)
    (slot : ∀ b o, b ≠ X.env.locals → b ∈ X.fs → b ∉ ch → s.heap.get? b = some o → H b = none → ∃ sl, h'.get? b = some { o with slots := sl }) (free : ∀ b o, b ∉ ch → s.heap.get? b = some o → H b = none → H' b = none)
    (there : ∀ b o, b ∉ ch → s.heap.get? b = some o → ∃ o', h'.get? b = some o')
    (tups : ∀ b xs, H b = some (.tup xs) → H' b = some (.tup xs)) (frzs : ∀ b o u, H b = some (.frz o u) → H' b = some (.frz o u)) (tbls : ∀ b ps, H b = some (.tbl ps) → ∃ more, H' b = some (.tbl (ps ++ more)))
    (ns : ∀ m, s.heap.Ns X.env.locals m → h'.Ns X.env.locals m) (hok : HOk X.prog X.w H' h') (hg : AllBare g') :
    Inv X pins σ H' { s with heap := h', gens := g', drawn := d', toks := t' } := by
  have neL : ∀ b o, X.s_0.heap.get? b = some o → b ≠ X.env.locals := fun b o e => Nat.ne_of_lt (Nat.lt_of_lt_of_le (Heap.lt_size e) I.ok.above)
  have neC : ∀ b o, X.s_0.heap.get? b = some o → b ∉ X.ex → b ∉ ch := fun b o e hx hb => by
    rcases (hch b hb).1 with z | z
    · exact hx z
    · exact absurd (Nat.lt_of_lt_of_le (Heap.lt_size e) z) (Nat.lt_irrefl _)
  have cellK : ∀ x c, X.env.cells.lookup x = some c → ∀ v, s.heap.IsCell c v → h'.IsCell c v := fun x c e v ⟨o, ho, hd⟩ => by
    have nch : c ∉ ch := fun z => (hch c z).2.2.1 x c e rfl
    by_cases hc : c ∈ X.fs
    · obtain ⟨sl, q⟩ := slot c o (I.cne x c e) hc nch ho (I.freeC x c e)
      exact ⟨_, q, hd⟩
    · exact ⟨o, keep c o (I.cne x c e) hc nch ho (I.freeC x c e), hd⟩
  refine ⟨I.ok, I.os, hg, ⟨fun b o e n hb hx => ?_, fun b o e n hb hx => ?_, fun b o e n hx => ?_, fun b o e hx => ?_, fun b xs e => tups b xs (I.base.tups b xs e), fun b o xs e => frzs b o xs (I.base.frzs b o xs e), fun b ps e => ?_⟩, ?_, fun x c e => ?_, ?_, fun x c e => ?_, fun p hp => ?_, hok, I.len⟩
  · exact keep b o (neL b o e) hb (neC b o e hx) (I.base.keep b o e n hb hx) (I.base.free b o e n hx)
  · obtain ⟨sl, e1⟩ := I.base.slot b o e n hb hx
    obtain ⟨sl', e2⟩ := slot b _ (neL b o e) hb (neC b o e hx) e1 (I.base.free b o e n hx)
    exact ⟨sl', e2⟩
  · obtain ⟨o', e1⟩ := I.base.there b o e hx
    exact free b o' (neC b o e hx) e1 (I.base.free b o e n hx)
  · obtain ⟨o', e1⟩ := I.base.there b o e hx
    exact there b o' (neC b o e hx) e1
  · obtain ⟨m1, e1⟩ := I.base.tbls b ps e
    obtain ⟨m2, e2⟩ := tbls b _ e1
    exact ⟨m1 ++ m2, by rw [e2, Array.append_assoc]⟩
  · obtain ⟨m, hn, hl⟩ := I.loc
    refine ⟨m, ns m hn, fun i x v e1 e2 e3 => ?_⟩
    obtain ⟨u, r, l⟩ := hl i x v e1 e2 e3
    refine ⟨u, r, ?_⟩
    rcases l with l | ⟨k, c, e, z⟩
    · exact .inl l
    · exact .inr ⟨k, c, e, cellK x c e _ z⟩
  · obtain ⟨v, z⟩ := I.cell x c e
    exact ⟨v, cellK x c e v z⟩
  · obtain ⟨m, ⟨o, _, _, ho, _⟩, _⟩ := I.loc
    exact free _ o (fun z => (hch _ z).2.1 rfl) ho I.free
  · obtain ⟨v, o, ho, hd⟩ := I.cell x c e
    exact free c o (fun z => (hch c z).2.2.1 x c e rfl) ho (I.freeC x c e)
  · obtain ⟨e, n, ne, nf, d⟩ := I.pin p hp
    have nch : p.1 ∉ ch := fun z => (hch p.1 z).2.2.2 p hp rfl
    exact ⟨keep p.1 p.2 ne nf nch e n, free p.1 p.2 nch e n, ne, nf, d⟩

theorem Inv.un {t' : Nat} (I : Inv X pins σ H s) (u : Un X.fs [] H H' s.heap h') (hok : HOk X.prog X.w H' h') : Inv X pins σ H' { s with heap := h', toks := t' } := by
  obtain ⟨m, ⟨o, es, ep, ho, r⟩, _⟩ := id I.loc
  obtain ⟨sl, hL⟩ := u.any ho I.free (by simp)
  exact I.step (g' := s.gens) (d' := s.drawn) (ch := []) (fun _ z => nomatch z) (fun b o _ hb _ e n => u.keep b o e n hb (by simp)) (fun b o _ hb _ e n => u.slot b o e n hb (by simp)) (fun b o _ e n => u.free b o e n (by simp)) (fun b o _ e => u.there b o e (by simp)) u.tups u.frzs u.tbls (fun m' hm => by
    obtain ⟨o', es', ep', ho', r'⟩ := hm
    rw [ho] at ho'; cases ho'
    exact ⟨_, es', ep', hL, r'⟩) hok I.bare

theorem Inv.call {g' : Array GenState} {t' : Nat} {d' : Drawn} {ch : List Addr} (I : Inv X pins σ H s) (u : Un (frs X.stack) ch H H' s.heap h') (hok : HOk X.prog X.w H' h') (hg : AllBare g')
    (hch : ∀ b ∈ ch, (b ∈ X.ex ∨ X.s_0.heap.objs.size ≤ b) ∧ b ≠ X.env.locals ∧ (∀ x c, X.env.cells.lookup x = some c → c ≠ b) ∧ ∀ p ∈ X.pn ++ pins, p.1 ≠ b) :
    Inv X pins σ H' { s with heap := h', gens := g', drawn := d', toks := t' } := by
  obtain ⟨m, ⟨o, es, ep, ho, r⟩, _⟩ := id I.loc
  obtain ⟨sl, hL⟩ := u.any ho I.free fun z => (hch _ z).2.1 rfl
  exact I.step (ch := ch) hch (fun b o hL hb hc e n => u.keep b o e n (fun z => (List.mem_cons.mp (I.stkSub b z)).elim hL hb) hc) (fun b o _ _ hc e n => u.any e n hc) (fun b o hc e n => u.free b o e n hc) (fun b o hc e => u.there b o e hc) u.tups u.frzs u.tbls (fun m' hm => by
    obtain ⟨o', es', ep', ho', r'⟩ := hm
    rw [ho] at ho'; cases ho'
    exact ⟨_, es', ep', hL, r'⟩) hok hg

theorem Inv.turned {t' : Nat} {it : Addr} (I : Inv X pins σ H s) (k : ∀ b o, b ≠ it → s.heap.get? b = some o → h'.get? b = some o) (hn : H it = none) (hL : it ≠ X.env.locals)
    (h1 : it ∈ X.ex ∨ X.s_0.heap.objs.size ≤ it) (h2 : ∀ x c, X.env.cells.lookup x = some c → c ≠ it) (h3 : ∀ p ∈ X.pn ++ pins, p.1 ≠ it) : Inv X pins σ H { s with heap := h', toks := t' } := by
  have nit : ∀ b u, H b = some u → b ≠ it := fun b u e z => by rw [z, hn] at e; cases e
  refine I.step (g' := s.gens) (d' := s.drawn) (ch := [it]) (fun b hb => ?_) (fun b o _ _ hc e _ => k b o (fun z => hc (by simp [z])) e) (fun b o _ _ hc e _ => ⟨o.slots, k b o (fun z => hc (by simp [z])) e⟩) (fun _ _ _ _ n => n)
    (fun b o hc e => ⟨o, k b o (fun z => hc (by simp [z])) e⟩) (fun _ _ e => e) (fun _ _ _ e => e) (fun b ps e => ⟨#[], by rw [e]; simp⟩) (fun m hm => ?_) (fun b u e => ?_) I.bare
  · have e : b = it := by simpa using hb
    subst e
    exact ⟨h1, hL, h2, h3⟩
  · obtain ⟨o, es, ep, ho, r⟩ := hm
    exact ⟨o, es, ep, k _ o (Ne.symm hL) ho, r⟩
  · refine (I.hok b u e).stay (fun c v hc q => k c v ?_ q) (fun _ q => q) fun _ _ q => q
    rcases hc with z | z
    · rw [z]; exact nit b u e
    · exact nit c _ z
theorem Inv.tok (I : Inv X pins σ H s) (t : Nat) : Inv X pins σ H { s with toks := t } := I.un (h' := s.heap) (t' := t) Un.refl I.hok

theorem Inv.kept {t' : Nat} (I : Inv X pins σ H s) (k : ∀ b u, s.heap.get? b = some u → h'.get? b = some u) : Inv X pins σ H { s with heap := h', toks := t' } := I.un (Un.kept k) (I.hok.kept k)

theorem Inv.laid {a : Addr} {o : HO} {t' : Nat} (I : Inv X pins σ H s) (k : ∀ b u, s.heap.get? b = some u → h'.get? b = some u) (hp : s.heap.objs.size ≤ a) (new : ObjOk X.prog X.w (upd H a o) h' a o) :
    Inv X pins σ (upd H a o) { s with heap := h', toks := t' } := I.un (Un.laid k hp (I.hok.fresh hp)) (I.hok.laid k hp new)

theorem Inv.write {x e : Addr} {o : HO} {t' : Nat} (I : Inv X pins σ H s) (mu : Mut (H x)) (he : e = x ∨ H e = some (.own x)) (k : ∀ b u, b ≠ e → s.heap.get? b = some u → h'.get? b = some u) (heo : ∃ u, h'.get? e = some u)
    (new : ObjOk X.prog X.w (upd H x o) h' x o) : Inv X pins σ (upd H x o) { s with heap := h', toks := t' } := I.un (Un.write mu he k heo) (I.hok.write mu he k heo new)

theorem Inv.weak {σ' : List (Option V)} (I : Inv X pins σ H s) (hl : σ'.length = σ.length) (w : ∀ (i : Nat) v, σ'[i]? = some (some v) → σ[i]? = some (some v)) : Inv X pins σ' H s :=
  ⟨I.ok, I.os, I.bare, I.base, let ⟨m, hn, hl'⟩ := I.loc; ⟨m, hn, fun i x v e1 e2 e3 => hl' i x v e1 (w i v e2) e3⟩, I.cell, I.free, I.freeC, I.pin, I.hok, hl.trans I.len⟩
theorem Inv.pins_of {pins' : List (Addr × Obj)} (I : Inv X pins σ H s) (h : ∀ p ∈ pins', s.heap.get? p.1 = some p.2 ∧ H p.1 = none ∧ p.1 ≠ X.env.locals ∧ p.1 ∉ X.fs ∧ ∀ v, p.2.data ≠ .cell v) : Inv X pins' σ H s :=
  ⟨I.ok, I.os, I.bare, I.base, I.loc, I.cell, I.free, I.freeC, fun p hp => (List.mem_append.mp hp).elim (fun z => I.pin p (List.mem_append_left _ z)) (h p), I.hok, I.len⟩

theorem nodup_ix {N : List Str} (hN : N.Nodup) {i j : Nat} {x : Str} (a : N[i]? = some x) (b : N[j]? = some x) : i = j := by
  obtain ⟨h1, e1⟩ := List.getElem?_eq_some_iff.mp a
  obtain ⟨h2, e2⟩ := List.getElem?_eq_some_iff.mp b
  exact (List.getElem_inj hN).mp (e1.trans e2.symm)


theorem store_ok2 {M : Model} {A : Around} {E : Value → Shared → Prop} {i : Nat} {x : Str} {v : V} {u : Value} {Q : Unit → Shared → Prop} (I : Inv X pins σ H s) (hN : X.N.Nodup) (hi : X.N[i]? = some x) (hx : Loc X.env.scope x) (r : RelV v u)
    (h : ∀ s', Inv X pins (σ.set i (some v)) H s' → (∃ a, Heap.SameBut a s.heap s'.heap ∧ (a = X.env.locals ∨ X.env.cells.lookup x = some a)) → Q () s') (hf : X.fn x = true ∨ X.env.scope.names.lookup x = some .local := by first | exact .inl rfl | exact .inr rfl | assumption) : wpAny M A (storeName X.env x u) Q E s := by
  obtain ⟨m, hn, hl⟩ := id I.loc
  have hcls : (X.env.scope.kind == .class || (X.env.scope.kind == .module && X.env.locals != X.env.globals)) = false := by rw [I.ok.kind]; rfl
  have hiσ : i < σ.length := by rw [I.len]; exact (List.getElem?_eq_some_iff.mp hi).1
  have cne := I.cne
  have tracked : ∀ {a : Addr} {h' : Heap}, (∃ o, s.heap.get? a = some o ∧ H a = none) → Heap.SameBut a s.heap h' → HOk X.prog X.w H h' := fun {a h'} ha hs b ob e => by
    obtain ⟨_, _, hfree⟩ := ha
    refine (I.hok b ob e).stay (fun c w' hc q => (hs.2 c ?_).trans q) (fun _ q => q) fun _ _ q => q
    rintro rfl
    rcases hc with rfl | hc
    · rw [hfree] at e; cases e
    · rw [hfree] at hc; cases hc
  rcases hx with hk | hk
  · refine wpAny_storeName_local hk hn (fun h' hn' hs => ?_) hcls
    obtain ⟨oL, _, _, hoL, _⟩ := id hn
    refine h _ ⟨I.ok, I.os, I.bare, ⟨fun b o e n hb hx => ?_, fun b o e n hb hx => ?_, I.base.free, fun b o e hx => ?_, I.base.tups, I.base.frzs, I.base.tbls⟩, ⟨_, hn', fun j y v' e1 e2 e3 => ?_⟩, fun y c e => ?_, I.free, I.freeC, fun p hp => ?_, tracked ⟨oL, hoL, I.free⟩ hs, by simpa using I.len⟩ ⟨_, hs, .inl rfl⟩
    · exact (hs.2 b (Nat.ne_of_lt (Nat.lt_of_lt_of_le (Heap.lt_size e) I.ok.above))).trans (I.base.keep b o e n hb hx)
    · obtain ⟨sl, e1⟩ := I.base.slot b o e n hb hx
      exact ⟨sl, (hs.2 b (Nat.ne_of_lt (Nat.lt_of_lt_of_le (Heap.lt_size e) I.ok.above))).trans e1⟩
    · obtain ⟨o', e1⟩ := I.base.there b o e hx
      exact ⟨o', (hs.2 b (Nat.ne_of_lt (Nat.lt_of_lt_of_le (Heap.lt_size e) I.ok.above))).trans e1⟩
    · by_cases hj : j = i
      · subst hj
        rw [hi] at e1; cases e1
        rw [List.getElem?_set_self hiσ] at e2
        cases e2
        exact ⟨u, r, .inl ⟨hk, by simp⟩⟩
      · rw [List.getElem?_set_ne (Ne.symm hj)] at e2
        obtain ⟨u', r', q⟩ := hl j y v' e1 e2 e3
        refine ⟨u', r', ?_⟩
        rcases q with ⟨k, e⟩ | ⟨k, c, e, z⟩
        · refine .inl ⟨k, ?_⟩
          have : y ≠ x := fun e => hj (nodup_ix hN e1 (e ▸ hi))
          simp [this, e]
        · exact .inr ⟨k, c, e, z.sameBut hs (cne y c e)⟩
    · obtain ⟨w', z⟩ := I.cell y c e
      exact ⟨w', z.sameBut hs (cne y c e)⟩
    · obtain ⟨e, n, ne, nf, d⟩ := I.pin p hp
      exact ⟨(hs.2 p.1 ne).trans e, n, ne, nf, d⟩
  · have hfn : X.fn x = true := by
      rcases hf with z | z
      · exact z
      · rw [z] at hk; cases hk
    obtain ⟨c, hc⟩ := I.ok.has x (.inl hk)
    obtain ⟨w', z⟩ := I.cell x c hc
    refine wpAny_storeName_cell I.ok.kind hk hc z (fun h' hc' hs => ?_)
    obtain ⟨oc, hoc, hocd⟩ := id z
    refine h { s with heap := h' } ⟨I.ok, I.os, I.bare, ⟨fun b o e n hb hx => ?_, fun b o e n hb hx => ?_, I.base.free, fun b o e hx => ?_, I.base.tups, I.base.frzs, I.base.tbls⟩, ⟨m, hn.sameBut hs (Ne.symm (cne x c hc)), fun j y v' e1 e2 e3 => ?_⟩, fun y c' e => ?_, I.free, I.freeC, fun p hp => ?_, tracked ⟨oc, hoc, I.freeC x c hc⟩ hs, by simpa using I.len⟩ ⟨c, hs, .inr hc⟩
    · exact (hs.2 b (Nat.ne_of_lt (Nat.lt_of_lt_of_le (Heap.lt_size e) (I.ok.cab x c hfn hc)))).trans (I.base.keep b o e n hb hx)
    · obtain ⟨sl, e1⟩ := I.base.slot b o e n hb hx
      exact ⟨sl, (hs.2 b (Nat.ne_of_lt (Nat.lt_of_lt_of_le (Heap.lt_size e) (I.ok.cab x c hfn hc)))).trans e1⟩
    · obtain ⟨o', e1⟩ := I.base.there b o e hx
      exact ⟨o', (hs.2 b (Nat.ne_of_lt (Nat.lt_of_lt_of_le (Heap.lt_size e) (I.ok.cab x c hfn hc)))).trans e1⟩
    · by_cases hj : j = i
      · subst hj
        rw [hi] at e1; cases e1
        rw [List.getElem?_set_self hiσ] at e2
        cases e2
        exact ⟨u, r, .inr ⟨.inl hk, c, hc, hc'⟩⟩
      · rw [List.getElem?_set_ne (Ne.symm hj)] at e2
        obtain ⟨u', r', q⟩ := hl j y v' e1 e2 e3
        refine ⟨u', r', ?_⟩
        rcases q with q | ⟨k, c', e, z'⟩
        · exact .inl q
        · refine .inr ⟨k, c', e, z'.sameBut hs ?_⟩
          rintro rfl
          exact hj (nodup_ix hN e1 (I.ok.inj _ _ _ e hc ▸ hi))
    · by_cases hcc : c' = c
      · subst hcc; exact ⟨_, hc'⟩
      · obtain ⟨w2, z2⟩ := I.cell y c' e
        exact ⟨w2, z2.sameBut hs hcc⟩
    · obtain ⟨e, n, ne, nf, d⟩ := I.pin p hp
      refine ⟨(hs.2 p.1 ?_).trans e, n, ne, nf, d⟩
      intro q
      rw [q, hoc] at e
      have q' : oc = p.2 := Option.some.inj e
      exact d w' (by rw [← q']; exact hocd)
theorem store_ok {M : Model} {A : Around} {E : Value → Shared → Prop} {i : Nat} {x : Str} {v : V} {u : Value} {Q : Unit → Shared → Prop} (I : Inv X pins σ H s) (hN : X.N.Nodup) (hi : X.N[i]? = some x) (hx : Loc X.env.scope x) (r : RelV v u)
    (h : ∀ s', Inv X pins (σ.set i (some v)) H s' → Q () s') (hf : X.fn x = true ∨ X.env.scope.names.lookup x = some .local := by first | exact .inl rfl | exact .inr rfl | assumption) : wpAny M A (storeName X.env x u) Q E s :=
  store_ok2 I hN hi hx r (fun s' I' _ => h s' I') hf

theorem Inv.call' {s' : Shared} {ch : List Addr} (I : Inv X pins σ H s) (ho : s'.os = s.os) (u : Un (frs X.stack) ch H H' s.heap s'.heap) (hok : HOk X.prog X.w H' s'.heap) (hg : AllBare s'.gens)
    (hch : ∀ b ∈ ch, (b ∈ X.ex ∨ X.s_0.heap.objs.size ≤ b) ∧ b ≠ X.env.locals ∧ (∀ x c, X.env.cells.lookup x = some c → c ≠ b) ∧ ∀ p ∈ X.pn ++ pins, p.1 ≠ b) : Inv X pins σ H' s' := by
  obtain ⟨h', g', d', t', o'⟩ := s'
  have e : o' = s.os := ho
  subst e
  exact I.call (g' := g') (t' := t') (d' := d') u hok hg hch
end



abbrev XK := Value → Option Addr → Hp → Prop
abbrev St := List (Option V)
abbrev VK := V → Hp → Prop

abbrev TE := St → Hp → VK → Prop
abbrev TT := St → Hp → (Bool → Hp → Prop) → Prop
abbrev TA := St → Hp → (List V → Hp → Prop) → Prop

structure Ends where
  nx : St → Hp → Prop
  rt : VK
  bk : St → Hp → Prop := fun _ _ => False
  ct : St → Hp → Prop := fun _ _ => False
abbrev TS := Ends → St → Hp → Prop

def EP (X : Cx) (pins : List (Addr × Obj)) (σ : St) (Q : VK) (u : Value) (s' : Shared) : Prop := ∃ v H', Inv X pins σ H' s' ∧ RelV v u ∧ Q v H'
def TP (X : Cx) (pins : List (Addr × Obj)) (σ : St) (Q : Bool → Hp → Prop) (b : Bool) (s' : Shared) : Prop := ∃ H', Inv X pins σ H' s' ∧ Q b H'
def AP (X : Cx) (pins : List (Addr × Obj)) (σ : St) (Q : List V → Hp → Prop) (us : List Value) (s' : Shared) : Prop := ∃ vs H', Inv X pins σ H' s' ∧ Vals vs us ∧ Q vs H'
def SP (X : Cx) (pins : List (Addr × Obj)) (D : Ends) (f : Flow) (s' : Shared) : Prop :=
  match f with
  | .next => ∃ σ' H', Inv X pins σ' H' s' ∧ D.nx σ' H'
  | .brk => ∃ σ' H', Inv X pins σ' H' s' ∧ D.bk σ' H'
  | .cont => ∃ σ' H', Inv X pins σ' H' s' ∧ D.ct σ' H'
  | .ret u => ∃ v σ' H', Inv X pins σ' H' s' ∧ RelV v u ∧ D.rt v H'

def PE (X : Cx) (e : Expr) (t : TE) : Prop :=
  ∀ (pins : List (Addr × Obj)) (s : Shared) (σ : St) (H : Hp) (Q : VK), Inv X pins σ H s → t σ H Q → wpAny (model X.prog X.w) X.A (eval e X.env) (EP X pins σ Q) X.xe s
def PT (X : Cx) (e : Expr) (t : TT) : Prop :=
  ∀ (pins : List (Addr × Obj)) (s : Shared) (σ : St) (H : Hp) (Q : Bool → Hp → Prop), Inv X pins σ H s → t σ H Q → wpAny (model X.prog X.w) X.A (isTrue e X.env (eval e X.env)) (TP X pins σ Q) X.xe s

def PW (X : Cx) (e : Expr) (t : TT) : Prop :=
  ∀ (whole : Sem Value) (pins : List (Addr × Obj)) (s : Shared) (σ : St) (H : Hp) (Q : Bool → Hp → Prop), Inv X pins σ H s → t σ H Q → wpAny (model X.prog X.w) X.A (isTrue e X.env whole) (TP X pins σ Q) X.xe s
theorem PW.pt {X : Cx} {e : Expr} {t : TT} (h : PW X e t) : PT X e t := h _

def PA (X : Cx) (es : List Expr) (t : TA) : Prop :=
  ∀ (pos : Pos) (pins : List (Addr × Obj)) (s : Shared) (σ : St) (H : Hp) (Q : List V → Hp → Prop), Inv X pins σ H s → t σ H Q → wpAny (model X.prog X.w) X.A (spliced (backTo pos (starEach es X.env))) (AP X pins σ Q) X.xe s
def PS (X : Cx) (st : Stmt) (t : TS) : Prop :=
  ∀ (pins : List (Addr × Obj)) (s : Shared) (σ : St) (H : Hp) (D : Ends), Inv X pins σ H s → t D σ H → wpAny (model X.prog X.w) X.A (exec st X.env) (SP X pins D) X.xe s
def PSs (X : Cx) (st : List Stmt) (t : TS) : Prop :=
  ∀ (pins : List (Addr × Obj)) (s : Shared) (σ : St) (H : Hp) (D : Ends), Inv X pins σ H s → t D σ H → wpAny (model X.prog X.w) X.A (execs st X.env) (SP X pins D) X.xe s

theorem thn {α : Type} {t : Sem α} {Q Q' : α → Shared → Prop} {M : Model} {A : Around} {E : Value → Shared → Prop} {s : Shared} (h : wpAny M A t Q E s) (hQ : ∀ a s, Q a s → Q' a s) : wpAny M A t Q' E s := wpAny_mono h hQ fun _ _ x => x
end L2

namespace L2
open PySem PySem.Spec PyProof.Rows
section
variable {X : Cx}


def tVar (i : Nat) : TE := fun σ H Q => ∃ v, σ[i]? = some (some v) ∧ Q v H
def tC (v : V) : TE := fun _ H Q => Q v H
theorem pe_var {i : Nat} {x : Str} {pos : Pos} (hN : X.N[i]? = some x) (hv : Vis X.env.scope x) (hd : (x == ("__debug__" : Str)) = false := by decide) (hcd : (x == ("__classdict__" : Str)) = false := by decide) : PE X (.Name x pos) (tVar i) := by
  intro pins s σ H Q I h
  obtain ⟨v, e, h⟩ := h
  obtain ⟨m, hn, hl⟩ := I.loc
  obtain ⟨u, r, l⟩ := hl i x v hN e hv
  have fin : EP X pins σ Q u s := ⟨v, H, I, r, h⟩
  rcases l with ⟨hk, hm⟩ | ⟨hk, c, hc, hcell⟩
  · exact wpAny_Name (wpAny_loadName_local I.ok.kind hk hn hm fin) hd
  · rcases hk with hk | hk
    · exact wpAny_Name (wpAny_loadName_cell I.ok.kind hk hc hcell fin) hd
    · exact wpAny_Name (wpAny_loadName_free I.ok.kind hk hc hcell fin hcd) hd
theorem pe_int {i j pos} : PE X (.Constant (.int i) j pos) (tC (.int i)) := fun _ _ _ H _ I h => wpAny_Constant_int ⟨.int i, H, I.tok _, ⟨_, rfl⟩, h⟩
theorem pe_bl {b j pos} : PE X (.Constant (.bool b) j pos) (tC (.bl b)) := fun _ _ _ H _ I h => Constant_bool ⟨.bl b, H, I, rfl, h⟩
theorem pe_non {j pos} : PE X (.Constant .none j pos) (tC .non) := fun _ _ _ H _ I h => Constant_none ⟨.non, H, I, rfl, h⟩
theorem pe_str {x j pos} : PE X (.Constant (.str x) j pos) (tC (.str x)) := fun _ _ _ H _ I h => Calls.Constant_str ⟨.str x, H, I.tok _, ⟨_, rfl⟩, h⟩


def Gl (X : Cx) (x : Str) : Prop := X.env.kindOf x = some .globalImplicit
theorem ld_glob {E : Value → Shared → Prop} {pins : List (Addr × Obj)} {s : Shared} {σ : St} {H : Hp} {x : Str} {u : Value} {pos : Pos} {Q : Value → Shared → Prop} (I : Inv X pins σ H s) (hg : Gl X x) (hm : X.mg x = some u) (h : Q u s)
    (hd : (x == ("__debug__" : Str)) = false := by decide) : wpAny (model X.prog X.w) X.A (eval (.Name x pos) X.env) Q E s :=
  Calls.Name_function_global I.ok.kind hg (Calls.loadGlobal_global (by rw [I.ok.glob]; exact I.mod.glob.keeps I.bk) hm h) hd
theorem ld_blt {E : Value → Shared → Prop} {pins : List (Addr × Obj)} {s : Shared} {σ : St} {H : Hp} {x : Str} {u : Value} {pos : Pos} {Q : Value → Shared → Prop} (I : Inv X pins σ H s) (hg : Gl X x) (hm : X.mg x = none) (hv : bootBuiltins x = some u) (h : Q u s)
    (hn : x ≠ "__name__" := by decide) (hd : (x == ("__debug__" : Str)) = false := by decide) : wpAny (model X.prog X.w) X.A (eval (.Name x pos) X.env) Q E s := by
  obtain ⟨mb, h1, h2⟩ := I.mod.blt
  exact Calls.Name_function_global I.ok.kind hg (Calls.loadGlobal_builtin (by rw [I.ok.glob]; exact I.mod.glob.keeps I.bk) hm (by rw [I.ok.blt]; exact h1.keeps I.bk) ((h2 x hn).trans hv) h) hd

theorem pe_glob {x : Str} {v : V} {u : Value} {pos : Pos} (hg : Gl X x) (hm : X.mg x = some u) (r : RelV v u) (hd : (x == ("__debug__" : Str)) = false := by decide) : PE X (.Name x pos) (tC v) :=
  fun _ _ _ H _ I h => ld_glob I hg hm ⟨v, H, I, r, h⟩ hd
theorem pe_bltn {x : Str} {v : V} {u : Value} {pos : Pos} (hg : Gl X x) (hm : X.mg x = none) (hv : bootBuiltins x = some u) (r : RelV v u) (hn : x ≠ "__name__" := by decide) (hd : (x == ("__debug__" : Str)) = false := by decide) : PE X (.Name x pos) (tC v) :=
  fun _ _ _ H _ I h => ld_blt I hg hm hv ⟨v, H, I, r, h⟩ hn hd



variable {a b : Expr} {ta tb : TE} {pos : Pos}
def tB (t : TE) : TT := fun σ H Q => t σ H fun x H1 => ∃ c, x = .bl c ∧ Q c H1
theorem pt_val {e : Expr} {t : TE} (h : PE X e t) (he : ∀ whole, isTrue e X.env whole = (do let v ← whole; standAt e.pos; holding [v] (truthy v)) := by intro _; rfl) : PT X e (tB t) := by
  intro pins s σ H Q I hw
  refine isTrue_plain (thn (h pins s σ H _ I hw) fun v s1 ⟨x, H1, I1, r1, q1⟩ => ?_) (he _)
  obtain ⟨d, rfl, q⟩ := q1
  cases r1
  exact wpAny_truthy_bool ⟨H1, I1, q⟩


variable {tA tB' : TT} {rest : List Expr}
def tAnd (t u : TT) : TT := fun σ H Q => t σ H fun c H1 => if c = true then u σ H1 Q else Q false H1
def tOr (t u : TT) : TT := fun σ H Q => t σ H fun c H1 => if c = true then Q true H1 else u σ H1 Q
def tNot (t : TT) : TT := fun σ H Q => t σ H fun c H1 => Q (!c) H1
theorem pw_and1 (ha : PT X a tA) : PW X (.BoolOp .And [a] pos) tA := by
  intro wh pins s σ H Q I h
  refine isTrue_and (thn (ha pins s σ H Q I h) fun c s1 e => ?_)
  cases c with
  | true => exact isTrue_and_nil e
  | false => exact e
theorem pw_or1 (ha : PT X a tA) : PW X (.BoolOp .Or [a] pos) tA := by
  intro wh pins s σ H Q I h
  refine isTrue_or (thn (ha pins s σ H Q I h) fun c s1 e => ?_)
  cases c with
  | false => exact isTrue_or_nil e
  | true => exact e
theorem pw_and (ha : PT X a tA) (hb : PW X (.BoolOp .And (b :: rest) pos) tB') : PW X (.BoolOp .And (a :: b :: rest) pos) (tAnd tA tB') := by
  intro wh pins s σ H Q I h
  refine isTrue_and (thn (ha pins s σ H _ I h) fun c s1 ⟨H1, I1, q1⟩ => ?_)
  cases c with
  | true => exact hb wh pins s1 σ H1 Q I1 q1
  | false => exact ⟨H1, I1, q1⟩
theorem pw_or (ha : PT X a tA) (hb : PW X (.BoolOp .Or (b :: rest) pos) tB') : PW X (.BoolOp .Or (a :: b :: rest) pos) (tOr tA tB') := by
  intro wh pins s σ H Q I h
  refine isTrue_or (thn (ha pins s σ H _ I h) fun c s1 ⟨H1, I1, q1⟩ => ?_)
  cases c with
  | true => exact ⟨H1, I1, q1⟩
  | false => exact hb wh pins s1 σ H1 Q I1 q1
theorem pt_not (ha : PT X a tA) : PT X (.UnaryOp .Not a pos) (tNot tA) := by
  intro pins s σ H Q I h
  exact isTrue_not (ha pins s σ H (fun c H1 => Q (!c) H1) I h)

def tAndV (ta tb : TE) : TE := fun σ H Q => ta σ H fun x H1 => ∃ c, x = .bl c ∧ if c = true then tb σ H1 Q else Q (.bl false) H1
def tNotV (ta : TE) : TE := fun σ H Q => ta σ H fun x H1 => ∃ c, x = .bl c ∧ Q (.bl (!c)) H1
theorem pe_one {op} {t : TE} (h : PE X a t) : PE X (.BoolOp op [a] pos) t := fun pins s σ H Q I hw => BoolOp_one (h pins s σ H Q I hw)
theorem pe_and (ha : PE X a ta) (hb : PE X (.BoolOp .And (b :: rest) pos) tb) : PE X (.BoolOp .And (a :: b :: rest) pos) (tAndV ta tb) := by
  intro pins s σ H Q I h
  refine BoolOp_and (thn (ha pins s σ H _ I h) fun v s1 ⟨x, H1, I1, r1, q1⟩ => ?_)
  obtain ⟨c, rfl, q1⟩ := q1
  cases r1
  refine wpAny_truthy_bool ?_
  cases c with
  | true => exact hb pins s1 σ H1 Q I1 q1
  | false => exact ⟨.bl false, H1, I1, rfl, q1⟩
theorem pe_not (ha : PE X a ta) : PE X (.UnaryOp .Not a pos) (tNotV ta) := by
  intro pins s σ H Q I h
  refine UnaryOp_ (thn (ha pins s σ H _ I h) fun v s1 ⟨x, H1, I1, r1, q1⟩ => ?_)
  obtain ⟨c, rfl, q1⟩ := q1
  cases r1
  exact not_of (wpAny_truthy_bool ⟨.bl (!c), H1, I1, rfl, q1⟩)

end
end L2

namespace L2
open PySem PySem.Spec PyProof.Rows


def SqL (K : PySem.W.Frag) (H : Hp) (a : Addr) (xs : List V) : Prop :=
  Rd H a (.lst xs) ∨
    ∃ (o : Obj) (its : Array Value) (n : Nat), K.lookup a = some o ∧ o.cls = .type "list" ∧ o.dict = none ∧ o.data = .seq its n ∧ its.size ≤ sizeLine ∧ Vals xs its.toList
def SqT (K : PySem.W.Frag) (H : Hp) (a : Addr) (xs : List V) : Prop :=
  Rd H a (.tup xs) ∨
    ∃ (o : Obj) (its : Array Value) (n : Nat), K.lookup a = some o ∧ o.cls = .type "tuple" ∧ o.data = .seq its n ∧ its.size ≤ sizeLine ∧ o.dict = none ∧ Vals xs its.toList
def absV : Value → Option V
  | .none => some .non
  | .bool b => some (.bl b)
  | .int i _ => some (.int i)
  | .str x _ => some (.str x)
  | .bytes b _ => some (.byt b)
  | .float b _ => some (.flt b)
  | .ref a => some (.ref a)
  | .type n => some (.ty n)
  | _ => none
theorem RelV.abs {x : V} {u : Value} (r : RelV x u) : absV u = some x := by
  cases x with
  | non => cases r; rfl
  | bl _ => cases r; rfl
  | int _ => obtain ⟨t, rfl⟩ := r; rfl
  | str _ => obtain ⟨t, rfl⟩ := r; rfl
  | byt _ => obtain ⟨t, rfl⟩ := r; rfl
  | flt _ => obtain ⟨t, rfl⟩ := r; rfl
  | ref _ => cases r; rfl
  | ty _ => cases r; rfl
theorem RelV.inj {x y : V} {u : Value} (r : RelV x u) (q : RelV y u) : x = y := Option.some.inj (r.abs.symm.trans q.abs)
theorem Vals.inj : ∀ {xs ys : List V} {us : List Value}, Vals xs us → Vals ys us → xs = ys
  | _, _, _, .nil, .nil => rfl
  | _, _, _, .cons r t, .cons r' t' => by rw [r.inj r', Vals.inj t t']
section
variable {X : Cx} {pins : List (Addr × Obj)} {σ : St} {H : Hp} {s : Shared} {a : Addr} {xs ys : List V}
theorem SqL.of {K : PySem.W.Frag} (h : H a = some (.lst xs)) : SqL K H a xs := .inl (.inl h)
theorem SqT.of {K : PySem.W.Frag} (h : H a = some (.tup xs)) : SqT K H a xs := .inl (.inl h)
theorem Inv.list (I : Inv X pins σ H s) (h : SqL X.K H a xs) : ∃ its : List Value, Vals xs its ∧ PlainL s.heap a its.toArray ∧ xs.length ≤ sizeLine := by
  rcases h with h | ⟨o, its, n, hk, hc, hd, hs, hz, r⟩
  · obtain ⟨z, its, n, r, e⟩ := h.ok I.hok
    exact ⟨its, r, ⟨_, n, e, rfl, rfl, rfl⟩, z⟩
  · refine ⟨its.toList, r, ⟨o, n, I.kIn a o hk, hc, hd, by simpa using hs⟩, ?_⟩
    have e := r.length
    simp only [Array.length_toList] at e
    omega
theorem Inv.tuple (I : Inv X pins σ H s) (h : SqT X.K H a xs) : ∃ its : List Value, Vals xs its ∧ IsTup s.heap a its.toArray ∧ xs.length ≤ sizeLine := by
  rcases h with h | ⟨o, its, n, hk, hc, hs, hz, _, r⟩
  · obtain ⟨z, _, its, r, p⟩ := h.ok I.hok
    exact ⟨its, r, p, z⟩
  · refine ⟨its.toList, r, ⟨o, I.kIn a o hk, hc, n, by simpa using hs⟩, ?_⟩
    have e := r.length
    simp only [Array.length_toList] at e
    omega
theorem Inv.list_inj (I : Inv X pins σ H s) (h : SqL X.K H a xs) (h' : SqL X.K H a ys) : xs = ys := by
  obtain ⟨its, r, ⟨o, n, e, _, _, d⟩, _⟩ := I.list h
  obtain ⟨its', r', ⟨o', n', e', _, _, d'⟩, _⟩ := I.list h'
  rw [e] at e'; cases e'
  rw [d] at d'
  injection d' with d1 _
  have : its = its' := by simpa using congrArg Array.toList d1
  subst this
  exact r.inj r'
theorem Inv.tuple_inj (I : Inv X pins σ H s) (h : SqT X.K H a xs) (h' : SqT X.K H a ys) : xs = ys := by
  obtain ⟨its, r, ⟨o, e, _, n, d⟩, _⟩ := I.tuple h
  obtain ⟨its', r', ⟨o', e', _, n', d'⟩, _⟩ := I.tuple h'
  rw [e] at e'; cases e'
  rw [d] at d'
  injection d' with d1 _
  have : its = its' := by simpa using congrArg Array.toList d1
  subst this
  exact r.inj r'
end


abbrev Cx.wish (X : Cx) (E : Value → Shared → Prop) : Cx := { X with xe := E }

abbrev Cx.nox (X : Cx) : Cx := X.wish fun _ _ => False
theorem Cx.Ok.wish {X : Cx} (ok : X.Ok) (E : Value → Shared → Prop) : (X.wish E).Ok :=
  ⟨ok.mod, ok.kind, ok.glob, ok.blt, ok.above, ok.inj, ok.has, ok.cab, ok.hd, ok.frames, ok.stk, ok.exf, ok.bs, ok.bsz, ok.noex, ok.exfs, ok.funs, ok.frf⟩
theorem Cx.Ok.unwish {X : Cx} {E : Value → Shared → Prop} (ok : (X.wish E).Ok) : X.Ok :=
  ⟨ok.mod, ok.kind, ok.glob, ok.blt, ok.above, ok.inj, ok.has, ok.cab, ok.hd, ok.frames, ok.stk, ok.exf, ok.bs, ok.bsz, ok.noex, ok.exfs, ok.funs, ok.frf⟩
section
variable {X : Cx} {pins : List (Addr × Obj)} {σ : St} {H : Hp} {s : Shared} {E : Value → Shared → Prop}
theorem Inv.wish (I : Inv X pins σ H s) (E : Value → Shared → Prop) : Inv (X.wish E) pins σ H s := ⟨I.ok.wish E, I.os, I.bare, I.base, I.loc, I.cell, I.free, I.freeC, I.pin, I.hok, I.len⟩
theorem Inv.unwish (I : Inv (X.wish E) pins σ H s) : Inv X pins σ H s := ⟨I.ok.unwish, I.os, I.bare, I.base, I.loc, I.cell, I.free, I.freeC, I.pin, I.hok, I.len⟩
theorem SP.unwish {D : Ends} {f : Flow} {s' : Shared} (h : SP (X.wish E) pins D f s') : SP X pins D f s' := by
  cases f with
  | next => obtain ⟨σ', H', I, q⟩ := h; exact ⟨σ', H', I.unwish, q⟩
  | brk => obtain ⟨σ', H', I, q⟩ := h; exact ⟨σ', H', I.unwish, q⟩
  | cont => obtain ⟨σ', H', I, q⟩ := h; exact ⟨σ', H', I.unwish, q⟩
  | ret u => obtain ⟨v, σ', H', I, r, q⟩ := h; exact ⟨v, σ', H', I.unwish, r, q⟩
theorem PE.nox {e : Expr} {t : TE} (h : PE X.nox e t) : PE X e t := fun pins s σ H Q I hw =>
  wpAny_mono (h pins s σ H Q (I.wish _) hw) (fun _ _ ⟨v, H', I', r, q⟩ => ⟨v, H', I'.unwish, r, q⟩) fun _ _ z => False.elim z
theorem PT.nox {e : Expr} {t : TT} (h : PT X.nox e t) : PT X e t := fun pins s σ H Q I hw =>
  wpAny_mono (h pins s σ H Q (I.wish _) hw) (fun _ _ ⟨H', I', q⟩ => ⟨H', I'.unwish, q⟩) fun _ _ z => False.elim z
theorem PSs.nox {st : List Stmt} {t : TS} (h : PSs X.nox st t) : PSs X st t := fun pins s σ H D I hw =>
  wpAny_mono (h pins s σ H D (I.wish _) hw) (fun _ _ q => q.unwish) fun _ _ z => False.elim z
end


section
variable {X : Cx} {st : Stmt} {rest : List Stmt} {t u : TS} {e : Expr} {te : TE} {pos : Pos}
def tNext : TS := fun D σ H => D.nx σ H
def tSeq (t u : TS) : TS := fun D σ H => t { D with nx := u D } σ H
theorem pss_nil : PSs X [] tNext := fun _ _ σ H _ I h => wpAny_execs_nil ⟨σ, H, I, h⟩
theorem pss_cons (h1 : PS X st t) (h2 : PSs X rest u) : PSs X (st :: rest) (tSeq t u) := by
  intro pins s σ H D I h
  refine wpAny_execs_cons (thn (h1 pins s σ H { D with nx := u D } I h) fun f s1 q => ?_)
  cases f with
  | next =>
    obtain ⟨σ', H', I', q⟩ := q
    exact h2 pins s1 σ' H' D I' q
  | ret v => exact q
  | brk => exact q
  | cont => exact q
theorem pss_one (h1 : PS X st t) : PSs X [st] t := by
  intro pins s σ H D I h
  refine wpAny_execs_cons (thn (h1 pins s σ H D I h) fun f s1 q => ?_)
  cases f with
  | next => exact wpAny_execs_nil q
  | ret v => exact q
  | brk => exact q
  | cont => exact q
theorem Inv.quiet {pins : List (Addr × Obj)} {σ : St} {H : Hp} {s : Shared} (I : Inv X pins σ H s) : interactive X.env = false := by simp [interactive, I.ok.kind]

def tDrop (te : TE) : TS := fun D σ H => te σ H fun _ H1 => D.nx σ H1
theorem ps_expr (he : PE X e te) (hs : swapsWith e none pos.line X.env = pure false := by rfl) : PS X (.Expr e pos) (tDrop te) := by
  intro pins s σ H D I h
  exact wpAny_Expr_any (thn (he pins s σ H _ I h) fun v s1 ⟨x, H1, I1, r1, q1⟩ => ⟨σ, H1, I1, q1⟩) I.quiet hs
def tRet (te : TE) : TS := fun D σ H => te σ H D.rt
theorem ps_ret (he : PE X e te) : PS X (.Return (some e) pos) (tRet te) := by
  intro pins s σ H D I h
  exact wpAny_Return_some (thn (he pins s σ H _ I h) fun v s1 ⟨x, H1, I1, r1, q1⟩ => ⟨x, σ, H1, I1, r1, q1⟩)
def tIfS (c : TT) (t u : TS) : TS := fun D σ H => c σ H fun b H1 => if b = true then t D σ H1 else u D σ H1
theorem ps_if {c : Expr} {a b : List Stmt} {tc : TT} (hc : PT X c tc) (ha : PSs X a t) (hb : PSs X b u) : PS X (.If c a b pos) (tIfS tc t u) := by
  intro pins s σ H D I h
  refine wpAny_If (thn (hc pins s σ H _ I h) fun d s1 ⟨H1, I1, q1⟩ => ?_)
  cases d with
  | true => exact ha pins s1 σ H1 D I1 q1
  | false => exact hb pins s1 σ H1 D I1 q1

def tNever : TS := fun _ _ _ => False
theorem ps_never : PS X st tNever := fun _ _ _ _ _ _ h => h.elim
end


abbrev TG := V → St → Hp → (St → Hp → Prop) → Prop
abbrev TGs := List V → St → Hp → (St → Hp → Prop) → Prop
def PG (X : Cx) (target : Expr) (t : TG) : Prop :=
  ∀ (pins : List (Addr × Obj)) (s : Shared) (σ : St) (H : Hp) (v : V) (u : Value) (Q : St → Hp → Prop), Inv X pins σ H s → RelV v u → t v σ H Q →
    wpAny (model X.prog X.w) X.A (assign target X.env u) (fun _ s' => ∃ σ' H', Inv X pins σ' H' s' ∧ Q σ' H') X.xe s

def PGs (X : Cx) (ts : List Expr) (t : TGs) : Prop :=
  ∀ (pins : List (Addr × Obj)) (s : Shared) (σ : St) (H : Hp) (vs : List V) (us : List Value) (Q : St → Hp → Prop), Inv X pins σ H s → Vals vs us → t vs σ H Q →
    wpAny (model X.prog X.w) X.A (assignInOrder ((assignEach ts X.env).map (·.2)) us) (fun _ s' => ∃ σ' H', Inv X pins σ' H' s' ∧ Q σ' H') X.xe s

abbrev TSet := V → V → V → Hp → (Hp → Prop) → Prop
def PSet (X : Cx) (t : TSet) : Prop :=
  ∀ (pins : List (Addr × Obj)) (s : Shared) (σ : St) (H : Hp) (o i v : V) (ov iv u : Value) (Q : Hp → Prop), Inv X pins σ H s → RelV o ov → RelV i iv → RelV v u → t o i v H Q →
    wpAny (model X.prog X.w) X.A (setItem ov iv u) (fun _ s' => ∃ H', Inv X pins σ H' s' ∧ Q H') X.xe s

abbrev TIp := V → V → Hp → VK → Prop
def PIp (X : Cx) (op : Operator) (t : TIp) : Prop :=
  ∀ (pins : List (Addr × Obj)) (s : Shared) (σ : St) (H : Hp) (x y : V) (v u : Value) (Q : VK), Inv X pins σ H s → RelV x v → RelV y u → t x y H Q →
    wpAny (model X.prog X.w) X.A (inplaceOp op v u) (EP X pins σ Q) X.xe s
section
variable {X : Cx} {pos : Pos}
def gName (i : Nat) : TG := fun v σ H Q => Q (σ.set i (some v)) H
theorem pg_name {i : Nat} {x : Str} (hN : X.N.Nodup) (hi : X.N[i]? = some x) (hx : Loc X.env.scope x) (hf : X.fn x = true ∨ X.env.scope.names.lookup x = some .local := by first | exact .inl rfl | exact .inr rfl | assumption) : PG X (.Name x pos) (gName i) := by
  intro pins s σ H v u Q I r h
  exact wpAny_assign_Name (store_ok I hN hi hx r (fun s' I' => ⟨_, H, I', h⟩) hf)
def gNil : TGs := fun vs σ H Q => vs = [] ∧ Q σ H
def gCons (t : TG) (u : TGs) : TGs := fun vs σ H Q => ∃ v r, vs = v :: r ∧ t v σ H fun σ' H' => u r σ' H' Q
theorem pgs_nil : PGs X [] gNil := by
  intro pins s σ H vs us Q I r h
  obtain ⟨e, h⟩ := h
  subst e
  cases r
  exact assignInOrder_nil ⟨σ, H, I, h⟩
theorem pgs_cons {e : Expr} {es : List Expr} {t : TG} {u : TGs} (h1 : PG X e t) (h2 : PGs X es u)
    (hs : (assignEach (e :: es) X.env).map (·.2) = assign e X.env :: (assignEach es X.env).map (·.2) := by rfl) : PGs X (e :: es) (gCons t u) := by
  intro pins s σ H vs us Q I r h
  obtain ⟨v, vr, e1, h⟩ := h
  subst e1
  cases r with
  | cons r rr =>
    rw [hs]
    refine assignInOrder_cons (thn (h1 pins s σ H _ _ _ I r h) fun _ s1 ⟨σ1, H1, I1, q1⟩ => ?_)
    exact h2 pins s1 σ1 H1 _ _ Q I1 rr q1

def gTup (K : PySem.W.Frag) (n : Nat) (t : TGs) : TG := fun v σ H Q => ∃ a xs, v = .ref a ∧ SqT K H a xs ∧ xs.length = n ∧ t xs σ H Q
theorem pg_tup {es : List Expr} {k : Nat} {t : TGs} {n : Nat} (hc : X.calm = true) (h : PGs X es t)
    (hn : (assignEach es X.env).length = n := by rfl) (hst : (assignEach es X.env).findIdx? (·.1) = none := by rfl) : PG X (.Tuple es k pos) (gTup X.K n t) := by
  intro pins s σ H v u Q I r hw
  obtain ⟨a, xs, e1, hq, hl, hw⟩ := hw
  subst e1
  cases r
  obtain ⟨its, rv, ht, hz⟩ := I.tuple hq
  refine assign_Tuple_tuple (I.ok.hd hc) ht (by simp [hn, ← hl, rv.length]) hst fun h' hx => ?_
  have I1 : Inv X pins σ H { s with heap := h' } := I.kept (t' := s.toks) fun b o e => hx b o (Nat.ne_of_lt (Heap.lt_size e)) e
  exact h pins _ σ H xs _ Q I1 (by simpa using rv) hw

def gSub (to ti : TE) (t : TSet) : TG := fun v σ H Q => to σ H fun o H1 => ti σ H1 fun i H2 => t o i v H2 fun H3 => Q σ H3
theorem pg_sub {o i : Expr} {to ti : TE} {t : TSet} (ho : PE X o to) (hi : PE X i ti) (hs : PSet X t)
    (ha : ∀ v, assign (.Subscript o i pos) X.env v = (do
      let ov ← holding [v] (eval o X.env)
      let iv ← holding [v, ov] (eval i X.env)
      standAt pos
      holding [v, ov, iv] (setItem ov iv v)
      release [v, ov, iv] []) := by intro _; rfl) : PG X (.Subscript o i pos) (gSub to ti t) := by
  intro pins s σ H v u Q I r h
  rw [ha]
  refine wpAny_bind (wpAny_holding (thn (ho pins s σ H _ I h) fun ov s1 ⟨x, H1, I1, r1, q1⟩ => ?_))
  refine wpAny_bind (wpAny_holding (thn (hi pins s1 σ H1 _ I1 q1) fun iv s2 ⟨y, H2, I2, r2, q2⟩ => ?_))
  refine wpAny_bind (wpAny_standAt (wpAny_bind (wpAny_holding (thn (hs pins s2 σ H2 x y v ov iv u _ I2 r1 r2 r q2) fun _ s3 ⟨H3, I3, q3⟩ => ?_))))
  exact wpAny_release ⟨σ, H3, I3, q3⟩

def tAsg (te : TE) (g : TG) : TS := fun D σ H => te σ H fun x H1 => g x σ H1 D.nx
theorem ps_asg {tg e : Expr} {te : TE} {g : TG} (he : PE X e te) (hg : PG X tg g) (hs : swapsWithSole [tg] e pos.line X.env = pure false := by rfl) (hw : swappedStores [tg] e X.env = pure none := by rfl)
    (h1 : (assignEach [tg] X.env).map (·.2) = [assign tg X.env] := by rfl) : PS X (.Assign [tg] e pos) (tAsg te g) := by
  intro pins s σ H D I h
  refine wpAny_Assign_stores (thn (he pins s σ H _ I h) fun v s1 ⟨x, H1, I1, r1, q1⟩ => ?_) hs hw
  rw [h1]
  exact thn (hg pins s1 σ H1 x v _ I1 r1 q1) fun _ s2 q => q

theorem ps_set {i : Nat} {x : Str} {e : Expr} {te : TE} {pos' : Pos} (hN : X.N.Nodup) (hi : X.N[i]? = some x) (hx : Loc X.env.scope x) (he : PE X e te) (hs : swapsWith e (some (.Name x pos')) pos.line X.env = pure false := by rfl) (hf : X.fn x = true ∨ X.env.scope.names.lookup x = some .local := by first | exact .inl rfl | exact .inr rfl | assumption) :
    PS X (.Assign [.Name x pos'] e pos) (tAsg te (gName i)) := by
  intro pins s σ H D I h
  refine wpAny_Assign_Name (thn (he pins s σ H _ I h) fun v s1 ⟨y, H1, I1, r1, q1⟩ => ?_) hs
  exact store_ok I1 hN hi hx r1 (fun s2 I2 => ⟨_, H1, I2, q1⟩) hf

def tAug (i : Nat) (te : TE) (ti : TIp) : TS := fun D σ H => ∃ x, σ[i]? = some (some x) ∧ te σ H fun y H1 => ti x y H1 fun z H2 => D.nx (σ.set i (some z)) H2
theorem ps_aug {i : Nat} {x : Str} {e : Expr} {te : TE} {op : Operator} {ti : TIp} {pos' : Pos} (hN : X.N.Nodup) (hi : X.N[i]? = some x) (hx : Loc X.env.scope x) (he : PE X e te) (ho : PIp X op ti) (hf : X.fn x = true ∨ X.env.scope.names.lookup x = some .local := by first | exact .inl rfl | exact .inr rfl | assumption) :
    PS X (.AugAssign (.Name x pos') op e pos) (tAug i te ti) := by
  intro pins s σ H D I h
  obtain ⟨v, e1, h⟩ := h
  obtain ⟨m, hn, hl⟩ := I.loc
  have vis : Vis X.env.scope x := by rcases hx with k | k; exact .inl k; exact .inr (.inl k)
  obtain ⟨u, r, l⟩ := hl i x v hi e1 vis
  refine wpAny_AugAssign_Name ?_
  have go : wpAny (model X.prog X.w) X.A (eval e X.env) (fun w s₂ => wpAny (model X.prog X.w) X.A (inplaceOp op u w) (fun r s₃ => wpAny (model X.prog X.w) X.A (storeName X.env x r) (fun _ => SP X pins D .next) X.xe s₃) X.xe s₂) X.xe s := by
    refine thn (he pins s σ H _ I h) fun w s1 ⟨y, H1, I1, r1, q1⟩ => ?_
    refine thn (ho pins s1 σ H1 v y u w _ I1 r r1 q1) fun z s2 ⟨zv, H2, I2, r2, q2⟩ => ?_
    exact store_ok I2 hN hi hx r2 (fun s3 I3 => ⟨_, H2, I3, q2⟩) hf
  rcases l with ⟨hk, hm⟩ | ⟨hk, c, hc, hcell⟩
  · exact wpAny_loadName_local I.ok.kind hk hn hm go
  · rcases hk with hk | hk
    · exact wpAny_loadName_cell I.ok.kind hk hc hcell go
    · rcases hx with k | k
      · have : X.env.scope.names.lookup x = some .free := hk
        rw [k] at this; cases this
      · have : X.env.scope.names.lookup x = some .free := hk
        rw [k] at this; cases this

def ipI (f : Int → Int → Int) : TIp := fun x y H Q => ∃ i j, x = .int i ∧ y = .int j ∧ Q (.int (f i j)) H
theorem ip_add : PIp X .Add (ipI fun i j => i + j) := by
  intro pins s σ H x y v u Q I r1 r2 h
  obtain ⟨i, j, e1, e2, q⟩ := h
  subst e1; subst e2
  obtain ⟨t, rfl⟩ := r1
  obtain ⟨t', rfl⟩ := r2
  exact iadd_int ⟨.int _, H, I.tok _, ⟨_, rfl⟩, q⟩
end


section
variable {X : Cx} {pos : Pos}

def tWhile (c : TT) (tb : TS) : TS := fun D σ H => ∃ W : Nat → St → Hp → Prop, (∃ m, W m σ H) ∧ ∀ m σ H, W m σ H →
  c σ H fun b H1 => if b = true then ∃ N : St → Hp → Prop, (∀ σ' H', N σ' H' → ∃ m', m' < m ∧ W m' σ' H') ∧ tb { D with nx := N, ct := N, bk := D.nx } σ H1 else D.nx σ H1
theorem ps_while {c : Expr} {body : List Stmt} {tc : TT} {tb : TS} (hp : PassesOwn (model X.prog X.w) X.A X.env X.xe) (hc : PT X c tc) (hb : PSs X body tb) : PS X (.While c body [] pos) (tWhile tc tb) := by
  intro pins s σ H D I h
  obtain ⟨W, ⟨m0, w0⟩, turn⟩ := h
  refine wpAny_While (codeAny_whileLoop (fun n s' => ∃ σ' H', Inv X pins σ' H' s' ∧ W n σ' H') ?_ m0 ⟨σ, H, I, w0⟩)
  rintro n s1 ⟨σ1, H1, I1, w1⟩
  refine wpAny_passesOwn hp (thn (hc pins s1 σ1 H1 _ I1 (turn n σ1 H1 w1)) fun b s2 ⟨H2, I2, q2⟩ => ?_)
  cases b with
  | true =>
    obtain ⟨N, hN, q2⟩ := q2
    rw [if_pos rfl]
    refine wpAny_passesOwn hp (thn (hb pins s2 σ1 H2 _ I2 q2) fun f s3 q3 => ?_)
    cases f with
    | next =>
      obtain ⟨σ3, H3, I3, n3⟩ := q3
      obtain ⟨m', hm, w3⟩ := hN σ3 H3 n3
      exact ⟨m', hm, σ3, H3, I3, w3⟩
    | cont =>
      obtain ⟨σ3, H3, I3, n3⟩ := q3
      obtain ⟨m', hm, w3⟩ := hN σ3 H3 n3
      exact ⟨m', hm, σ3, H3, I3, w3⟩
    | brk => exact q3
    | ret v => exact q3
  | false =>
    rw [if_neg Bool.false_ne_true]
    exact wpAny_execs_nil ⟨σ1, H2, I2, q2⟩
end



structure It where
  go : Nat → Hp → Prop
  yld : Nat → Hp → V → Hp → Prop
  stop : Nat → Hp → Prop

def FpOk (X : Cx) (pins : List (Addr × Obj)) (H : Hp) (b : Addr) : Prop :=
  H b = none ∧ b ≠ X.env.locals ∧ b ∉ X.fs ∧ (b ∈ X.ex ∨ X.s_0.heap.objs.size ≤ b) ∧ (∀ x c, X.env.cells.lookup x = some c → c ≠ b) ∧ ∀ p ∈ X.pn ++ pins, p.1 ≠ b
theorem Inv.fpOk {X : Cx} {pins : List (Addr × Obj)} {σ : St} {H H' : Hp} {s : Shared} {b : Addr} (I : Inv X pins σ H s) (hb : s.heap.objs.size ≤ b) (hn : H' b = none) : FpOk X pins H' b := by
  refine ⟨hn, Nat.ne_of_gt (Nat.lt_of_lt_of_le I.lt hb), I.nofs hb, .inr (Nat.le_trans I.sz hb), fun x c e z => ?_, fun p hp z => ?_⟩
  · obtain ⟨v, q⟩ := I.cell x c e
    exact absurd (Nat.lt_of_lt_of_le q.lt (by rw [z]; exact hb)) (Nat.lt_irrefl _)
  · exact absurd (Nat.lt_of_lt_of_le (Heap.lt_size (I.pin p hp).1) (by rw [z]; exact hb)) (Nat.lt_irrefl _)
structure Turn (P : Program) (w : World) (K : PySem.W.Frag) (tg : Expr) (J : It) (fp : List Addr) (it : Addr) (tn : Nat → Heap → Prop) : Prop where
  mem : it ∈ fp
  obj : ∀ i h, tn i h → ∀ b ∈ fp, ∃ o, h.get? b = some o ∧ ∀ v, o.data ≠ .cell v
  keep : ∀ i h h', tn i h → (∀ b ∈ fp, ∀ o, h.get? b = some o → h'.get? b = some o) → tn i h'
  item : ∀ (X : Cx), X.prog = P → X.w = w → X.K = K → X.calm = true → ∀ (i : Nat) (pins : List (Addr × Obj)) (s : Shared) (σ : St) (H : Hp) (E : Value → Shared → Prop), Inv X pins σ H s → (∀ b ∈ fp, FpOk X pins H b) → tn i s.heap → J.go i H →
    wpAny (model P w) X.A (pyNext (.ref it)) (fun r s1 => ∃ u, r = some u ∧
      wpAny (model P w) X.A (letOwnedTupleGo tg (.ref it) u) (fun _ s2 => ∃ x H', Inv X pins σ H' s2 ∧ RelV x u ∧ J.yld i H x H' ∧ tn (i + 1) s2.heap ∧ ∀ b ∈ fp, H' b = none) E s1) E s
  done : ∀ (X : Cx), X.prog = P → X.w = w → X.K = K → X.calm = true → ∀ (i : Nat) (pins : List (Addr × Obj)) (s : Shared) (σ : St) (H : Hp) (E : Value → Shared → Prop), Inv X pins σ H s → (∀ b ∈ fp, FpOk X pins H b) → tn i s.heap → J.stop i H →
    wpAny (model P w) X.A (pyNext (.ref it)) (fun r s1 => r = none ∧ Inv X pins σ H s1) E s
  self : ∀ (A : Around) (i : Nat) (s : Shared) (Q : Value → Shared → Prop) (E : Value → Shared → Prop), tn i s.heap → Q (.ref it) s → wpAny (model P w) A (pyIter (.ref it)) Q E s
abbrev TI := St → Hp → (It → Hp → Prop) → Prop

def PIE (X : Cx) (pins : List (Addr × Obj)) (σ : St) (tg : Expr) (R : It → Hp → Prop) (itv : Value) (s2 : Shared) : Prop :=
  ∃ (it : Addr) (fp : List Addr) (tn : Nat → Heap → Prop) (J : It) (H' : Hp), itv = .ref it ∧ Inv X pins σ H' s2 ∧ Turn X.prog X.w X.K tg J fp it tn ∧ tn 0 s2.heap ∧ (∀ b ∈ fp, FpOk X pins H' b) ∧ R J H'
def PI (X : Cx) (tg iter : Expr) (wi : TI) : Prop :=
  ∀ (pins : List (Addr × Obj)) (s : Shared) (σ : St) (H : Hp) (R : It → Hp → Prop), Inv X pins σ H s → wi σ H R →
    wpAny (model X.prog X.w) X.A (eval iter X.env) (fun v s1 => wpAny (model X.prog X.w) X.A (pyIter v) (PIE X pins σ tg R) X.xe s1) X.xe s


theorem go_of {M : Model} {A : Around} {E : Value → Shared → Prop} {s : Shared} {tg : Expr} {it : Addr} {u : Value} {o : Obj} {n : String} {vs : Array Value} {Q : Unit → Shared → Prop} (ho : s.heap.get? it = some o) (hc : o.cls = .type n) (hd : o.data = .fields vs)
    (hn : ["enumerate", "zip", "dict_itemiterator", "dict_reverseitemiterator", "odict_iterator", "itertools.zip_longest", "itertools.pairwise"].contains n = false) (hQ : Q () s) : wpAny M A (letOwnedTupleGo tg (.ref it) u) Q E s := by
  unfold letOwnedTupleGo
  cases tg <;> first
    | exact wpAny_pure hQ
    | (cases u <;> first
        | exact wpAny_pure hQ
        | (refine wpAny_bind (wpAny_load ho ?_)
           rw [hc, hd]
           show wpAny M A (if (["enumerate", "zip", "dict_itemiterator", "dict_reverseitemiterator", "odict_iterator", "itertools.zip_longest", "itertools.pairwise"].contains n && vs[0]? == some (rawInt _)) = true then _ else _) Q E s
           rw [if_neg (by intro h; rw [hn, Bool.false_and] at h; cases h)]
           exact wpAny_pure hQ))


def Itl (K : PySem.W.Frag) (a : Addr) : It :=
  ⟨fun i H => ∃ xs x, SqL K H a xs ∧ xs[i]? = some x, fun i H x H' => H' = H ∧ ∀ xs, SqL K H a xs → xs[i]? = some x, fun i H => ∃ xs, SqL K H a xs ∧ xs.length ≤ i⟩
def Itt (K : PySem.W.Frag) (a : Addr) : It :=
  ⟨fun i H => ∃ xs x, SqT K H a xs ∧ xs[i]? = some x, fun i H x H' => H' = H ∧ ∀ xs, SqT K H a xs → xs[i]? = some x, fun i H => ∃ xs, SqT K H a xs ∧ xs.length ≤ i⟩

def Itr (lo : Int) (n : Nat) : It := ⟨fun i _ => i < n, fun i H x H' => H' = H ∧ x = .int (lo + i), fun i _ => n ≤ i⟩
theorem turn_list {P : Program} {w : World} {K : PySem.W.Frag} {tg : Expr} (a it : Addr) : Turn P w K tg (Itl K a) [it] it (fun i h => h.IsListIter it a i) where
  mem := by simp
  obj := fun i h st b hb => by
    have e : b = it := by simpa using hb
    subst e
    obtain ⟨o, e, c, d⟩ := st
    exact ⟨o, e, fun v z => by rw [d] at z; cases z⟩
  keep := fun i h h' st k => st.at fun o e => k it (by simp) o e
  item := by
    intro X hP hw hK hc i pins s σ H E I hf st hg
    subst hP hw hK
    obtain ⟨xs, x, hq, hx⟩ := hg
    obtain ⟨its, rv, p, hz⟩ := I.list hq
    obtain ⟨u, hu, ru⟩ := rv.get hx
    obtain ⟨f0, f1, f2, f3, f4, f5⟩ := hf it (by simp)
    refine wpAny_pyNext_list_item st p.isList (x := u) (by simpa using hu) fun h' st' sb => ?_
    have I1 : Inv X pins σ H { s with heap := h' } := I.turned (t' := s.toks) (fun b o hb e => (sb.2 b hb).trans e) f0 f1 f3 f4 f5
    obtain ⟨o, e, c, d⟩ := id st'
    exact ⟨u, rfl, go_of (s := { s with heap := h' }) e c d (by decide) ⟨x, H, I1, ru, ⟨rfl, fun ys hy => by rw [I.list_inj hy hq]; exact hx⟩, st', fun b hb => (hf b hb).1⟩⟩
  done := by
    intro X hP hw hK hc i pins s σ H E I hf st hg
    subst hP hw hK
    obtain ⟨xs, hq, hx⟩ := hg
    obtain ⟨its, rv, p, hz⟩ := I.list hq
    obtain ⟨f0, f1, f2, f3, f4, f5⟩ := hf it (by simp)
    have hl := rv.length
    exact wpAny_pyNext_list_end (I.ok.hd hc) st p.isList (by simp; omega) fun h' eb => ⟨rfl, I.turned (t' := s.toks) (fun b o hb e => eb b o hb e) f0 f1 f3 f4 f5⟩
  self := fun _ _ _ _ _ st h => wpAny_pyIter_listiter st h
theorem turn_tuple {P : Program} {w : World} {K : PySem.W.Frag} {tg : Expr} (a it : Addr) : Turn P w K tg (Itt K a) [it] it (fun i h => h.IsTupleIter it a i) where
  mem := by simp
  obj := fun i h st b hb => by
    have e : b = it := by simpa using hb
    subst e
    obtain ⟨o, e, c, d⟩ := st
    exact ⟨o, e, fun v z => by rw [d] at z; cases z⟩
  keep := fun i h h' st k => st.at fun o e => k it (by simp) o e
  item := by
    intro X hP hw hK hc i pins s σ H E I hf st hg
    subst hP hw hK
    obtain ⟨xs, x, hq, hx⟩ := hg
    obtain ⟨its, rv, p, hz⟩ := I.tuple hq
    obtain ⟨u, hu, ru⟩ := rv.get hx
    obtain ⟨f0, f1, f2, f3, f4, f5⟩ := hf it (by simp)
    refine wpAny_pyNext_tuple_item st (show s.heap.IsTuple a its.toArray from p) (x := u) (by simpa using hu) fun h' st' sb => ?_
    have I1 : Inv X pins σ H { s with heap := h' } := I.turned (t' := s.toks) (fun b o hb e => (sb.2 b hb).trans e) f0 f1 f3 f4 f5
    obtain ⟨o, e, c, d⟩ := id st'
    exact ⟨u, rfl, go_of (s := { s with heap := h' }) e c d (by decide) ⟨x, H, I1, ru, ⟨rfl, fun ys hy => by rw [I.tuple_inj hy hq]; exact hx⟩, st', fun b hb => (hf b hb).1⟩⟩
  done := by
    intro X hP hw hK hc i pins s σ H E I hf st hg
    subst hP hw hK
    obtain ⟨xs, hq, hx⟩ := hg
    obtain ⟨its, rv, p, hz⟩ := I.tuple hq
    obtain ⟨f0, f1, f2, f3, f4, f5⟩ := hf it (by simp)
    have hl := rv.length
    exact wpAny_pyNext_tuple_end (I.ok.hd hc) st (show s.heap.IsTuple a its.toArray from p) (by simp; omega) fun h' eb => ⟨rfl, I.turned (t' := s.toks) (fun b o hb e => eb b o hb e) f0 f1 f3 f4 f5⟩
  self := fun _ _ _ _ _ st h => wpAny_pyIter_tupleiter st h
theorem turn_range {P : Program} {w : World} {K : PySem.W.Frag} {tg : Expr} (it : Addr) (lo : Int) (n : Nat) : Turn P w K tg (Itr lo n) [it] it (fun i h => IsRangeIter h it (lo + (i : Nat) * 1) ((n : Int) - (i : Nat)) 1) where
  mem := by simp
  obj := fun i h st b hb => by
    have e : b = it := by simpa using hb
    subst e
    exact ⟨_, st, fun v z => by
      have z' : Data.fields _ = Data.cell v := z
      cases z'⟩
  keep := fun i h h' st k => k it (by simp) _ st
  item := by
    intro X hP hw hK hc i pins s σ H E I hf st hg
    subst hP hw hK
    obtain ⟨f0, f1, f2, f3, f4, f5⟩ := hf it (by simp)
    have W := Walks.range (prog := X.prog) (w := X.w) (I.ok.hd hc) it lo 1 n
    refine W.item i s _ _ hg st fun v h' tk hv st' kk => ?_
    obtain ⟨t, rfl⟩ := hv
    have I1 : Inv X pins σ H { s with heap := h', toks := tk } := I.turned (fun b o hb e => kk b o (by simpa using hb) e) f0 f1 f3 f4 f5
    refine ⟨_, rfl, go_of (s := { s with heap := h', toks := tk }) (n := "range_iterator") st' rfl rfl (by decide) ⟨.int (lo + i), H, I1, ⟨t, ?_⟩, ⟨rfl, rfl⟩, st', fun b hb => (hf b hb).1⟩⟩
    rw [Int.mul_one]
  done := by
    intro X hP hw hK hc i pins s σ H E I hf st hg
    subst hP hw hK
    obtain ⟨f0, f1, f2, f3, f4, f5⟩ := hf it (by simp)
    exact wpAny_pyNext_range_end (I.ok.hd hc) st (by have : n ≤ i := hg; omega) fun h' eb => ⟨rfl, I.turned (t' := s.toks) (fun b o hb e => eb b o hb e) f0 f1 f3 f4 f5⟩
  self := fun _ _ _ _ _ st h => wpAny_pyIter_rangeiter st h
end L2

namespace L2
open PySem PySem.Spec PyProof.Rows
section
variable {X : Cx} {tg : Expr}
theorem range_it {pins : List (Addr × Obj)} {σ : St} {H : Hp} {s : Shared} {R : It → Hp → Prop} {E : Value → Shared → Prop} {lo hi : Int} {t u v : Tok} {tk : Nat} (I : Inv X pins σ H s) (h1 : -(2 ^ 62) ≤ lo) (h2 : lo < 2 ^ 62) (h3 : -(2 ^ 62) ≤ hi) (h4 : hi < 2 ^ 62)
    (q : R (Itr lo (hi - lo).toNat) H) : wpAny (model X.prog X.w) X.A (pyIter (.ref s.heap.objs.size)) (PIE X pins σ tg R) E { s with heap := s.heap.push { cls := .type "range", data := .fields #[.int lo t, .int hi u, .int 1 v] }, toks := tk } := by
  refine wpAny_pyIter_range (IsRange.new ..) (small_one h1 h2 h3 h4) ?_
  have I1 : Inv X pins σ H { s with heap := s.heap.push { cls := .type "range", data := .fields #[.int lo t, .int hi u, .int 1 v] }, toks := tk } := I.kept fun b o e => Heap.get?_push_of_some _ e
  refine ⟨(s.heap.push { cls := .type "range", data := .fields #[.int lo t, .int hi u, .int 1 v] }).objs.size, [(s.heap.push { cls := .type "range", data := .fields #[.int lo t, .int hi u, .int 1 v] }).objs.size], _, _, H, rfl,
    I1.kept (t' := tk) fun b o e => Heap.get?_push_of_some _ e, turn_range _ lo (hi - lo).toNat, ?_, fun b hb => ?_, q⟩
  · have e1 : lo + ((0 : Nat) : Int) * 1 = lo := by simp
    have e2 : (((hi - lo).toNat : Nat) : Int) - ((0 : Nat) : Int) = Builtin.Range.rangeSize lo hi 1 := by rw [rangeSize_one]; split <;> omega
    show IsRangeIter _ _ (lo + ((0 : Nat) : Int) * 1) ((((hi - lo).toNat : Nat) : Int) - ((0 : Nat) : Int)) 1
    rw [e1, e2]
    exact Heap.get?_push_size _ rfl
  · have e : b = (s.heap.push { cls := .type "range", data := .fields #[.int lo t, .int hi u, .int 1 v] }).objs.size := by simpa using hb
    subst e
    exact I1.fpOk (Nat.le_refl _) (I1.hok.fresh (Nat.le_refl _))
def iRng1 (ta : TA) : TI := fun σ H R => ta σ H fun vs H1 => ∃ j : Int, vs = [.int j] ∧ -(2 ^ 62) ≤ j ∧ j < 2 ^ 62 ∧ R (Itr 0 j.toNat) H1
def iRng2 (ta : TA) : TI := fun σ H R => ta σ H fun vs H1 => ∃ i j : Int, vs = [.int i, .int j] ∧ (-(2 ^ 62) ≤ i ∧ i < 2 ^ 62 ∧ -(2 ^ 62) ≤ j ∧ j < 2 ^ 62) ∧ R (Itr i (j - i).toNat) H1
theorem pi_range1 {a : Expr} {ta : TA} {p pos : Pos} (hg : Gl X "range") (hm : X.mg "range" = none) (ha : PA X [a] ta) (hs : starEach [a] X.env = [(false, eval a X.env)] := by rfl) : PI X tg (.Call (.Name "range" p) [a] [] pos) (iRng1 ta) := by
  intro pins s σ H R I h
  refine Call_ (ld_blt I hg hm boot_range (PyProof.Rows.callWith_type1 (thn (ha pos pins s σ H _ I h) fun us s1 ⟨vs, H1, I1, r1, q1⟩ => ?_) hs rfl))
  obtain ⟨j, e, q1, q2, q⟩ := q1
  subst e
  cases r1 with
  | cons r rr =>
    cases rr
    obtain ⟨t, rfl⟩ := r
    exact call_range_1 (range_it I1 (by omega) (by omega) q1 q2 (by simpa using q))
theorem pi_range2 {a b : Expr} {ta : TA} {p pos : Pos} (hg : Gl X "range") (hm : X.mg "range" = none) (ha : PA X [a, b] ta) (hs : starEach [a, b] X.env = [(false, eval a X.env), (false, eval b X.env)] := by rfl) (hs2 : starEach [b] X.env = [(false, eval b X.env)] := by rfl) :
    PI X tg (.Call (.Name "range" p) [a, b] [] pos) (iRng2 ta) := by
  intro pins s σ H R I h
  refine Call_ (ld_blt I hg hm boot_range (PyProof.Rows.callWith_type1 (thn (ha pos pins s σ H _ I h) fun us s1 ⟨vs, H1, I1, r1, q1⟩ => ?_) (by rw [hs, hs2]) (by rw [hs2]; rfl)))
  obtain ⟨i, j, e, ⟨q1, q2, q3, q4⟩, q⟩ := q1
  subst e
  cases r1 with
  | cons r rr =>
    cases rr with
    | cons r' rr =>
      cases rr
      obtain ⟨t, rfl⟩ := r
      obtain ⟨t', rfl⟩ := r'
      exact call_range_2 (range_it I1 q1 q2 q3 q4 q)



def tFor (wi : TI) (g : TG) (tb : TS) : TS := fun D σ H => wi σ H fun J H1 => ∃ W : Nat → Nat → St → Hp → Prop, (∃ m, W 0 m σ H1) ∧ ∀ i m σ H, W i m σ H →
  (J.stop i H ∧ D.nx σ H) ∨ (J.go i H ∧ ∃ N : St → Hp → Prop, (∀ σ' H', N σ' H' → ∃ m', m' < m ∧ W (i + 1) m' σ' H') ∧ ∀ x H', J.yld i H x H' → g x σ H' fun σ2 H2 => tb { D with nx := N, ct := N, bk := D.nx } σ2 H2)

def pinsAt (fp : List Addr) (h : Heap) : List (Addr × Obj) := fp.filterMap fun b => (h.get? b).map fun o => (b, o)
theorem mem_pinsAt {fp : List Addr} {h : Heap} {b : Addr} {o : Obj} (hb : b ∈ fp) (e : h.get? b = some o) : (b, o) ∈ pinsAt fp h := List.mem_filterMap.mpr ⟨b, hb, by rw [e]; rfl⟩
theorem of_pinsAt {fp : List Addr} {h : Heap} {p : Addr × Obj} (hp : p ∈ pinsAt fp h) : p.1 ∈ fp ∧ h.get? p.1 = some p.2 := by
  obtain ⟨b, hb, e⟩ := List.mem_filterMap.mp hp
  cases q : h.get? b with
  | none => rw [q] at e; cases e
  | some o =>
    rw [q] at e
    have e' : (b, o) = p := Option.some.inj e
    subst e'
    exact ⟨hb, q⟩
theorem Inv.pinned {pins : List (Addr × Obj)} {σ : St} {H : Hp} {s : Shared} {fp : List Addr} (I : Inv X pins σ H s) (hf : ∀ b ∈ fp, FpOk X pins H b) (ho : ∀ b ∈ fp, ∃ o, s.heap.get? b = some o ∧ ∀ v, o.data ≠ .cell v) : Inv X (pins ++ pinsAt fp s.heap) σ H s :=
  I.pins_of fun p hp => (List.mem_append.mp hp).elim (fun z => I.pin p (List.mem_append_right _ z)) fun z => by
    obtain ⟨hb, e⟩ := of_pinsAt z
    obtain ⟨f0, f1, f2, _⟩ := hf p.1 hb
    obtain ⟨o, e', d⟩ := ho p.1 hb
    rw [e] at e'; cases e'
    exact ⟨e, f0, f1, f2, d⟩
theorem Inv.unpinned {pins pl : List (Addr × Obj)} {σ : St} {H : Hp} {s : Shared} (I : Inv X (pins ++ pl) σ H s) : Inv X pins σ H s := I.pins_of fun p hp => I.pin p (List.mem_append_right _ (List.mem_append_left _ hp))
theorem ps_for {iter : Expr} {body : List Stmt} {wi : TI} {g : TG} {tb : TS} {pos : Pos} (hp : PassesOwn (model X.prog X.w) X.A X.env X.xe) (hc : X.calm = true) (hi : PI X tg iter wi) (hg : PG X tg g) (hb : PSs X body tb)
    (hs : ∀ x, foldedSetIterable iter X.env x = pure x := by intro _; rfl) : PS X (.For tg iter body [] pos) (tFor wi g tb) := by
  intro pins s σ H D I h
  refine wpAny_For (thn (hi pins s σ H _ I h) fun v s1 h1 => thn h1 fun itv s2 h2 => ?_) hs
  obtain ⟨it, fp, tn, J, H2, e, I2, T, st2, f2, W, ⟨m0, w0⟩, turn⟩ := h2
  subst e
  -- what stays true of the iterator's objects through the loop
  have stat : ∀ {H' : Hp}, (∀ b ∈ fp, H' b = none) → ∀ b ∈ fp, FpOk X pins H' b := fun hn b hb => ⟨hn b hb, (f2 b hb).2⟩
  refine codeAny_forLoop_any (fun n s' => ∃ i σ' H', Inv X pins σ' H' s' ∧ tn i s'.heap ∧ (∀ b ∈ fp, H' b = none) ∧ W i n σ' H') ?_ m0 ⟨0, σ, H2, I2, st2, fun b hb => (f2 b hb).1, w0⟩
  rintro n s3 ⟨i, σ3, H3, I3, st3, fr3, w3⟩
  rcases turn i n σ3 H3 w3 with ⟨stop, qn⟩ | ⟨go, N, hN, step⟩
  · refine wpAny_passesOwn hp (thn (T.done X rfl rfl rfl hc i pins s3 σ3 H3 X.xe I3 (stat fr3) st3 stop) fun r s4 ⟨hr, I4⟩ => ?_)
    subst hr
    exact wpAny_execs_nil ⟨σ3, H3, I4, qn⟩
  · refine wpAny_passesOwn hp (thn (T.item X rfl rfl rfl hc i pins s3 σ3 H3 X.xe I3 (stat fr3) st3 go) fun r s4 ⟨u, hr, h4⟩ => ?_)
    subst hr
    refine wpAny_passesOwn hp (thn h4 fun _ s5 ⟨x, H5, I5, r5, y5, st5, fr5⟩ => ?_)
    have I5' := I5.pinned (stat fr5) (T.obj _ _ st5)
    refine wpAny_passesOwn hp (thn (hg _ s5 σ3 H5 x u _ I5' r5 (step x H5 y5)) fun _ s6 ⟨σ6, H6, I6, q6⟩ => ?_)
    refine wpAny_passesOwn hp (thn (hb _ s6 σ6 H6 _ I6 q6) fun f s7 q7 => ?_)
    have again : ∀ {σ7 : St} {H7 : Hp}, Inv X (pins ++ pinsAt fp s5.heap) σ7 H7 s7 → N σ7 H7 → ∃ m, m < n ∧ ∃ i σ' H', Inv X pins σ' H' s7 ∧ tn i s7.heap ∧ (∀ b ∈ fp, H' b = none) ∧ W i m σ' H' := fun {σ7 H7} I7 n7 => by
      obtain ⟨m', hm, w7⟩ := hN σ7 H7 n7
      refine ⟨m', hm, i + 1, σ7, H7, I7.unpinned, T.keep _ _ _ st5 fun b hb o e => (I7.pin (b, o) (List.mem_append_right _ (List.mem_append_right _ (mem_pinsAt hb e)))).1, fun b hb => ?_, w7⟩
      obtain ⟨o, e, d⟩ := T.obj _ _ st5 b hb
      exact (I7.pin (b, o) (List.mem_append_right _ (List.mem_append_right _ (mem_pinsAt hb e)))).2.1
    cases f with
    | next => obtain ⟨σ7, H7, I7, n7⟩ := q7; exact again I7 n7
    | cont => obtain ⟨σ7, H7, I7, n7⟩ := q7; exact again I7 n7
    | brk => obtain ⟨σ7, H7, I7, q7⟩ := q7; exact ⟨σ7, H7, I7.unpinned, q7⟩
    | ret v => obtain ⟨x7, σ7, H7, I7, r7, q7⟩ := q7; exact ⟨x7, σ7, H7, I7.unpinned, r7, q7⟩
end



end L2

namespace L2
open PySem PySem.Spec PyProof.Rows

abbrev R2 := V → V → Hp → VK → Prop

def OpR (X : Cx) (f : Value → Value → Sem Value) (r : R2) : Prop :=
  ∀ (pins : List (Addr × Obj)) (s : Shared) (σ : St) (H : Hp) (x y : V) (v u : Value) (Q : VK), Inv X pins σ H s → RelV x v → RelV y u → r x y H Q →
    wpAny (model X.prog X.w) X.A (f v u) (EP X pins σ Q) X.xe s

def UnR (X : Cx) (f : Value → Sem Value) (r : V → Hp → VK → Prop) : Prop :=
  ∀ (pins : List (Addr × Obj)) (s : Shared) (σ : St) (H : Hp) (x : V) (v : Value) (Q : VK), Inv X pins σ H s → RelV x v → r x H Q →
    wpAny (model X.prog X.w) X.A (f v) (EP X pins σ Q) X.xe s

def CallR (X : Cx) (f : Value) (r : List V → Hp → VK → Prop) : Prop :=
  ∀ (pins : List (Addr × Obj)) (s : Shared) (σ : St) (H : Hp) (xs : List V) (us : List Value) (Q : VK), Inv X pins σ H s → Vals xs us → r xs H Q →
    wpAny (model X.prog X.w) X.A (call f us) (EP X pins σ Q) X.xe s

def tOp (r : R2) (ta tb : TE) : TE := fun σ H Q => ta σ H fun x H1 => tb σ H1 fun y H2 => r x y H2 Q
def tUn (r : V → Hp → VK → Prop) (ta : TE) : TE := fun σ H Q => ta σ H fun x H1 => r x H1 Q

def rI (C : Int → Int → Prop) (g : Int → Int → V) : R2 := fun x y H Q => ∃ i j, x = .int i ∧ y = .int j ∧ C i j ∧ Q (g i j) H
def rI0 (g : Int → Int → V) : R2 := fun x y H Q => ∃ i j, x = .int i ∧ y = .int j ∧ Q (g i j) H
def rU (g : Int → V) : V → Hp → VK → Prop := fun x H Q => ∃ i, x = .int i ∧ Q (g i) H

section
variable {X : Cx} {a b c : Expr} {ta tb tc : TE} {pos : Pos}

theorem binT (ha : PE X a ta) (hb : PE X b tb) {pins : List (Addr × Obj)} {s : Shared} {σ : St} {H : Hp} {R : V → V → Hp → Prop} (I : Inv X pins σ H s)
    (h : ta σ H fun x H1 => tb σ H1 fun y H2 => R x y H2) {Q : Value → Shared → Prop} {f : Value → Value → Sem Value}
    (hf : ∀ v u s2 x y H2, Inv X pins σ H2 s2 → RelV x v → RelV y u → R x y H2 → wpAny (model X.prog X.w) X.A (f v u) Q X.xe s2) :
    wpAny (model X.prog X.w) X.A (eval a X.env) (fun v s₁ => wpAny (model X.prog X.w) X.A (eval b X.env) (fun u s₂ => wpAny (model X.prog X.w) X.A (f v u) Q X.xe s₂) X.xe s₁) X.xe s := by
  refine thn (ha pins s σ H _ I h) fun v s1 ⟨x, H1, I1, r1, q1⟩ => ?_
  refine thn (hb pins s1 σ H1 _ I1 q1) fun u s2 ⟨y, H2, I2, r2, q2⟩ => ?_
  exact hf v u s2 x y H2 I2 r1 r2 q2

theorem pe_op {op : Operator} {r : R2} (ho : OpR X (binaryOp op) r) (ha : PE X a ta) (hb : PE X b tb) : PE X (.BinOp a op b pos) (tOp r ta tb) := by
  intro pins s σ H Q I h
  exact wpAny_BinOp (binT ha hb I h fun v u s2 x y H2 I2 rx ry q => ho pins s2 σ H2 x y v u Q I2 rx ry q)
theorem pe_un {op : UnaryOp} {r : V → Hp → VK → Prop} (ho : UnR X (unaryOp op) r) (ha : PE X a ta) : PE X (.UnaryOp op a pos) (tUn r ta) := by
  intro pins s σ H Q I h
  exact UnaryOp_ (thn (ha pins s σ H _ I h) fun v s1 ⟨x, H1, I1, r1, q1⟩ => ho pins s1 σ H1 x v Q I1 r1 q1)

theorem opI {f : Value → Value → Sem Value} {C : Int → Int → Prop} {g : Int → Int → Int}
    (rule : ∀ (i j : Int) (t u : Tok) (s : Shared) (Q : Value → Shared → Prop) (E : Value → Shared → Prop), C i j → Q (.int (g i j) s.toks) { s with toks := s.toks + 1 } → wpAny (model X.prog X.w) X.A (f (.int i t) (.int j u)) Q E s) :
    OpR X f (rI C fun i j => .int (g i j)) := by
  intro pins s σ H x y v u Q I rx ry h
  obtain ⟨i, j, rfl, rfl, hc, q⟩ := h
  obtain ⟨t, rfl⟩ := rx
  obtain ⟨t', rfl⟩ := ry
  exact rule i j t t' s _ _ hc ⟨.int (g i j), H, I.tok _, ⟨_, rfl⟩, q⟩
theorem opI0 {f : Value → Value → Sem Value} {g : Int → Int → Int}
    (rule : ∀ (i j : Int) (t u : Tok) (s : Shared) (Q : Value → Shared → Prop) (E : Value → Shared → Prop), Q (.int (g i j) s.toks) { s with toks := s.toks + 1 } → wpAny (model X.prog X.w) X.A (f (.int i t) (.int j u)) Q E s) :
    OpR X f (rI0 fun i j => .int (g i j)) := by
  intro pins s σ H x y v u Q I rx ry h
  obtain ⟨i, j, rfl, rfl, q⟩ := h
  obtain ⟨t, rfl⟩ := rx
  obtain ⟨t', rfl⟩ := ry
  exact rule i j t t' s _ _ ⟨.int (g i j), H, I.tok _, ⟨_, rfl⟩, q⟩
theorem opB0 {f : Value → Value → Sem Value} {g : Int → Int → Bool}
    (rule : ∀ (i j : Int) (t u : Tok) (s : Shared) (Q : Value → Shared → Prop) (E : Value → Shared → Prop), Q (.bool (g i j)) s → wpAny (model X.prog X.w) X.A (f (.int i t) (.int j u)) Q E s) :
    OpR X f (rI0 fun i j => .bl (g i j)) := by
  intro pins s σ H x y v u Q I rx ry h
  obtain ⟨i, j, rfl, rfl, q⟩ := h
  obtain ⟨t, rfl⟩ := rx
  obtain ⟨t', rfl⟩ := ry
  exact rule i j t t' s _ _ ⟨.bl (g i j), H, I, rfl, q⟩

def CDiv (i j : Int) : Prop := 0 < j ∧ j < 1073741824
def CPow (i j : Int) : Prop := 0 ≤ j ∧ j ≤ 1000000 ∧ i.natAbs < 2 ^ 64
def CMul (i j : Int) : Prop := (-(2 ^ 64) < i ∧ i < 2 ^ 64) ∨ (-(2 ^ 64) < j ∧ j < 2 ^ 64)
theorem CMul.ok {i j : Int} (h : CMul i j) : IntMulOk i j := by
  rcases h with ⟨h1, h2⟩ | ⟨h1, h2⟩
  · exact .of_left (intBits_le_64 h1 h2)
  · exact .of_right (intBits_le_64 h1 h2)
theorem op_add : OpR X (binaryOp .Add) (rI0 fun i j => .int (i + j)) := opI0 fun _ _ _ _ _ _ _ q => add_int q
theorem op_sub : OpR X (binaryOp .Sub) (rI0 fun i j => .int (i - j)) := opI0 fun _ _ _ _ _ _ _ q => sub_int q
theorem op_mul : OpR X (binaryOp .Mult) (rI CMul fun i j => .int (i * j)) := opI fun _ _ _ _ _ _ _ hc q => mul_int q hc.ok

theorem op_fdiv : OpR X (binaryOp .FloorDiv) (rI CDiv fun i j => .int (i / j)) := opI fun i j _ _ _ _ _ hc q => by
  have h1 : (0 : Int) < j := hc.1
  have h2 : j < 1073741824 := hc.2
  exact floordiv_int (by omega) (by rw [Int.fdiv_eq_ediv_of_nonneg i (by omega)]; exact q) (.inl (PyProof.noPylong_small (by omega)))
theorem op_mod : OpR X (binaryOp .Mod) (rI (fun _ j => 0 < j) fun i j => .int (i % j)) := opI fun i j _ _ _ _ _ hc q => by
  have h1 : (0 : Int) < j := hc
  exact mod_int' (by omega) (by rw [Int.fmod_eq_emod_of_nonneg i (by omega)]; exact q)
theorem op_pow : OpR X (binaryOp .Pow) (rI CPow fun i j => .int (i ^ j.toNat)) := opI fun _ _ _ _ _ _ _ hc q => pow_int_small hc.1 hc.2.1 hc.2.2 q
theorem unI {f : Value → Sem Value} {g : Int → Int}
    (rule : ∀ (i : Int) (t : Tok) (s : Shared) (Q : Value → Shared → Prop) (E : Value → Shared → Prop), Q (.int (g i) s.toks) { s with toks := s.toks + 1 } → wpAny (model X.prog X.w) X.A (f (.int i t)) Q E s) :
    UnR X f (rU fun i => .int (g i)) := by
  intro pins s σ H x v Q I rx h
  obtain ⟨i, rfl, q⟩ := h
  obtain ⟨t, rfl⟩ := rx
  exact rule i t s _ _ ⟨.int (g i), H, I.tok _, ⟨_, rfl⟩, q⟩
theorem un_neg : UnR X (unaryOp .USub) (rU fun i => .int (-i)) := unI fun _ _ _ _ _ q => neg_int q
end



def scal : V → V → Bool
  | .non, .non => true | .non, .int _ => true | .int _, .non => true | .non, .bl _ => true | .bl _, .non => true | .non, .str _ => true | .str _, .non => true
  | .int _, .int _ => true | .bl _, .bl _ => true | .str _, .str _ => true | .byt _, .byt _ => true
  | .int _, .str _ => true | .str _, .int _ => true | .bl _, .str _ => true | .str _, .bl _ => true
  | _, _ => false
def rEq : R2 := fun x y H Q => scal x y = true ∧ Q (.bl (decide (x = y))) H
def rNe : R2 := fun x y H Q => scal x y = true ∧ Q (.bl (!decide (x = y))) H

theorem dec_int {i j : Int} : decide (V.int i = V.int j) = (i == j) := by
  rw [Bool.eq_iff_iff]
  simp
theorem dec_bl {i j : Bool} : decide (V.bl i = V.bl j) = (i == j) := by
  rw [Bool.eq_iff_iff]
  simp
theorem dec_str {i j : Str} : decide (V.str i = V.str j) = (i == j) := by
  rw [Bool.eq_iff_iff]
  simp
theorem dec_byt {i j : Array UInt8} : decide (V.byt i = V.byt j) = (i.toList == j.toList) := by
  rw [Bool.eq_iff_iff]
  cases i
  cases j
  simp

section
variable {X : Cx} {a b c : Expr} {ta tb tc : TE} {pos : Pos}
theorem fin_bl {pins : List (Addr × Obj)} {σ : St} {H : Hp} {s : Shared} {Q : VK} {k k' : Bool} (I : Inv X pins σ H s) (q : Q (.bl k) H) (e : k = k') : EP X pins σ Q (.bool k') s := by
  subst e
  exact ⟨.bl k, H, I, rfl, q⟩
theorem op_eq : OpR X (compareOp .Eq) rEq := by
  intro pins s σ H x y v u Q I rx ry h
  obtain ⟨hs, q⟩ := h
  cases x with
  | non =>
    cases rx
    cases y with
    | non => cases ry; exact PySem.EqNone.eq_none_none (fin_bl I q (by simp))
    | bl j => cases ry; exact PySem.EqNone.eq_none_bool (fin_bl I q (by simp))
    | int j => obtain ⟨t', rfl⟩ := ry; exact PySem.EqNone.eq_none_int (fin_bl I q (by simp))
    | str j => obtain ⟨t', rfl⟩ := ry; exact PySem.EqNone.eq_none_str (fin_bl I q (by simp))
    | _ => exact absurd (show false = true from hs) Bool.false_ne_true
  | bl i =>
    cases rx
    cases y with
    | non => cases ry; exact PySem.EqNone.eq_bool_none (fin_bl I q (by simp))
    | bl j => cases ry; exact eq_bool (fin_bl I q dec_bl)
    | str j => obtain ⟨t', rfl⟩ := ry; exact PySem.EqMixed.eq_bool_str (fin_bl I q (by simp))
    | _ => exact absurd (show false = true from hs) Bool.false_ne_true
  | int i =>
    obtain ⟨t, rfl⟩ := rx
    cases y with
    | non => cases ry; exact PySem.EqNone.eq_int_none (fin_bl I q (by simp))
    | int j => obtain ⟨t', rfl⟩ := ry; exact eq_int (fin_bl I q dec_int)
    | str j => obtain ⟨t', rfl⟩ := ry; exact PySem.EqMixed.eq_int_str (fin_bl I q (by simp))
    | _ => exact absurd (show false = true from hs) Bool.false_ne_true
  | str i =>
    obtain ⟨t, rfl⟩ := rx
    cases y with
    | non => cases ry; exact PySem.EqNone.eq_str_none (fin_bl I q (by simp))
    | bl j => cases ry; exact PySem.EqMixed.eq_str_bool (fin_bl I q (by simp))
    | int j => obtain ⟨t', rfl⟩ := ry; exact PySem.EqMixed.eq_str_int (fin_bl I q (by simp))
    | str j => obtain ⟨t', rfl⟩ := ry; exact eq_str (fin_bl I q dec_str)
    | _ => exact absurd (show false = true from hs) Bool.false_ne_true
  | byt i =>
    obtain ⟨t, rfl⟩ := rx
    cases y with
    | byt j => obtain ⟨t', rfl⟩ := ry; exact PySem.W.eq_bytes (fin_bl I q dec_byt)
    | _ => exact absurd (show false = true from hs) Bool.false_ne_true
  | _ => cases y <;> exact absurd (show false = true from hs) Bool.false_ne_true
theorem op_ne : OpR X (compareOp .NotEq) rNe := by
  intro pins s σ H x y v u Q I rx ry h
  obtain ⟨hs, q⟩ := h
  cases x with
  | non =>
    cases rx
    cases y with
    | non => cases ry; exact PySem.EqNone.ne_none_none (fin_bl I q (by simp))
    | bl j => cases ry; exact PySem.EqNone.ne_none_bool (fin_bl I q (by simp))
    | int j => obtain ⟨t', rfl⟩ := ry; exact PySem.EqNone.ne_none_int (fin_bl I q (by simp))
    | str j => obtain ⟨t', rfl⟩ := ry; exact PySem.EqNone.ne_none_str (fin_bl I q (by simp))
    | _ => exact absurd (show false = true from hs) Bool.false_ne_true
  | bl i =>
    cases rx
    cases y with
    | non => cases ry; exact PySem.EqNone.ne_bool_none (fin_bl I q (by simp))
    | bl j => cases ry; exact ne_bool (fin_bl I q (congrArg not dec_bl))
    | str j => obtain ⟨t', rfl⟩ := ry; exact PySem.EqMixed.ne_bool_str (fin_bl I q (by simp))
    | _ => exact absurd (show false = true from hs) Bool.false_ne_true
  | int i =>
    obtain ⟨t, rfl⟩ := rx
    cases y with
    | non => cases ry; exact PySem.EqNone.ne_int_none (fin_bl I q (by simp))
    | int j => obtain ⟨t', rfl⟩ := ry; exact ne_int (fin_bl I q (congrArg not dec_int))
    | str j => obtain ⟨t', rfl⟩ := ry; exact PySem.EqMixed.ne_int_str (fin_bl I q (by simp))
    | _ => exact absurd (show false = true from hs) Bool.false_ne_true
  | str i =>
    obtain ⟨t, rfl⟩ := rx
    cases y with
    | non => cases ry; exact PySem.EqNone.ne_str_none (fin_bl I q (by simp))
    | bl j => cases ry; exact PySem.EqMixed.ne_str_bool (fin_bl I q (by simp))
    | int j => obtain ⟨t', rfl⟩ := ry; exact PySem.EqMixed.ne_str_int (fin_bl I q (by simp))
    | str j => obtain ⟨t', rfl⟩ := ry; exact ne_str (fin_bl I q (congrArg not dec_str))
    | _ => exact absurd (show false = true from hs) Bool.false_ne_true
  | byt i =>
    obtain ⟨t, rfl⟩ := rx
    cases y with
    | byt j => obtain ⟨t', rfl⟩ := ry; exact PySem.W.ne_bytes (fin_bl I q (congrArg not dec_byt))
    | _ => exact absurd (show false = true from hs) Bool.false_ne_true
  | _ => cases y <;> exact absurd (show false = true from hs) Bool.false_ne_true

theorem op_lt : OpR X (compareOp .Lt) (rI0 fun i j => .bl (decide (i < j))) := opB0 fun _ _ _ _ _ _ _ q => lt_int q
theorem op_le : OpR X (compareOp .LtE) (rI0 fun i j => .bl (decide (i ≤ j))) := opB0 fun _ _ _ _ _ _ _ q => le_int q
theorem op_gt : OpR X (compareOp .Gt) (rI0 fun i j => .bl (decide (j < i))) := opB0 fun _ _ _ _ _ _ _ q => gt_int q
theorem op_ge : OpR X (compareOp .GtE) (rI0 fun i j => .bl (decide (j ≤ i))) := opB0 fun _ _ _ _ _ _ _ q => ge_int q
theorem OpR.or {f : Value → Value → Sem Value} {r r' : R2} (h : OpR X f r) (h' : OpR X f r') : OpR X f (fun x y H Q => r x y H Q ∨ r' x y H Q) := by
  intro pins s σ H x y v u Q I rx ry q
  rcases q with q | q
  · exact h pins s σ H x y v u Q I rx ry q
  · exact h' pins s σ H x y v u Q I rx ry q

theorem nomark (b : Expr) {op : CmpOp} (h : op ≠ .In := by decide) (h2 : op ≠ .NotIn := by decide) : behindInMarks op b = false := by
  have e1 : (op == CmpOp.In) = false := by cases op <;> first | rfl | exact absurd rfl h
  have e2 : (op == CmpOp.NotIn) = false := by cases op <;> first | rfl | exact absurd rfl h2
  cases b <;> simp [behindInMarks, e1, e2]

theorem pe_cmpR {op : CmpOp} {r : R2} (ho : OpR X (compareOp op) r) (ha : PE X a ta) (hb : PE X b tb) (hm : behindInMarks op b = false) : PE X (.Compare a [op] [b] pos) (tOp r ta tb) := by
  intro pins s σ H Q I h
  exact wpAny_Compare1 (binT ha hb I h fun v u s2 x y H2 I2 rx ry q => ho pins s2 σ H2 x y v u Q I2 rx ry q) hm

def tTest (t : TE) : TT := fun σ H Q => t σ H fun x H' => ∃ k, x = .bl k ∧ Q k H'
theorem pt_cmpR {op : CmpOp} {r : R2} (ho : OpR X (compareOp op) r) (ha : PE X a ta) (hb : PE X b tb) (hm : behindInMarks op b = false) : PT X (.Compare a [op] [b] pos) (tTest (tOp r ta tb)) := by
  intro pins s σ H Q I h
  refine wpAny_isTrue_Compare1 (thn (ha pins s σ H _ I h) fun v s1 ⟨x, H1, I1, r1, q1⟩ => thn (hb pins s1 σ H1 _ I1 q1) fun u s2 ⟨y, H2, I2, r2, q2⟩ =>
    thn (ho pins s2 σ H2 x y v u _ I2 r1 r2 q2) fun c s3 ⟨z, H3, I3, r3, k, e, q3⟩ => ?_) hm
  subst e
  cases r3
  exact wpAny_truthy_bool ⟨H3, I3, q3⟩

def tChain (r r' : R2) (ta tb tc : TE) : TE := fun σ H Q => ta σ H fun x H1 => tb σ H1 fun y H2 => r x y H2 fun z H3 => ∃ k, z = .bl k ∧
  (if k = true then tc σ H3 fun w' H4 => r' y w' H4 Q else Q (.bl false) H3)
theorem pe_chain {op op' : CmpOp} {r r' : R2} (ho : OpR X (compareOp op) r) (ho' : OpR X (compareOp op') r') (ha : PE X a ta) (hb : PE X b tb) (hc : PE X c tc)
    (hm : lastMarks [op, op'] [b, c] = false := by with_unfolding_all rfl) : PE X (.Compare a [op, op'] [b, c] pos) (tChain r r' ta tb tc) := by
  intro pins s σ H Q I h
  refine Compare_chain (thn (ha pins s σ H _ I h) fun v s1 ⟨x, H1, I1, r1, q1⟩ => chain_link (thn (hb pins s1 σ H1 _ I1 q1) fun u s2 ⟨y, H2, I2, r2, q2⟩ =>
    thn (ho pins s2 σ H2 x y v u _ I2 r1 r2 q2) fun d s3 ⟨z, H3, I3, r3, k, e, q3⟩ => ?_)) hm
  subst e
  cases r3
  refine wpAny_truthy_bool ?_
  cases k with
  | false => exact ite_ff ⟨.bl false, H3, I3, rfl, q3⟩
  | true => exact ite_tt (chain_last (thn (hc pins s3 σ H3 _ I3 q3) fun w' s4 ⟨z', H4, I4, r4, q4⟩ => ho' pins s4 σ H4 y z' u w' Q I4 r2 r4 q4))
theorem line63 : (sizeLine : Nat) < 2 ^ 63 := by rw [sizeLine_eq]; decide
theorem vals1 {x : V} {us : List Value} (r : Vals [x] us) : ∃ u, us = [u] ∧ RelV x u := by
  cases r with
  | cons r1 r2 => cases r2; exact ⟨_, rfl, r1⟩
theorem vals2 {x y : V} {us : List Value} (r : Vals [x, y] us) : ∃ u w', us = [u, w'] ∧ RelV x u ∧ RelV y w' := by
  cases r with
  | cons r1 r2 =>
    cases r2 with
    | cons r3 r4 => cases r4; exact ⟨_, _, rfl, r1, r3⟩
theorem call_max2 (hc : X.calm = true) : CallR X (.builtin "max") (fun xs H Q => ∃ i j, xs = [.int i, .int j] ∧ Q (.int (if j > i then j else i)) H) := by
  intro pins s σ H xs us Q I r h
  obtain ⟨i, j, rfl, q⟩ := h
  obtain ⟨u, w', rfl, ⟨t, rfl⟩, ⟨t', rfl⟩⟩ := vals2 r
  refine max_two_ints (I.ok.hd hc) fun h' tk k => ⟨_, H, I.kept k, ?_, q⟩
  by_cases hj : j > i
  · rw [if_pos hj, if_pos hj]; exact ⟨_, rfl⟩
  · rw [if_neg hj, if_neg hj]; exact ⟨_, rfl⟩
theorem call_min2 (hc : X.calm = true) : CallR X (.builtin "min") (fun xs H Q => ∃ i j, xs = [.int i, .int j] ∧ Q (.int (if j < i then j else i)) H) := by
  intro pins s σ H xs us Q I r h
  obtain ⟨i, j, rfl, q⟩ := h
  obtain ⟨u, w', rfl, ⟨t, rfl⟩, ⟨t', rfl⟩⟩ := vals2 r
  refine min_two_ints (I.ok.hd hc) fun h' tk k => ⟨_, H, I.kept k, ?_, q⟩
  by_cases hj : j < i
  · rw [if_pos hj, if_pos hj]; exact ⟨_, rfl⟩
  · rw [if_neg hj, if_neg hj]; exact ⟨_, rfl⟩
theorem call_int1 : CallR X (.type "int") (fun xs H Q => (∃ i, xs = [.int i] ∧ Q (.int i) H) ∨ ∃ k, xs = [.bl k] ∧ Q (.int (if k then 1 else 0)) H) := by
  intro pins s σ H xs us Q I r h
  rcases h with ⟨i, rfl, q⟩ | ⟨k, rfl, q⟩
  · obtain ⟨u, rfl, t, rfl⟩ := vals1 r
    exact call_int_int ⟨.int i, H, I, ⟨_, rfl⟩, q⟩
  · obtain ⟨u, rfl, r1⟩ := vals1 r
    cases r1
    exact call_int_bool ⟨.int (if k then 1 else 0), H, I.tok _, ⟨_, rfl⟩, q⟩
theorem call_divmod : CallR X (.builtin "divmod") (fun xs H Q => ∃ i j, xs = [.int i, .int j] ∧ CDiv i j ∧ ∀ p, H p = none → Q (.ref p) (upd H p (.tup [.int (i / j), .int (i % j)]))) := by
  intro pins s σ H xs us Q I r h
  obtain ⟨i, j, rfl, ⟨h1, h2⟩, q⟩ := h
  obtain ⟨u, w', rfl, ⟨t, rfl⟩, ⟨t', rfl⟩⟩ := vals2 r
  refine divmod_int (by omega) ?_ (.inl (PyProof.noPylong_small (by omega)))
  rw [Int.fdiv_eq_ediv_of_nonneg i (by omega), Int.fmod_eq_emod_of_nonneg i (by omega)]
  have hn : H s.heap.objs.size = none := I.hok.fresh (Nat.le_refl _)
  refine ⟨.ref s.heap.objs.size, _, ?_, rfl, q _ hn⟩
  refine I.laid (fun b o e => Heap.get?_push_of_some _ e) (Nat.le_refl _) ⟨by simp only [List.length_cons, List.length_nil]; rw [sizeLine_eq]; decide, nd_new, [.int (i / j) s.toks, .int (i % j) (s.toks + 1)], .cons ⟨_, rfl⟩ (.cons ⟨_, rfl⟩ .nil), ?_⟩
  exact ⟨_, Heap.get?_push_size s.heap rfl, rfl, 0, rfl⟩
end
end L2

namespace L2
open PySem PySem.Spec PyProof.Rows


structure ObjM (h : Heap) (x dx C : Addr) (mA : Str → Option Value) : Prop where
  obj : h.get? x = some (PySem.W.instObj C dx)
  ns : h.Ns1 dx mA
  ne : dx ≠ x

theorem lookIn_ns {h : Heap} {dx : Addr} {mA : Str → Option Value} (n : h.Ns1 dx mA) : ∃ od, h.get? dx = some od ∧ ∀ name, PySem.W.lookIn name od = some (mA name) := by
  obtain ⟨o, es, ep, ho, hd, hk, _, hm⟩ := n
  refine ⟨o, ho, fun name => ?_⟩
  have e := hm name
  unfold nsFind findBy at e
  rw [← Array.find?_toList] at e
  unfold PySem.W.lookIn
  rw [hd]
  dsimp only
  split
  · rename_i y q
    rw [q] at e
    exact congrArg some e
  · rename_i q
    rw [q] at e
    have a : es.toList.any (·.refKey) = false := by
      rw [List.any_eq_false]
      intro y hy
      obtain ⟨z, t, hkey⟩ := hk y (Array.mem_toList_iff.mp hy)
      simp [DictEntry.refKey, hkey]
    have a' : ¬ es.toList.any (·.refKey) = true := by rw [a]; exact Bool.false_ne_true
    rw [if_neg a']
    exact congrArg some e

theorem ObjM.look {h : Heap} {x dx C : Addr} {mA : Str → Option Value} (I : ObjM h x dx C mA) : ∃ od, PySem.W.InstAt h x (PySem.W.instObj C dx) C (some od) ∧ ∀ name, PySem.W.lookIn name od = some (mA name) :=
  let ⟨od, ho, hl⟩ := lookIn_ns I.ns
  ⟨od, ⟨I.obj, rfl, rfl, ho⟩, hl⟩

section
variable {prog : Program} {w : World} {A : Around} {E : Value → Shared → Prop} {s : Shared} {K : PySem.W.Frag} {x dx C f : Addr} {mA : Str → Option Value} {name : Str} {v : Value}

end




structure Cls (K : PySem.W.Frag) (C : Addr) : Prop where
  pg : PySem.W.plainGet K C Str.empty = true
  hd : PySem.W.hasDictIn K C = true
  po : PySem.W.plainOver K C = true
  sa : PySem.W.findIn K (.ref C) "__setattr__" = some (some (.builtin "object.__setattr__"))
theorem Cls.get {K : PySem.W.Frag} {C : Addr} (c : Cls K C) (f : Str) : PySem.W.plainGet K C f = true := c.pg

structure Con (K : PySem.W.Frag) (C : Addr) (f : Str) (v : V) (u : Value) : Prop where
  at_ : PySem.W.findIn K (.ref C) f = some (some u)
  rel : RelV v u
  get : PySem.W.specialIn K u "__get__" = some none
  cp : PySem.W.copiedNames.contains f = false

structure Meth (K : PySem.W.Frag) (C : Addr) (m : Str) (f : Addr) : Prop where
  at_ : PySem.W.findIn K (.ref C) m = some (some (.ref f))
  fn : PySem.W.isFn K (.ref f) = true
  kp : PySem.W.keepIn K (.ref f) = true

section
variable {X : Cx} {pins : List (Addr × Obj)} {σ : St} {H : Hp} {s : Shared} {a C dx : Addr} {fs : List (Str × V)} {f : Str} {v : V} {A : Around} {E : Value → Shared → Prop}

theorem Inv.made (I : Inv X pins σ H s) : Inv X pins σ (upd (upd H s.heap.objs.size (.own (s.heap.objs.size + 1))) (s.heap.objs.size + 1) (.ins C s.heap.objs.size []))
    { s with heap := (s.heap.push PySem.W.emptyDict).push (PySem.W.instObj C s.heap.objs.size) } := by
  have e1 : (s.heap.push PySem.W.emptyDict).get? s.heap.objs.size = some PySem.W.emptyDict := Heap.get?_push_size s.heap rfl
  have e2 : ((s.heap.push PySem.W.emptyDict).push (PySem.W.instObj C s.heap.objs.size)).get? (s.heap.objs.size + 1) = some (PySem.W.instObj C s.heap.objs.size) := by
    have := Heap.get?_push_size (s.heap.push PySem.W.emptyDict) (o := PySem.W.instObj C s.heap.objs.size) rfl
    rwa [Heap.size_push] at this
  have e3 : (s.heap.push PySem.W.emptyDict).Ns s.heap.objs.size (fun _ => none) := ⟨PySem.W.emptyDict, #[], _, e1, rfl, (fun e he => absurd he (by simp)), fun _ => rfl⟩
  have I1 := I.laid (a := s.heap.objs.size) (o := .own (s.heap.objs.size + 1)) (h' := s.heap.push PySem.W.emptyDict) (t' := s.toks) (fun b u q => Heap.get?_push_of_some _ q) (Nat.le_refl _) ⟨_, e1⟩
  refine I1.laid (a := s.heap.objs.size + 1) (o := .ins C s.heap.objs.size []) (t' := s.toks) (fun b u q => Heap.get?_push_of_some _ q) (Nat.le_of_eq (Heap.size_push _ _)) ?_
  have ne : s.heap.objs.size ≠ s.heap.objs.size + 1 := Nat.ne_of_lt (Nat.lt_succ_self _)
  refine ⟨by rw [upd_ne ne, upd_same], Nat.zero_le _, ne, e2, fun _ => none, (Heap.Ns1.of_empty e3).at fun o q => Heap.get?_push_of_some _ q, fun _ => True.intro, fun y hy => absurd rfl hy⟩


end





section
variable {X : Cx} {pins : List (Addr × Obj)} {σ : St} {H : Hp} {s : Shared} {A : Around} {E : Value → Shared → Prop} {Q : Value → Shared → Prop} {c : Value} {b : Bool}

inductive TyOf (K : PySem.W.Frag) (H : Hp) : V → Value → Prop where
  | non : TyOf K H .non (.type "NoneType")
  | bl (x : Bool) : TyOf K H (.bl x) (.type "bool")
  | int (i : Int) : TyOf K H (.int i) (.type "int")
  | str (x : Str) : TyOf K H (.str x) (.type "str")
  | flt (x : UInt64) : TyOf K H (.flt x) (.type "float")
  | lst {a : Addr} {xs : List V} (e : H a = some (.lst xs)) : TyOf K H (.ref a) (.type "list")
  | frz {a : Addr} {o : Obj} {xs : List V} (e : H a = some (.frz o (.lst xs))) : TyOf K H (.ref a) (.type "list")
  | tup {a : Addr} {xs : List V} (e : H a = some (.tup xs)) : TyOf K H (.ref a) (.type "tuple")
  | dK {a : Addr} {kvs : List (Key × V)} (e : H a = some (.dK kvs)) : TyOf K H (.ref a) (.type "dict")
  | dT {a : Addr} {kvs : List (List Key × V)} (e : H a = some (.dT kvs)) : TyOf K H (.ref a) (.type "dict")
  | ins {a C dx : Addr} {fs : List (Str × V)} (e : H a = some (.ins C dx fs)) (cl : Cls K C) (ha : PySem.W.findIn K (.ref C) "__class__" = some (some (.builtin "object.__class__")))
      (hn : PySem.W.specialIn K (.builtin "object.__class__") "__get__" = some (some (.builtin "getset_descriptor.__get__"))) (htk : PySem.W.takesIn K (.builtin "object.__class__") = some true)
      (hm : PySem.W.mroIn K C (.type "object") = some true) : TyOf K H (.ref a) (.ref C)

end
end L2

namespace L2
open PySem PySem.Spec PyProof.Rows


structure Room (k : Nat) (A : Around) : Prop where
  hd : A.handled = none
  dp : A.depth + 3 * k + 5 < recursionLimit
  un : A.units + 16 * k + 200 < cLine
  gd : A.guards = some []
theorem Room.mono {j k : Nat} {A : Around} (r : Room k A) (h : j ≤ k) : Room j A := ⟨r.hd, by have := r.dp; omega, by have := r.un; omega, r.gd⟩
theorem Room.deeper {k : Nat} {A : Around} (r : Room (k + 1) A) (env : Env) : Room k (A.deeper env) :=
  ⟨r.hd, by have := r.dp; show A.depth + 1 + 3 * k + 5 < _; omega, by have := r.un; show A.units + 3 + 16 * k + 200 < _; omega, r.gd⟩
theorem Room.in1 {k : Nat} {A : Around} (r : Room (k + 1) A) : Room k A.in1 :=
  ⟨r.hd, by have := r.dp; show A.depth + 3 * k + 5 < _; omega, by have := r.un; show A.units + 1 + 16 * k + 200 < _; omega, r.gd⟩
theorem Room.depth {k : Nat} {A : Around} (r : Room k A) : A.depth < recursionLimit := by have := r.dp; omega
theorem Room.units {k : Nat} {A : Around} (r : Room k A) : A.units + 64 < cLine := by have := r.un; omega
def tNil : TA := fun _ H Q => Q [] H
def tCons (ta : TE) (tr : TA) : TA := fun σ H Q => ta σ H fun x H1 => tr σ H1 fun xs H2 => Q (x :: xs) H2
section
variable {X : Cx} {e : Expr} {es : List Expr} {te : TE} {t : TA} {pos : Pos}
theorem pa_nil : PA X [] tNil := fun _ _ _ _ H Q I h => Calls.spliced_nil ⟨[], H, I, .nil, h⟩
theorem pa_cons (ha : PE X e te) (hr : PA X es t) (hs : starEach (e :: es) X.env = (false, eval e X.env) :: starEach es X.env := by rfl) : PA X (e :: es) (tCons te t) := by
  intro pos pins s σ H Q I h
  rw [hs]
  show wpAny _ _ (spliced ((false, eval e X.env) :: backTo pos (starEach es X.env))) _ _ s
  refine Calls.spliced_cons (thn (ha pins s σ H _ I h) fun u s1 ⟨x, H1, I1, r1, q1⟩ => ?_)
  exact thn (hr pos pins s1 σ H1 _ I1 q1) fun us s2 ⟨xs, H2, I2, r2, q2⟩ => ⟨x :: xs, H2, I2, .cons r1 r2, q2⟩


def tTup (t : TA) : TE := fun σ H Q => t σ H fun xs H1 => xs.length ≤ sizeLine ∧ ∀ p, H1 p = none → Q (.ref p) (upd H1 p (.tup xs))
def tLst (t : TA) : TE := fun σ H Q => t σ H fun xs H1 => xs.length ≤ sizeLine ∧ ∀ p, H1 p = none → Q (.ref p) (upd H1 p (.lst xs))
theorem pe_tup {x1} (h : PA X es t) : PE X (.Tuple es x1 pos) (tTup t) := by
  intro pins s σ H Q I hq
  refine wpAny_Tuple_spliced (thn (h pos pins s σ H _ I hq) fun us s1 ⟨xs, H1, I1, r, z, q⟩ => ⟨by rw [← r.length]; exact z, ?_⟩)
  have hf : H1 s1.heap.objs.size = none := I1.hok.fresh (Nat.le_refl _)
  refine ⟨.ref s1.heap.objs.size, upd H1 s1.heap.objs.size (.tup xs), I1.laid (t' := s1.toks) (fun b u e => Heap.get?_push_of_some _ e) (Nat.le_refl _) ?_, rfl, q _ hf⟩
  exact ⟨z, nd_new, us, r, ⟨_, Heap.get?_push_size _ rfl, rfl, _, rfl⟩⟩
theorem pe_lst (h : PA X es t) : PE X (.List es pos) (tLst t) := by
  intro pins s σ H Q I hq
  refine wpAny_List_spliced (thn (h pos pins s σ H _ I hq) fun us s1 ⟨xs, H1, I1, r, z, q⟩ => ⟨by rw [← r.length]; exact z, ?_⟩)
  have hf : H1 s1.heap.objs.size = none := I1.hok.fresh (Nat.le_refl _)
  refine ⟨.ref s1.heap.objs.size, upd H1 s1.heap.objs.size (.lst xs), I1.laid (t' := s1.toks) (fun b u e => Heap.get?_push_of_some _ e) (Nat.le_refl _) ?_, rfl, q _ hf⟩
  exact ⟨z, us, 0, r, Heap.get?_push_size _ rfl⟩
end



abbrev Sp := List V → Hp → VK → XK → Prop

abbrev CXT := List Env → Hp → Shared → XK → Value → Shared → Prop


structure Env0 (P : Program) (w : World) (K : PySem.W.Frag) (mg : Str → Option Value) (base : Heap) (A : Around) (outer : List Env) (s : Shared) (H : Hp) : Prop where
  frames : A.frames = some outer
  mod : Mod K mg base
  bs : ∀ b o, base.get? b = some o → s.heap.get? b = some o ∧ H b = none
  bsz : base.objs.size ≤ s.heap.objs.size
  funs : s.heap.FunFrames base outer
  frf : ∀ b ∈ frs outer, H b = none
  hok : HOk P w H s.heap
  bare : AllBare s.gens

def CE (outer : List Env) (P : Program) (w : World) (H : Hp) (s : Shared) (Q : VK) (u : Value) (s' : Shared) : Prop :=
  ∃ v H', s'.os = s.os ∧ AllBare s'.gens ∧ Un (frs outer) [] H H' s.heap s'.heap ∧ HOk P w H' s'.heap ∧ RelV v u ∧ Q v H'
def CR (CX : CXT) (outer : List Env) (P : Program) (w : World) (H : Hp) (s : Shared) (Q : VK) (E : XK) (r : Result) (s' : Shared) : Prop :=
  match r with
  | .ok (.ret u) => CE outer P w H s Q u s'
  | .ok _ => False
  | .error e => CX outer H s E e s'
structure FnOk (P : Program) (w : World) (K : PySem.W.Frag) (mg : Str → Option Value) (base : Heap) (CX : CXT) (k : Nat) (f : Addr) (fd : FuncData) (ps : List Str) (sp : Sp) : Prop where
  len : ∀ vs H Q E, sp vs H Q E → vs.length = ps.length
  run : ∀ (A : Around) (outer : List Env) (s : Shared) (H : Hp) (args : Args) (us : List Value) (vs : List V) (Q : VK) (E : XK), Room k A → Env0 P w K mg base A outer s H → BindsTo s fd args (ps.zip us) → Vals vs us → sp vs H Q E →
    codeAny (model P w) A (.call (.ref f) args) (CR CX outer P w H s Q E) s
theorem FnOk.mono {P : Program} {w : World} {K : PySem.W.Frag} {mg : Str → Option Value} {base : Heap} {CX : CXT} {j k : Nat} {f : Addr} {fd : FuncData} {ps : List Str} {sp : Sp} (F : FnOk P w K mg base CX j f fd ps sp) (h : j ≤ k) :
    FnOk P w K mg base CX k f fd ps sp := ⟨F.len, fun A outer s H args us vs Q E hr => F.run A outer s H args us vs Q E (hr.mono h)⟩

theorem FnOk.imp {P : Program} {w : World} {K : PySem.W.Frag} {mg : Str → Option Value} {base : Heap} {CX : CXT} {k : Nat} {f : Addr} {fd : FuncData} {ps : List Str} {sp sp' : Sp} (F : FnOk P w K mg base CX k f fd ps sp)
    (h : ∀ vs H Q E, sp' vs H Q E → sp vs H Q E) : FnOk P w K mg base CX k f fd ps sp' :=
  ⟨fun vs H Q E q => F.len vs H Q E (h _ _ _ _ q), fun A outer s H args us vs Q E hr he hb hv hs => F.run A outer s H args us vs Q E hr he hb hv (h _ _ _ _ hs)⟩

theorem Env0.in1 {P : Program} {w : World} {K : PySem.W.Frag} {mg : Str → Option Value} {base : Heap} {A : Around} {outer : List Env} {s : Shared} {H : Hp} (e : Env0 P w K mg base A outer s H) :
    Env0 P w K mg base A.in1 outer s H := ⟨e.frames, e.mod, e.bs, e.bsz, e.funs, e.frf, e.hok, e.bare⟩

section
variable {X : Cx} {pins : List (Addr × Obj)} {σ : St} {H : Hp} {s s' : Shared}

theorem Inv.env0 (I : Inv X pins σ H s) : Env0 X.prog X.w X.K X.mg X.base X.A X.stack s H :=
  ⟨I.ok.frames, I.ok.mod, I.bs, Nat.le_trans I.ok.bsz I.sz, I.stack, I.stkFree, I.hok, I.bare⟩

theorem Inv.after {Q : VK} {u : Value} (I : Inv X pins σ H s) (h : CE X.stack X.prog X.w H s Q u s') : EP X pins σ Q u s' := by
  obtain ⟨v, H', os, bare, un, hok, r, q⟩ := h
  obtain ⟨hh, g, d, t, os'⟩ := s'
  obtain rfl : os' = s.os := os
  exact ⟨v, H', I.call (h' := hh) (g' := g) (d' := d) (t' := t) (ch := []) un hok bare (fun b z => absurd z (by simp)), r, q⟩
end



def tCall (sp : Sp) (dvs : List V) (E : XK) (t : TA) : TE := fun σ H Q => t σ H fun vs H1 => sp (vs ++ dvs) H1 Q E

def Binds (K : PySem.W.Frag) (fd : FuncData) (ps : List Str) (ds : List Value) : Prop :=
  ∀ (s : Shared) (us : List Value), K.In s.heap → (us ++ ds).length = ps.length → BindsTo s fd ⟨us, []⟩ (ps.zip (us ++ ds))

theorem Binds.all {K : PySem.W.Frag} {fd : FuncData} {ps : List Str} (h : ∀ us : List Value, us.length = ps.length → bindArgs fd ⟨us, []⟩ = pure (ps.zip us)) : Binds K fd ps [] := fun s us _ hl => by
  rw [List.append_nil] at hl ⊢
  exact .of_eq (h us hl)


def Passes (CX : CXT) (X : Cx) (E : XK) : Prop := ∀ (pins : List (Addr × Obj)) (σ : St) (H : Hp) (s : Shared) (e : Value) (s' : Shared), Inv X pins σ H s → CX X.stack H s E e s' → X.xe e s'

section
variable {X : Cx} {CX : CXT} {k : Nat} {f C : Addr} {fd : FuncData} {ps : List Str} {sp : Sp} {dvs : List V} {ds : List Value} {E : XK} {x m : Str} {p pos apos : Pos} {e o : Expr} {es : List Expr} {ta : TE} {t : TA}


theorem run_fn {pins : List (Addr × Obj)} {σ : St} {H : Hp} {s : Shared} {Q : VK} {us : List Value} {vs : List V} (F : FnOk X.prog X.w X.K X.mg X.base CX k f fd ps sp) (hr : Room k X.A) (hb : Binds X.K fd ps ds) (hd : Vals dvs ds) (hx : Passes CX X E)
    (I : Inv X pins σ H s) (r : Vals vs us) (h : sp (vs ++ dvs) H Q E) : wpAny (model X.prog X.w) X.A (call (.ref f) us) (EP X pins σ Q) X.xe s := by
  have r2 : Vals (vs ++ dvs) (us ++ ds) := r.append hd
  have hl : (us ++ ds).length = ps.length := by rw [← r2.length]; exact F.len _ _ _ _ h
  refine wpAny_call (codeAny_mono (F.run X.A X.stack s H ⟨us, []⟩ (us ++ ds) (vs ++ dvs) Q E hr I.env0 (hb s us I.kIn hl) r2 h) fun r s' hq => ?_)
  cases r with
  | error e => exact hx pins σ H s e s' I hq
  | ok fl =>
    cases fl with
    | ret u => exact I.after hq
    | next => exact False.elim hq
    | brk => exact False.elim hq
    | cont => exact False.elim hq

theorem pe_call (F : FnOk X.prog X.w X.K X.mg X.base CX k f fd ps sp) (hr : Room k X.A) (hg : Gl X x) (hm : X.mg x = some (.ref f)) (hk : PySem.W.keepIn X.K (.ref f) = true) (hb : Binds X.K fd ps ds) (hd : Vals dvs ds) (hx : Passes CX X E)
    (ha : PA X (e :: es) t) (hdb : (x == ("__debug__" : Str)) = false := by decide) (he : starEach (e :: es) X.env = (false, eval e X.env) :: starEach es X.env := by rfl) (hpl : (backTo pos (starEach es X.env)).any (·.1) = false := by rfl) :
    PE X (.Call (.Name x p) (e :: es) [] pos) (tCall sp dvs E t) := by
  intro pins s σ H Q I h
  refine wpAny_Call_Name_kw (ld_glob I hg hm ?_ hdb)
  refine PySem.W.callWith_K (h₀ := X.base) I.ok.mod.kin hk (thn (ha pos pins s σ H _ I h) fun us s1 ⟨vs, H1, I1, r, q⟩ => ⟨I1.kIn, ?_⟩) he hpl
  exact run_fn F hr hb hd hx I1 r q
structure Mk (K : PySem.W.Frag) (C f : Addr) : Prop where
  makes : PySem.W.makesIn K C = true
  init : PySem.W.findIn K (.ref C) "__init__" = some (some (.ref f))
  fn : PySem.W.isFn K (.ref f) = true
  kp : PySem.W.keepIn K (.ref C) = true

end



def PK (X : Cx) (kws : List Keyword) (t : TA) : Prop :=
  ∀ (pos : Pos) (pins : List (Addr × Obj)) (s : Shared) (σ : St) (H : Hp) (Q : List V → Hp → Prop), Inv X pins σ H s → t σ H Q → wpAny (model X.prog X.w) X.A (evalAll ((backToKw pos (keywordEach kws X.env)).map (·.2))) (AP X pins σ Q) X.xe s
section
variable {X : Cx} {CX : CXT} {k : Nat} {f C : Addr} {fd : FuncData} {ps ks : List Str} {sp : Sp} {E : XK} {x m : Str} {p pos apos kpos : Pos} {e o : Expr} {es : List Expr} {kws : List Keyword} {te ta : TE} {t tk : TA} {nm : Option Str}
theorem pk_nil : PK X [] tNil := fun _ _ _ _ H Q I h => wpAny_evalAll_nil ⟨[], H, I, .nil, h⟩
theorem pk_cons (ha : PE X e te) (hr : PK X kws t) : PK X (⟨nm, e, kpos⟩ :: kws) (tCons te t) := by
  intro pos pins s σ H Q I h
  show wpAny _ _ (evalAll ((do let v ← eval e X.env; standAt pos; pure v) :: (backToKw pos (keywordEach kws X.env)).map (·.2))) _ _ s
  refine wpAny_evalAll_cons (wpAny_bind (thn (ha pins s σ H _ I h) fun u s1 ⟨x, H1, I1, r1, q1⟩ => wpAny_bind (wpAny_standAt (wpAny_pure ?_))))
  exact thn (hr pos pins s1 σ H1 _ I1 q1) fun us s2 ⟨xs, H2, I2, r2, q2⟩ => ⟨x :: xs, H2, I2, .cons r1 r2, q2⟩


structure KBinds (K : PySem.W.Frag) (fd : FuncData) (ps ks : List Str) (g : List Value → List Value → List Value) (gV : List V → List V → List V) : Prop where
  to : ∀ (s : Shared) (us ws : List Value), K.In s.heap → (g us ws).length = ps.length → BindsTo s fd ⟨us, ks.zip ws⟩ (ps.zip (g us ws))
  rel : ∀ {vs : List V} {us : List Value} {zs : List V} {ws : List Value}, Vals vs us → Vals zs ws → Vals (gV vs zs) (g us ws)
variable {g : List Value → List Value → List Value} {gV : List V → List V → List V}
end



structure FnScope (N P : List Str) (sc : Scope) : Prop where
  kind : sc.kind = .function
  co : sc.isCoroutine = false
  gen : sc.isGenerator = false
  nd : N.Nodup
  pre : N.take P.length = P
  par : ∀ x ∈ P, sc.names.lookup x = some .local ∨ sc.names.lookup x = some .cell
  nofree : ∀ y ∈ sc.names, y.2 ≠ .free

theorem bindL_out {kindOf : Str → Option NameKind} {x : Str} : ∀ {binds : List (Str × Value)} {m : Str → Option Value}, (∀ v, (x, v) ∉ binds) → bindL kindOf binds m x = m x
  | [], _, _ => rfl
  | (n, v) :: r, m, h => by
    unfold bindL
    rw [bindL_out fun w hw => h w (List.mem_cons_of_mem _ hw)]
    split
    · have : x ≠ n := by rintro rfl; exact h v List.mem_cons_self
      simp [this]
    · rfl
theorem bindC_out {kindOf : Str → Option NameKind} {x : Str} : ∀ {binds : List (Str × Value)} {m : Str → Option Value}, (∀ v, (x, v) ∉ binds) → bindC kindOf binds m x = m x
  | [], _, _ => rfl
  | (n, v) :: r, m, h => by
    unfold bindC
    rw [bindC_out fun w hw => h w (List.mem_cons_of_mem _ hw)]
    split
    · rfl
    · have : x ≠ n := by rintro rfl; exact h v List.mem_cons_self
      simp [this]
theorem bindL_get {kindOf : Str → Option NameKind} {x : Str} {v : Value} : ∀ {P : List Str} {vs : List Value} {i : Nat} {m : Str → Option Value}, P.Nodup → P[i]? = some x → vs[i]? = some v → kindOf x = some .local →
    bindL kindOf (P.zip vs) m x = some v
  | [], _, _, _, _, h, _, _ => by simp at h
  | _ :: _, [], _, _, _, _, h, _ => by simp at h
  | p :: P, w :: vs, 0, m, nd, h1, h2, hk => by
    simp at h1 h2; subst h1; subst h2
    show bindL kindOf ((p, w) :: P.zip vs) m p = _
    unfold bindL
    rw [bindL_out fun v hv => (List.nodup_cons.mp nd).1 (List.of_mem_zip hv).1, if_pos hk]
    simp
  | p :: P, w :: vs, i + 1, m, nd, h1, h2, hk => by
    show bindL kindOf ((p, w) :: P.zip vs) m x = _
    unfold bindL
    exact bindL_get (i := i) (List.nodup_cons.mp nd).2 (by simpa using h1) (by simpa using h2) hk
theorem bindC_get {kindOf : Str → Option NameKind} {x : Str} {v : Value} : ∀ {P : List Str} {vs : List Value} {i : Nat} {m : Str → Option Value}, P.Nodup → P[i]? = some x → vs[i]? = some v → kindOf x ≠ some .local →
    bindC kindOf (P.zip vs) m x = some v
  | [], _, _, _, _, h, _, _ => by simp at h
  | _ :: _, [], _, _, _, _, h, _ => by simp at h
  | p :: P, w :: vs, 0, m, nd, h1, h2, hk => by
    simp at h1 h2; subst h1; subst h2
    show bindC kindOf ((p, w) :: P.zip vs) m p = _
    unfold bindC
    rw [bindC_out fun v hv => (List.nodup_cons.mp nd).1 (List.of_mem_zip hv).1, if_neg hk]
    simp
  | p :: P, w :: vs, i + 1, m, nd, h1, h2, hk => by
    show bindC kindOf ((p, w) :: P.zip vs) m x = _
    unfold bindC
    exact bindC_get (i := i) (List.nodup_cons.mp nd).2 (by simpa using h1) (by simpa using h2) hk


def start (N : List Str) (vs : List V) : St := vs.map some ++ List.replicate (N.length - vs.length) none


def cxOf (CX : CXT) (P : Program) (w : World) (K : PySem.W.Frag) (mg : Str → Option Value) (base : Heap) (N : List Str) (qual : Str) (scope : Scope) (f : Addr) (cd : Value) (A : Around) (outer : List Env) (s : Shared) (H : Hp) (E : XK) : Cx where
  prog := P
  w := w
  K := K
  mg := mg
  base := base
  A := A.deeper (envOfC qual scope s.heap.objs.size f cd)
  N := N
  s_0 := s
  H_0 := H
  env := envOfC qual scope s.heap.objs.size f cd
  outer := outer
  stack := envOfC qual scope s.heap.objs.size f cd :: outer
  ex := []
  calm := true
  fn := fun _ => true
  pn := []
  xe := fun e s' => wpAny (model P w) (A.deeper (envOfC qual scope s.heap.objs.size f cd)) (leaving (envOfC qual scope s.heap.objs.size f cd) e) (fun _ s'' => CX outer H s E e s'') (fun e' s'' => CX outer H s E e' s'') s'

theorem cell_has {sc : Scope} {n : Nat} {x : Str} (h : sc.names.lookup x = some .cell) : ∃ c, (cellsFrom n sc.names []).lookup x = some c := by
  have q := PySem.W.cellsFrom_some sc.names n [] (.inl h)
  exact Option.isSome_iff_exists.mp q

theorem inv_start {CX : CXT} {P : Program} {w : World} {K : PySem.W.Frag} {mg : Str → Option Value} {base : Heap} {N ps : List Str} {qual : Str} {scope : Scope} {f : Addr} {cd : Value} {A : Around} {outer : List Env} {s s1 : Shared} {H : Hp} {E : XK} {us : List Value} {vs : List V}
    (S : FnScope N ps scope) (hd : A.handled = none) (e0 : Env0 P w K mg base A outer s H) (hl : vs.length = ps.length) (r : Vals vs us)
    (x : InCallC s s.heap.objs.size (bindL (envOfC qual scope s.heap.objs.size f cd).kindOf (ps.zip us) fun _ => none) (cellsFrom (s.heap.objs.size + 1) scope.names []) (bindC (envOfC qual scope s.heap.objs.size f cd).kindOf (ps.zip us) fun _ => none) s1) :
    Inv (cxOf CX P w K mg base N qual scope f cd A outer s H E) [] (start N vs) H s1 := by
  have hpl : ps.length ≤ N.length := by have := congrArg List.length S.pre; rw [List.length_take] at this; omega
  obtain ⟨h1, tk, rfl, hk⟩ := x.done
  have noA : ∀ b : Addr, b ∉ (cxOf CX P w K mg base N qual scope f cd A outer s H E).ex := fun b z => absurd (show b ∈ ([] : List Addr) from z) (by simp)
  refine ⟨⟨e0.mod, S.kind, rfl, rfl, Nat.le_refl _, fun y z c h1 h2 => ?_, fun y hy => ?_, fun y c _ h => ?_, fun _ => hd, Around.frames_deeper e0.frames, .inr ⟨rfl, rfl⟩, fun b z => absurd z (noA b), e0.bs, e0.bsz, fun b _ _ => noA b, fun b z => absurd z (noA b), e0.funs, e0.frf⟩,
    rfl, e0.bare, Un.kept hk, ⟨_, x.toInCall.ns, fun i y v h1 h2 h3 => ?_⟩, fun y c h => ⟨_, x.cell y c h⟩, e0.hok.fresh (Nat.le_refl _), fun y c h => ?_, fun p hp => absurd (show p ∈ ([] : List (Addr × Obj)) from hp) (by simp), e0.hok.kept hk, ?_⟩
  · exact name_of_addr x.apart (PySem.mem_of_lookup h1) (PySem.mem_of_lookup h2)
  · have hy : scope.names.lookup y = some .cell ∨ scope.names.lookup y = some .free := hy
    rcases hy with hy | hy
    · exact cell_has hy
    · exact absurd rfl (S.nofree _ (PySem.mem_of_lookup hy))
  · exact Nat.le_of_lt (x.above y c (PySem.mem_of_lookup h))
  · have hi : i < vs.length := by
      unfold start at h2
      by_cases hi : i < vs.length
      · exact hi
      · rw [List.getElem?_append_right (by simpa using hi)] at h2
        rw [List.getElem?_replicate] at h2
        split at h2 <;> cases h2
    have ha : vs[i]? = some v := by
      unfold start at h2
      rw [List.getElem?_append_left (by simpa using hi), List.getElem?_map] at h2
      cases e : vs[i]? with
      | none => rw [e] at h2; cases h2
      | some a => rw [e] at h2; cases h2; rfl
    obtain ⟨u, hu, rv⟩ := r.get ha
    have hp : ps[i]? = some y := by
      rw [← S.pre, List.getElem?_take_of_lt (by omega)]; exact h1
    have ndP : ps.Nodup := by rw [← S.pre]; exact S.nd.sublist (List.take_sublist _ _)
    refine ⟨u, rv, ?_⟩
    rcases S.par y (List.mem_of_getElem? hp) with k | k
    · exact .inl ⟨k, bindL_get ndP hp hu k⟩
    · obtain ⟨c, e⟩ := cell_has (n := s.heap.objs.size + 1) k
      refine .inr ⟨.inl k, c, e, ?_⟩
      have q := x.cell y c e
      rw [bindC_get ndP hp hu (by show scope.names.lookup y ≠ _; rw [k]; decide)] at q
      exact q
  · exact e0.hok.fresh (Nat.le_of_lt (x.above y c (PySem.mem_of_lookup h)))
  · unfold start
    show _ = N.length
    rw [List.length_append, List.length_map, List.length_replicate]
    omega


theorem fn_of {CX : CXT} {P : Program} {w : World} {K : PySem.W.Frag} {mg : Str → Option Value} {base : Heap} {k : Nat} {f : Addr} {name qual : Str} {params : Arguments} {body : List Stmt} {scope : Scope} {dV kV doc pm cdv ct oc : Value} {an od : Option Addr}
    {osl : Array (Option Value)} {N ps : List Str} {sp : Sp} (lk : K.lookup f = some ⟨oc, od, .func (PySem.W.fnOf name qual params body scope dV kV doc pm an cdv ct), osl⟩) (hcd : PySem.W.codeIn K cdv qual = true) (S : FnScope N ps scope)
    (len : ∀ vs H Q E, sp vs H Q E → vs.length = ps.length)
    (hbody : ∀ (A : Around) (outer : List Env) (s : Shared) (H : Hp) (vs : List V) (Q : VK) (E : XK), Room k (A.deeper (envOfC qual scope s.heap.objs.size f cdv)) → sp vs H Q E →
      ∃ t, PSs (cxOf CX P w K mg base N qual scope f cdv A outer s H E) body t ∧ t { nx := fun _ H' => Q .non H', rt := Q } (start N vs) H) :
    FnOk P w K mg base CX (k + 1) f (PySem.W.fnOf name qual params body scope dV kV doc pm an cdv ct) ps sp := by
  refine ⟨len, fun A outer s H args us vs Q E hr e0 hb r hsp => ?_⟩
  have hl := len _ _ _ _ hsp
  have KX : K.In s.heap := e0.mod.kin.keeps fun b o e => (e0.bs b o e).1
  have lim : s.heap.NoLimit := e0.mod.nolimit.keeps fun b o e => (e0.bs b o e).1
  have hkind : ∀ y ∈ ps.zip us, scope.names.lookup y.1 = some .local ∨ (scope.names.lookup y.1 = some .cell ∧ ((cellsFrom (s.heap.objs.size + 1) scope.names []).lookup y.1).isSome = true) := fun ⟨n, v⟩ hy => by
    rcases S.par n (List.of_mem_zip hy).1 with q | q
    · exact .inl q
    · exact .inr ⟨q, PySem.W.cellsFrom_some _ _ _ (.inl q)⟩
  refine codeAny_call_function hr.depth (KX _ _ lk) rfl S.co S.gen rfl (PySem.W.codeRec_of KX hcd) (hb _ _ _ _ ?_)
  refine wpAny_newFunctionEnv_cells S.kind hkind fun env he s1 x => ?_
  subst he
  refine ⟨lim.keeps x.toInCall.keep, codeAny_func ?_⟩
  obtain ⟨t, ht, hq⟩ := hbody A outer s H vs Q E (hr.deeper _) hsp
  have I : Inv (cxOf CX P w K mg base N qual scope f cdv A outer s H E) [] (start N vs) H s1 := inv_start S hr.hd e0 hl r x
  refine wpAny_mono (ht [] s1 (start N vs) H _ I hq) (fun fl s' hs => ?_) fun e s' hs => hs
  have fin : ∀ {σ' : St} {H' : Hp} {v : V} {u : Value}, Inv (cxOf CX P w K mg base N qual scope f cdv A outer s H E) [] σ' H' s' → RelV v u → Q v H' → CE outer P w H s Q u s' :=
    fun {σ' H' v u} J rv q => ⟨v, H', J.os, J.bare, J.base, J.hok, rv, q⟩
  cases fl with
  | ret u =>
    obtain ⟨v, σ', H', J, rv, q⟩ := hs
    exact fin J rv q
  | next =>
    obtain ⟨σ', H', J, q⟩ := hs
    exact fin (v := V.non) (u := Value.none) J rfl q
  | brk =>
    obtain ⟨_, _, _, q⟩ := hs
    exact False.elim q
  | cont =>
    obtain ⟨_, _, _, q⟩ := hs
    exact False.elim q
end L2

namespace L2
open PySem PySem.Spec PyProof.Rows
section
variable {X : Cx} {x : Str} {p pos : Pos} {e : Expr} {es : List Expr} {t : TA} {id T : String} {r : List V → Hp → VK → Prop}

def tCB (r : List V → Hp → VK → Prop) (t : TA) : TE := fun σ H Q => t σ H fun vs H1 => r vs H1 Q

theorem pe_callB (hc : CallR X (.builtin id) r) (hg : Gl X x) (hm : X.mg x = none) (hv : bootBuiltins x = some (.builtin id)) (ha : PA X (e :: es) t) (hn : x ≠ "__name__" := by decide) (hdb : (x == ("__debug__" : Str)) = false := by decide)
    (he : starEach (e :: es) X.env = (false, eval e X.env) :: starEach es X.env := by rfl) (hpl : (backTo pos (starEach es X.env)).any (·.1) = false := by rfl) : PE X (.Call (.Name x p) (e :: es) [] pos) (tCB r t) := by
  intro pins s σ H Q I h
  refine wpAny_Call_Name_kw (ld_blt I hg hm hv ?_ hn hdb)
  exact PyProof.Rows.callWith_builtin1 (thn (ha pos pins s σ H _ I h) fun us s1 ⟨vs, H1, I1, r1, q1⟩ => hc pins s1 σ H1 vs us Q I1 r1 q1) he hpl

theorem pe_callTy (hc : CallR X (.type T) r) (hg : Gl X x) (hm : X.mg x = none) (hv : bootBuiltins x = some (.type T)) (ha : PA X (e :: es) t) (hn : x ≠ "__name__" := by decide) (hdb : (x == ("__debug__" : Str)) = false := by decide)
    (he : starEach (e :: es) X.env = (false, eval e X.env) :: starEach es X.env := by rfl) (hpl : (backTo pos (starEach es X.env)).any (·.1) = false := by rfl) : PE X (.Call (.Name x p) (e :: es) [] pos) (tCB r t) := by
  intro pins s σ H Q I h
  refine wpAny_Call_Name_kw (ld_blt I hg hm hv ?_ hn hdb)
  exact PyProof.Rows.callWith_type1 (thn (ha pos pins s σ H _ I h) fun us s1 ⟨vs, H1, I1, r1, q1⟩ => hc pins s1 σ H1 vs us Q I1 r1 q1) he hpl

end
end L2

namespace HT
open PySem PyProof.Rows


def lexLt : List Int → List Int → Bool
  | [], [] => false
  | [], _ :: _ => true
  | _ :: _, [] => false
  | x :: xs, y :: ys => if x = y then lexLt xs ys else decide (x < y)
theorem lexLt_cons (x y : Int) (xs ys : List Int) : lexLt (x :: xs) (y :: ys) = if x = y then lexLt xs ys else decide (x < y) := rfl
theorem lexLt_nil_nil : lexLt [] [] = false := rfl
theorem lexLt_nil_cons (y : Int) (ys : List Int) : lexLt [] (y :: ys) = true := rfl
theorem lexLt_cons_nil (x : Int) (xs : List Int) : lexLt (x :: xs) [] = false := rfl

theorem rcLt_int (A : Around) (s : Shared) (a : Int) (t : Tok) (c : Int) (u : Tok) (prog : Program) (w : World) (E : Value → Shared → Prop) (Q : Value → Shared → Prop) (h : Q (.bool (decide (a < c))) s) :
    wpAny (model prog w) A (richCompare .Lt (.int a t) (.int c u)) Q E s :=
  (PyProof.Rows.lt_int h : wpAny (model prog w) A (compareOp .Lt (.int a t) (.int c u)) Q E s)

section
open PySem.SeqAt
open PySem.AutoSeq1 (wpAny_loadPart')
open PySem.MeetsSeq PySem.MeetsSeq2 PySem.MeetsSeq3

end

section
variable {prog : Program} {w : World} {A : Around} {E : Value → Shared → Prop} {s : Shared}

theorem cat_tup {t b : Addr} {vs ws : List Value} {Q : Value → Shared → Prop} (ht : IsTup s.heap t vs.toArray) (hb : IsTup s.heap b ws.toArray) (hv : vs ≠ [])
    (h1 : ws = [] → Q (.ref t) s) (h2 : ws ≠ [] → Q (.ref s.heap.objs.size) { s with heap := s.heap.push { cls := .type "tuple", data := .seq (vs ++ ws).toArray } })
    (hsz : vs.length + ws.length ≤ sizeLine) : wpAny (model prog w) A (binaryOp .Add (.ref t) (.ref b)) Q E s := by
  obtain ⟨⟨cls, dd, data, sl⟩, ho, hc, n, hd⟩ := id ht
  obtain ⟨⟨cls2, dd2, data2, sl2⟩, ho2, hc2, n2, hd2⟩ := id hb
  simp only at hc hd hc2 hd2
  subst hc hd hc2 hd2
  have e : vs.toArray ++ ws.toArray = (vs ++ ws).toArray := by simp
  by_cases hw : ws = []
  · exact concat_meets ⟨_, ho, rfl⟩ ⟨_, ho2, rfl⟩ noFill_tuple_add seq_tuple_add PySem.F.slot_tuple_add PySem.F.entry_tuple_add (PySem.F.args_tuple_add_2 _ _)
      (tuple_addW1 t b vs.toArray ws.toArray n n2 dd dd2 sl sl2 (by simpa using hv) (by simp [hw])) ⟨ho, ho2, h1 hw⟩
  · refine concat_meets ⟨_, ho, rfl⟩ ⟨_, ho2, rfl⟩ noFill_tuple_add seq_tuple_add PySem.F.slot_tuple_add PySem.F.entry_tuple_add (PySem.F.args_tuple_add_2 _ _)
      (tuple_addW2 t b vs.toArray ws.toArray n n2 dd dd2 sl sl2 (by simpa using hv) (by simpa using hw) (by rw [List.size_toArray, List.size_toArray]; exact hsz)) ⟨ho, ho2, ?_⟩
    rw [e]
    exact h2 hw



def sIx (n d : Nat) : Option Int → Nat
  | none => d
  | some v => if v < 0 then (v + (n : Int)).toNat else min v.toNat n
end
end HT

namespace L2
open PySem PySem.Spec PyProof.Rows


abbrev TO := St → Hp → (Option Int → Hp → Prop) → Prop

def PO (X : Cx) (e : Option Expr) (t : TO) : Prop :=
  ∀ (pins : List (Addr × Obj)) (s : Shared) (σ : St) (H : Hp) (Q : Option Int → Hp → Prop), Inv X pins σ H s → t σ H Q →
    wpAny (model X.prog X.w) X.A (evalPart e X.env) (fun u s' => ∃ o H', Inv X pins σ H' s' ∧ IsPart u o ∧ Q o H') X.xe s
def tPart (t : TE) : TO := fun σ H Q => t σ H fun x H1 => ∃ i, x = .int i ∧ Q (some i) H1

theorem intsAre_of {ns : List Int} : ∀ {us : List Value}, Vals (ns.map V.int) us → IntsAre us ns := by
  induction ns with
  | nil => intro us r; rw [List.map_nil] at r; cases r; exact .nil
  | cons n ns ih =>
    intro us r
    rw [List.map_cons] at r
    cases r with
    | cons r1 r2 =>
      obtain ⟨t, e⟩ := r1
      subst e
      exact .cons n t (ih r2)

section
variable {X : Cx} {e : Expr} {te : TE} {lo hi : Option Expr} {tl th : TO} {pos p2 : Pos}

theorem po_some (h : PE X e te) : PO X (some e) (tPart te) := by
  intro pins s σ H Q I hw
  rw [evalPart_some]
  refine thn (h pins s σ H _ I hw) fun u s1 ⟨x, H1, I1, r1, q1⟩ => ?_
  obtain ⟨i, rfl, q⟩ := q1
  obtain ⟨t, rfl⟩ := r1
  exact ⟨some i, H1, I1, .int i t, q⟩


def SlR (X : Cx) (r : V → Option Int → Option Int → Hp → VK → Prop) : Prop :=
  ∀ (pins : List (Addr × Obj)) (s : Shared) (σ : St) (H : Hp) (x : V) (v vl vu : Value) (lo hi : Option Int) (sl : Addr) (Q : VK), Inv X pins σ H s → RelV x v → s.heap.IsSliceOf sl vl vu .none → IsPart vl lo → IsPart vu hi → r x lo hi H Q →
    ∃ T id, typeLookup (.type T) "__getitem__" = pure (some (.builtin id)) ∧ s.TypeIs v T ∧ wpAny (model X.prog X.w) X.A (getItem v (.ref sl)) (EP X pins σ Q) X.xe s
theorem SlR.or {r r' : V → Option Int → Option Int → Hp → VK → Prop} (h : SlR X r) (h' : SlR X r') : SlR X (fun x lo hi H Q => r x lo hi H Q ∨ r' x lo hi H Q) := by
  intro pins s σ H x v vl vu lo hi sl Q I rx hs pl pu q
  rcases q with q | q
  · exact h pins s σ H x v vl vu lo hi sl Q I rx hs pl pu q
  · exact h' pins s σ H x v vl vu lo hi sl Q I rx hs pl pu q
def tSl (r : V → Option Int → Option Int → Hp → VK → Prop) (te : TE) (tl th : TO) : TE := fun σ H Q => te σ H fun x H1 => tl σ H1 fun l H2 => th σ H2 fun u H3 => r x l u H3 Q

theorem pe_slice {r : V → Option Int → Option Int → Hp → VK → Prop} (hr : SlR X r) (he : PE X e te) (hl : PO X lo tl) (hu : PO X hi th) : PE X (.Subscript e (.Slice lo hi none p2) pos) (tSl r te tl th) := by
  intro pins s σ H Q I h
  refine Subscript_ (thn (he pins s σ H _ I h) fun v s1 ⟨x, H1, I1, r1, q1⟩ => ?_)
  refine wpAny_Slice (thn (hl pins s1 σ H1 _ I1 q1) fun vl s2 ⟨l, H2, I2, pl, q2⟩ => thn (hu pins s2 σ H2 _ I2 q2) fun vu s3 ⟨u, H3, I3, pu, q3⟩ => ?_)
  rw [evalPart_none]
  refine wpAny_pure ?_
  have I4 : Inv X pins σ H3 { s3 with heap := s3.heap.push { cls := .type "slice", data := .fields #[vl, vu, .none] } } := I3.kept (t' := s3.toks) fun b ob q => Heap.get?_push_of_some _ q
  obtain ⟨T, id, hT, ht, hg⟩ := hr pins { s3 with heap := s3.heap.push { cls := .type "slice", data := .fields #[vl, vu, .none] } } σ H3 x v vl vu l u s3.heap.objs.size Q I4 r1 (Heap.IsSliceOf.new ..) pl pu q3
  show wpAny (model X.prog X.w) X.A (subscriptTail e (.Slice lo hi none p2) v (.ref s3.heap.objs.size)) (EP X pins σ Q) X.xe { s3 with heap := s3.heap.push { cls := .type "slice", data := .fields #[vl, vu, .none] } }
  exact tail_any (ops := [.ref s3.heap.objs.size, v]) ht hT hg (by with_unfolding_all rfl)


def cutV (xs : List V) (lo hi : Option Int) : List V := (xs.drop (HT.sIx xs.length 0 lo)).take (HT.sIx xs.length xs.length hi - HT.sIx xs.length 0 lo)
theorem cutV_length (xs : List V) (lo hi : Option Int) : (cutV xs lo hi).length ≤ xs.length := by
  unfold cutV
  rw [List.length_take, List.length_drop]
  omega

end
end L2

namespace L2
open PySem PySem.Spec PyProof.Rows



def ixN (n : Nat) (i : Int) : Option Nat := if 0 ≤ i then (if i < n then some i.toNat else none) else if -(n : Int) ≤ i then some (i + n).toNat else none
def atI {α : Type} (xs : List α) (i : Int) : Option α := (ixN xs.length i).bind fun j => xs[j]?
theorem ixN_seq {n : Nat} {i : Int} {j : Nat} (h : ixN n i = some j) : seqIndex? i n = some j ∧ j < n ∧ -(n : Int) ≤ i ∧ i < n := by
  unfold ixN at h
  by_cases h0 : 0 ≤ i
  · rw [if_pos h0] at h
    by_cases h1 : i < n
    · rw [if_pos h1] at h
      have e : i.toNat = j := Option.some.inj h
      exact ⟨by rw [seqIndex_of h0 h1, e], by omega, by omega, h1⟩
    · rw [if_neg h1] at h; cases h
  · rw [if_neg h0] at h
    by_cases h1 : -(n : Int) ≤ i
    · rw [if_pos h1] at h
      have e : (i + n).toNat = j := Option.some.inj h
      exact ⟨by rw [seqIndex_neg (by omega) h1, e], by omega, h1, by omega⟩
    · rw [if_neg h1] at h; cases h
theorem atI_get {α : Type} {xs : List α} {i : Int} {v : α} (h : atI xs i = some v) : ∃ j, seqIndex? i xs.length = some j ∧ xs[j]? = some v ∧ j < xs.length ∧ -(xs.length : Int) ≤ i ∧ i < xs.length := by
  unfold atI at h
  cases e : ixN xs.length i with
  | none => rw [e] at h; cases h
  | some j =>
    rw [e] at h
    obtain ⟨h1, h2, h3, h4⟩ := ixN_seq e
    exact ⟨j, h1, h, h2, h3, h4⟩
theorem atI_nat {α : Type} {xs : List α} {j : Nat} {v : α} (h : xs[j]? = some v) : atI xs (j : Int) = some v := by
  have hj : j < xs.length := (List.getElem?_eq_some_iff.mp h).1
  have e : ixN xs.length (j : Int) = some j := by
    unfold ixN
    rw [if_pos (by omega), if_pos (by omega)]; simp
  unfold atI; rw [e]; exact h
def PlainIx (b : Expr) : Prop := ∀ o i, subscripted b false o i = operate [o, i] (getItem o i)

def IxR (X : Cx) (r : R2) : Prop :=
  ∀ (value slice : Expr) (pins : List (Addr × Obj)) (s : Shared) (σ : St) (H : Hp) (x y : V) (v u : Value) (Q : VK), Inv X pins σ H s → RelV x v → RelV y u → r x y H Q →
    subscripted slice false v u = operate [v, u] (getItem v u) → wpAny (model X.prog X.w) X.A (subscriptTail value slice v u) (EP X pins σ Q) X.xe s

def MtR (X : Cx) (id : String) (r : V → List V → Hp → VK → Prop) : Prop :=
  ∀ (pins : List (Addr × Obj)) (s : Shared) (σ : St) (H : Hp) (x : V) (xs : List V) (v : Value) (us : List Value) (Q : VK), Inv X pins σ H s → RelV x v → Vals xs us → r x xs H Q →
    wpAny (model X.prog X.w) X.A (call (.builtin id) (v :: us)) (EP X pins σ Q) X.xe s
section
variable {X : Cx} {a b : Expr} {ta tb : TE} {pos : Pos}
theorem IxR.or {r r' : R2} (h : IxR X r) (h' : IxR X r') : IxR X (fun x y H Q => r x y H Q ∨ r' x y H Q) := by
  intro value slice pins s σ H x y v u Q I rx ry q hs
  rcases q with q | q
  · exact h value slice pins s σ H x y v u Q I rx ry q hs
  · exact h' value slice pins s σ H x y v u Q I rx ry q hs
theorem MtR.or {id : String} {r r' : V → List V → Hp → VK → Prop} (h : MtR X id r) (h' : MtR X id r') : MtR X id (fun x xs H Q => r x xs H Q ∨ r' x xs H Q) := by
  intro pins s σ H x xs v us Q I rx rs q
  rcases q with q | q
  · exact h pins s σ H x xs v us Q I rx rs q
  · exact h' pins s σ H x xs v us Q I rx rs q

theorem pe_ix {r : R2} (hr : IxR X r) (ha : PE X a ta) (hb : PE X b tb) (hs : PlainIx b) : PE X (.Subscript a b pos) (tOp r ta tb) := by
  intro pins s σ H Q I h
  exact Subscript_ (binT ha hb I h fun v u s2 x y H2 I2 rx ry q => hr a b pins s2 σ H2 x y v u Q I2 rx ry q (hs _ _))

def rIxL (K : PySem.W.Frag) : R2 := fun x y H Q => ∃ p xs i v, x = .ref p ∧ y = .int i ∧ SqL K H p xs ∧ atI xs i = some v ∧ Q v H
def rIxT (K : PySem.W.Frag) : R2 := fun x y H Q => ∃ p xs i v, x = .ref p ∧ y = .int i ∧ SqT K H p xs ∧ atI xs i = some v ∧ Q v H
def rIxS : R2 := fun x y H Q => ∃ z i c, x = .str z ∧ y = .int i ∧ z.length ≤ sizeLine ∧ atI z.cps.toList i = some c ∧ Q (.str ⟨#[c]⟩) H
theorem ix_list : IxR X (rIxL X.K) := by
  intro value slice pins s σ H x y v u Q I rx ry h hs
  obtain ⟨p, xs, i, z, rfl, rfl, hq, he, q⟩ := h
  cases rx
  obtain ⟨t, rfl⟩ := ry
  obtain ⟨its, r, pl, hz⟩ := I.list hq
  obtain ⟨j, h1, h2, h3, h4, h5⟩ := atI_get he
  obtain ⟨w, ew, rw'⟩ := r.get h2
  have hl := r.length
  have hn := line63
  have fin : EP X pins σ Q w s := ⟨z, H, I, rw', q⟩
  by_cases h0 : 0 ≤ i
  · have hj : i.toNat = j := by
      rw [seqIndex_of h0 h5] at h1
      exact Option.some.inj h1
    exact item_listR pl.isList h0 (by omega) (by rw [hj]; simpa using ew) fin hs
  · have hj : (i + (its.toArray.size : Int)).toNat = j := by
      rw [seqIndex_neg (by omega) h4] at h1
      rw [List.size_toArray, ← hl]
      exact Option.some.inj h1
    exact subscriptTail_builtinR (x := w) pl.isList.typeIs slot_list_getitem.lookup
      (wpAny_getItem_list_neg (Q := fun r s' => r = w ∧ EP X pins σ Q r s') pl.isList (by omega) (by rw [List.size_toArray] <;> omega) (by omega) (by rw [hj]; simpa using ew) ⟨rfl, fin⟩) hs
theorem ix_tup : IxR X (rIxT X.K) := by
  intro value slice pins s σ H x y v u Q I rx ry h hs
  obtain ⟨p, xs, i, z, rfl, rfl, hq, he, q⟩ := h
  cases rx
  obtain ⟨t, rfl⟩ := ry
  obtain ⟨its, r, pl, hz⟩ := I.tuple hq
  obtain ⟨j, h1, h2, h3, h4, h5⟩ := atI_get he
  obtain ⟨w, ew, rw'⟩ := r.get h2
  have hl := r.length
  have hn := line63
  have fin : EP X pins σ Q w s := ⟨z, H, I, rw', q⟩
  exact subscriptTail_builtinR (x := w) pl.typeIs slot_tuple_getitem.lookup
    (getItem_tuple (j := j) (Q := fun r s' => r = w ∧ EP X pins σ Q r s') pl (by omega) (by omega) (by rw [List.size_toArray, ← hl]; exact h1) (by simpa using ew) ⟨rfl, fin⟩) hs
theorem ix_str : IxR X rIxS := by
  intro value slice pins s σ H x y v u Q I rx ry h hs
  obtain ⟨z, i, c, rfl, rfl, hz, he, q⟩ := h
  obtain ⟨t, rfl⟩ := rx
  obtain ⟨t', rfl⟩ := ry
  obtain ⟨j, h1, h2, h3, h4, h5⟩ := atI_get he
  have hl : z.cps.toList.length = z.length := by simp [Str.length]
  rw [hl] at h1 h4 h5
  have hn := line63
  exact tail_any (typeIs_str s z t) slot_str_getitem.lookup (getItem_str (c := c) (by
    have e1 : decide (i < -(2 ^ 63 : Int)) = false := decide_eq_false (by omega)
    have e2 : decide (i ≥ 2 ^ 63) = false := decide_eq_false (by omega)
    rw [e1, e2, Bool.or_false]) (by rw [h1]; simpa using h2) ⟨.str ⟨#[c]⟩, H, I.tok _, ⟨_, rfl⟩, q⟩) hs

def rIx (K : PySem.W.Frag) : R2 := fun x y H Q => rIxL K x y H Q ∨ rIxT K x y H Q ∨ rIxS x y H Q
theorem ix_seq : IxR X (rIx X.K) := ix_list.or (ix_tup.or ix_str)



theorem mapSeq_set (its : List Value) (n j : Nat) (u : Value) : Obj.mapSeq (·.setIfInBounds j u) { cls := .type "list", data := .seq its.toArray n } = { cls := .type "list", data := .seq (its.set j u).toArray n } := by
  simp [Obj.mapSeq]
theorem Inv.lst {pins : List (Addr × Obj)} {σ : St} {H : Hp} {s : Shared} {p : Addr} {xs : List V} (I : Inv X pins σ H s) (h : H p = some (.lst xs)) :
    ∃ (its : List Value) (n : Nat), Vals xs its ∧ s.heap.get? p = some { cls := .type "list", data := .seq its.toArray n } ∧ xs.length ≤ sizeLine := by
  obtain ⟨z, its, n, r, e⟩ := I.hok p _ h
  exact ⟨its, n, r, e, z⟩

theorem Inv.lstUpd {pins : List (Addr × Obj)} {σ : St} {H : Hp} {s : Shared} {p : Addr} {xs ys : List V} {its its' : List Value} {n n' : Nat} {f : Obj → Obj} (I : Inv X pins σ H s) (h : H p = some (.lst xs))
    (ho : s.heap.get? p = some { cls := .type "list", data := .seq its.toArray n }) (hf : f { cls := .type "list", data := .seq its.toArray n } = { cls := .type "list", data := .seq its'.toArray n' }) (r : Vals ys its') (hz : ys.length ≤ sizeLine) (t : Nat) :
    Inv X pins σ (upd H p (.lst ys)) { s with heap := s.heap.update p f, toks := t } := by
  have e : (s.heap.update p f).get? p = some { cls := .type "list", data := .seq its'.toArray n' } := by
    rw [Heap.get?_update_self f ho (by rw [hf] <;> rfl), hf]
  refine I.write (x := p) (e := p) (by rw [h]; trivial) (.inl rfl) (fun b u hb q => (Heap.get?_update_other _ _ (Ne.symm hb)).trans q) ⟨_, e⟩ ?_
  exact ⟨hz, its', n', r, e⟩
def rSetL : V → V → V → Hp → (Hp → Prop) → Prop := fun o i v H Q => ∃ p xs k j, o = .ref p ∧ i = .int k ∧ H p = some (.lst xs) ∧ ixN xs.length k = some j ∧ Q (upd H p (.lst (xs.set j v)))
theorem set_list : PSet X rSetL := by
  intro pins s σ H o i v ov iv u Q I ro ri rv h
  obtain ⟨p, xs, k, j, rfl, rfl, hp, hj, q⟩ := h
  cases ro
  obtain ⟨t, rfl⟩ := ri
  obtain ⟨its, n, r, ho, hz⟩ := I.lst hp
  obtain ⟨h1, h2, h3, h4⟩ := ixN_seq hj
  have hl := r.length
  have hn := line63
  have I' : Inv X pins σ (upd H p (.lst (xs.set j v))) { s with heap := s.heap.update p (Obj.mapSeq (·.setIfInBounds j u)) } :=
    I.lstUpd hp ho (mapSeq_set its n j u) (r.set rv j) (by rw [List.length_set]; exact hz) s.toks
  by_cases h0 : 0 ≤ k
  · have hk : k.toNat = j := by
      rw [seqIndex_of h0 h4] at h1
      exact Option.some.inj h1
    exact PySem.W.ki_setAt ho h0 (by omega) (by rw [List.size_toArray, ← hl]; exact h4) (by rw [hk]; exact ⟨_, I', q⟩)
  · have hk : (k + (its.toArray.size : Int)).toNat = j := by
      rw [seqIndex_neg (by omega) h3] at h1
      rw [List.size_toArray, ← hl]
      exact Option.some.inj h1
    exact PySem.W.ki_setBack ho (by omega) (by rw [List.size_toArray, ← hl]; exact h3) (by omega) (by rw [hk]; exact ⟨_, I', q⟩)


theorem slice_bounds (lo hi : Option Int) (n : Nat) : (sliceBounds lo hi none n).1 = ((HT.sIx n 0 lo : Nat) : Int) ∧ (sliceBounds lo hi none n).2.1 = ((HT.sIx n n hi : Nat) : Int) ∧ (sliceBounds lo hi none n).2.2 = 1 := by
  refine ⟨?_, ?_, rfl⟩
  · cases lo with
    | none => simp [sliceBounds, HT.sIx]
    | some i =>
      simp only [sliceBounds, HT.sIx, Option.getD_none, show (1 : Int) > 0 by decide, if_true]
      by_cases h : i < 0
      · simp only [h, if_true] <;> omega
      · simp only [h, if_false] <;> omega
  · cases hi with
    | none => simp [sliceBounds, HT.sIx]
    | some i =>
      simp only [sliceBounds, HT.sIx, Option.getD_none, show (1 : Int) > 0 by decide, if_true]
      by_cases h : i < 0
      · simp only [h, if_true] <;> omega
      · simp only [h, if_false] <;> omega
theorem slicePick_cut (its : List Value) (lo hi : Option Int) : slicePick its.toArray lo hi none = ((its.drop (HT.sIx its.length 0 lo)).take (HT.sIx its.length its.length hi - HT.sIx its.length 0 lo)).toArray := by
  obtain ⟨h1, h2, h3⟩ := slice_bounds lo hi its.toArray.size
  unfold slicePick
  rw [h1, h2, h3]
  simp only [sliceRange_one, pick_run, List.size_toArray] <;> rfl

def rSlL (K : PySem.W.Frag) : V → Option Int → Option Int → Hp → VK → Prop := fun x lo hi H Q => ∃ a xs, x = .ref a ∧ SqL K H a xs ∧ ∀ p, H p = none → Q (.ref p) (upd H p (.lst (cutV xs lo hi)))
theorem sl_list : SlR X (rSlL X.K) := by
  intro pins s σ H x v vl vu lo hi sl Q I rx hs pl pu h
  obtain ⟨a, xs, rfl, hx, q⟩ := h
  cases rx
  obtain ⟨its, r, ht, hz⟩ := I.list hx
  have hlen := r.length
  refine ⟨"list", _, slot_list_getitem.lookup, ht.isList.typeIs, ?_⟩
  refine wpAny_getItem_list_slice ht.isList hs pl pu .none (by simp) ?_ (by rw [List.size_toArray] <;> omega)
  rw [slicePick_cut, ← hlen]
  refine ⟨.ref s.heap.objs.size, _, I.laid (t' := s.toks) (o := .lst (cutV xs lo hi)) (fun b ob q => Heap.get?_push_of_some _ q) (Nat.le_refl _) ?_, rfl, q _ (I.hok.fresh (Nat.le_refl _))⟩
  exact ⟨Nat.le_trans (cutV_length xs lo hi) hz, _, 0, (r.drop (HT.sIx xs.length 0 lo)).take (HT.sIx xs.length xs.length hi - HT.sIx xs.length 0 lo), Heap.get?_push_size _ rfl⟩


def flatV : V → Bool
  | .non => true
  | .bl _ => true
  | .int _ => true
  | .str _ => true
  | _ => false

def eqV : V → V → Bool
  | .non, .non => true
  | .bl a, .bl b => a == b
  | .bl a, .int b => (if a then 1 else 0) == b
  | .int a, .bl b => a == (if b then 1 else 0)
  | .int a, .int b => a == b
  | .str a, .str b => a == b
  | _, _ => false
theorem eqAt_V {A : Around} {s : Shared} {y x : V} {u v : Value} (ry : RelV y u) (rx : RelV x v) (fy : flatV y = true) (fx : flatV x = true) : SeqAt.EqAt A s u v (eqV y x) := by
  cases y with
  | non =>
    cases ry
    cases x with
    | non => cases rx; exact SeqAt.EqAt.same _
    | bl b => cases rx; exact SeqAt.EqAt.none_bool b
    | int b => obtain ⟨t, rfl⟩ := rx; exact SeqAt.EqAt.none_int b t
    | str b => obtain ⟨t, rfl⟩ := rx; exact SeqAt.EqAt.none_str b t
    | _ => exact absurd (show false = true from fx) Bool.false_ne_true
  | bl a =>
    cases ry
    cases x with
    | non => cases rx; exact SeqAt.EqAt.bool_none a
    | bl b => cases rx; exact SeqAt.EqAt.bool_bool a b
    | int b => obtain ⟨t, rfl⟩ := rx; exact SeqAt.EqAt.bool_int a b t
    | str b => obtain ⟨t, rfl⟩ := rx; exact SeqAt.EqAt.bool_str a b t
    | _ => exact absurd (show false = true from fx) Bool.false_ne_true
  | int a =>
    obtain ⟨t', rfl⟩ := ry
    cases x with
    | non => cases rx; exact SeqAt.EqAt.int_none a t'
    | bl b => cases rx; exact SeqAt.EqAt.int_bool a t' b
    | int b => obtain ⟨t, rfl⟩ := rx; exact SeqAt.EqAt.int_int a t' b t
    | str b => obtain ⟨t, rfl⟩ := rx; exact SeqAt.EqAt.int_str a t' b t
    | _ => exact absurd (show false = true from fx) Bool.false_ne_true
  | str a =>
    obtain ⟨t', rfl⟩ := ry
    cases x with
    | non => cases rx; exact SeqAt.EqAt.str_none a t'
    | bl b => cases rx; exact SeqAt.EqAt.str_bool a t' b
    | int b => obtain ⟨t, rfl⟩ := rx; exact SeqAt.EqAt.str_int a t' b t
    | str b => obtain ⟨t, rfl⟩ := rx; exact SeqAt.EqAt.str_str a t' b t
    | _ => exact absurd (show false = true from fx) Bool.false_ne_true
  | _ => exact absurd (show false = true from fy) Bool.false_ne_true

def eqU (x : V) (u : Value) : Bool := match u with
  | .none => eqV .non x
  | .bool b => eqV (.bl b) x
  | .int i _ => eqV (.int i) x
  | .str z _ => eqV (.str z) x
  | _ => false
theorem eqU_of {x y : V} {u : Value} (r : RelV y u) (f : flatV y = true) : eqU x u = eqV y x := by
  cases y with
  | non => cases r; rfl
  | bl b => cases r; rfl
  | int i => obtain ⟨t, rfl⟩ := r; rfl
  | str z => obtain ⟨t, rfl⟩ := r; rfl
  | _ => exact absurd (show false = true from f) Bool.false_ne_true
theorem any_eqU {x : V} : ∀ {xs : List V} {us : List Value}, Vals xs us → xs.all flatV = true → us.any (eqU x) = xs.any fun y => eqV y x
  | _, _, .nil, _ => rfl
  | y :: xs, u :: us, .cons r t, f => by
    rw [List.all_cons, Bool.and_eq_true] at f
    rw [List.any_cons, List.any_cons, eqU_of r f.1, any_eqU t f.2]
theorem mem_eqAt {A : Around} {s : Shared} {x : V} {v : Value} (rx : RelV x v) (fx : flatV x = true) : ∀ {xs : List V} {us : List Value}, Vals xs us → xs.all flatV = true → ∀ u ∈ us, SeqAt.EqAt A s u v (eqU x u)
  | _, _, .nil, _ => fun u hu => by cases hu
  | y :: xs, u :: us, .cons r t, f => fun u' hu => by
    rw [List.all_cons, Bool.and_eq_true] at f
    rcases List.mem_cons.mp hu with rfl | hu
    · rw [eqU_of r f.1]; exact eqAt_V r rx f.1 fx
    · exact mem_eqAt rx fx t f.2 u' hu
def inV (x : V) (xs : List V) : Bool := xs.any fun y => eqV y x

def rIn (K : PySem.W.Frag) (neg : Bool) : R2 := fun x y H Q => ∃ p xs, y = .ref p ∧ (SqL K H p xs ∨ SqT K H p xs) ∧ flatV x = true ∧ xs.all flatV = true ∧ Q (.bl (if neg then !inV x xs else inV x xs)) H
theorem op_in_seq : OpR X (compareOp .In) (rIn X.K false) := by
  intro pins s σ H x y v u Q I rx ry h
  obtain ⟨p, xs, rfl, hq, fx, fs, q⟩ := h
  cases ry
  rcases hq with hq | hq
  · obtain ⟨its, r, pl, hz⟩ := I.list hq
    refine SeqAt.in_listAt (eqU x) pl.isList (fun w hw => mem_eqAt rx fx r fs w (by simpa using hw)) ⟨.bl _, H, I, rfl, ?_⟩
    rw [show its.toArray.any (eqU x) = its.any (eqU x) by simp, any_eqU r fs]
    exact q
  · obtain ⟨its, r, pl, hz⟩ := I.tuple hq
    refine SeqAt.in_tupleAt (eqU x) pl (fun w hw => mem_eqAt rx fx r fs w (by simpa using hw)) ⟨.bl _, H, I, rfl, ?_⟩
    rw [show its.toArray.any (eqU x) = its.any (eqU x) by simp, any_eqU r fs]
    exact q
theorem op_notIn_seq : OpR X (compareOp .NotIn) (rIn X.K true) := by
  intro pins s σ H x y v u Q I rx ry h
  obtain ⟨p, xs, rfl, hq, fx, fs, q⟩ := h
  cases ry
  rcases hq with hq | hq
  · obtain ⟨its, r, pl, hz⟩ := I.list hq
    refine SeqAt.notIn_listAt (eqU x) pl.isList (fun w hw => mem_eqAt rx fx r fs w (by simpa using hw)) ⟨.bl _, H, I, rfl, ?_⟩
    rw [show its.toArray.any (eqU x) = its.any (eqU x) by simp, any_eqU r fs]
    exact q
  · obtain ⟨its, r, pl, hz⟩ := I.tuple hq
    refine SeqAt.notIn_tupleAt (eqU x) pl (fun w hw => mem_eqAt rx fx r fs w (by simpa using hw)) ⟨.bl _, H, I, rfl, ?_⟩
    rw [show its.toArray.any (eqU x) = its.any (eqU x) by simp, any_eqU r fs]
    exact q
theorem call_len_seq : CallR X (.builtin "len") (fun xs H Q => ∃ p ys, xs = [.ref p] ∧ (SqL X.K H p ys ∨ SqT X.K H p ys) ∧ Q (.int ys.length) H) := by
  intro pins s σ H xs us Q I r h
  obtain ⟨p, ys, rfl, hq, q⟩ := h
  obtain ⟨u, rfl, rx⟩ := vals1 r
  cases rx
  have hn := line63
  rcases hq with hq | hq
  · obtain ⟨its, r', pl, hz⟩ := I.list hq
    have hlen := r'.length
    exact Calls.call_len_list pl.isList (by simp only [List.size_toArray] <;> omega) ⟨.int ys.length, H, I.tok _, ⟨s.toks + 1, by rw [List.size_toArray, hlen]⟩, q⟩
  · obtain ⟨its, r', pl, hz⟩ := I.tuple hq
    have hlen := r'.length
    exact len_tuple pl (by simp only [List.size_toArray] <;> omega) ⟨.int ys.length, H, I.tok _, ⟨s.toks + 1, by rw [List.size_toArray, hlen]⟩, q⟩
theorem CallR.or {f : Value} {r r' : List V → Hp → VK → Prop} (h : CallR X f r) (h' : CallR X f r') : CallR X f (fun xs H Q => r xs H Q ∨ r' xs H Q) := by
  intro pins s σ H xs us Q I rs q
  rcases q with q | q
  · exact h pins s σ H xs us Q I rs q
  · exact h' pins s σ H xs us Q I rs q
theorem call_list_of : CallR X (.type "list") (fun xs H Q => ∃ p ys, xs = [.ref p] ∧ (SqL X.K H p ys ∨ SqT X.K H p ys) ∧ ∀ l, H l = none → Q (.ref l) (upd H l (.lst ys))) := by
  intro pins s σ H xs us Q I r h
  obtain ⟨p, ys, rfl, hq, q⟩ := h
  obtain ⟨u, rfl, rx⟩ := vals1 r
  cases rx
  have fin : ∀ (its : List Value), Vals ys its → ys.length ≤ sizeLine → ∀ (h' : Heap) (c' : Nat), (∀ b o', s.heap.get? b = some o' → h'.get? b = some o') →
      h'.get? s.heap.objs.size = some { cls := .type "list", dict := none, data := .seq its.toArray c', slots := #[] } → EP X pins σ Q (.ref s.heap.objs.size) { s with heap := h' } := fun its r' hz h' c' kp e =>
    ⟨.ref s.heap.objs.size, _, I.laid (t' := s.toks) kp (Nat.le_refl _) (show ObjOk X.prog X.w _ h' _ (.lst ys) from ⟨hz, its, c', r', e⟩), rfl, q _ (I.hok.fresh (Nat.le_refl _))⟩
  rcases hq with hq | hq
  · obtain ⟨its, r', pl, hz⟩ := I.list hq
    have hlen := r'.length
    obtain ⟨o, ho, hc, n, hd⟩ := pl.isList
    exact call_list_seq p (.inl rfl) ho hc hd (fun h' c' kp e => fin its r' hz h' c' kp e) (by simp only [List.size_toArray] <;> omega)
  · obtain ⟨its, r', pl, hz⟩ := I.tuple hq
    have hlen := r'.length
    obtain ⟨o, ho, hc, n, hd⟩ := pl
    exact call_list_seq p (.inr rfl) ho hc hd (fun h' c' kp e => fin its r' hz h' c' kp e) (by simp only [List.size_toArray] <;> omega)
theorem call_tuple_of : CallR X (.type "tuple") (fun xs H Q => ∃ p ys, xs = [.ref p] ∧ ((SqL X.K H p ys ∧ ∀ l, H l = none → Q (.ref l) (upd H l (.tup ys))) ∨ (SqT X.K H p ys ∧ Q (.ref p) H))) := by
  intro pins s σ H xs us Q I r h
  obtain ⟨p, ys, rfl, h⟩ := h
  obtain ⟨u, rfl, rx⟩ := vals1 r
  cases rx
  rcases h with ⟨hq, q⟩ | ⟨hq, q⟩
  · obtain ⟨its, r', pl, hz⟩ := I.list hq
    have hlen := r'.length
    refine call_tuple_list pl.isList (fun h' kp => ?_) (by simp only [List.size_toArray] <;> omega)
    have I1 : Inv X pins σ H { s with heap := h' } := I.kept (t' := s.toks) kp
    have I2 : Inv X pins σ (upd H h'.objs.size (.tup ys)) { s with heap := h'.push { cls := .type "tuple", data := .seq its.toArray } } :=
      I1.laid (t' := s.toks) (fun b o e => Heap.get?_push_of_some _ e) (Nat.le_refl _) (show ObjOk X.prog X.w _ _ _ (.tup ys) from ⟨hz, nd_new, its, r', IsTup.new _ _⟩)
    exact ⟨.ref h'.objs.size, _, I2, rfl, q _ (I1.hok.fresh (Nat.le_refl _))⟩
  · obtain ⟨its, r', pl, hz⟩ := I.tuple hq
    exact call_tuple_same pl ⟨.ref p, H, I, rfl, q⟩



def tyV (K : PySem.W.Frag) (T : String) (x : V) (H : Hp) : Prop := match x with
  | .str _ => T = "str"
  | .int _ => T = "int"
  | .ref p => (T = "list" ∧ ∃ xs, SqL K H p xs) ∨ (T = "tuple" ∧ ∃ o, K.lookup p = some o ∧ o.cls = .type "tuple" ∧ o.dict = none) ∨
      (T = "dict" ∧ ((∃ kvs, H p = some (.dK kvs)) ∨ ∃ kvs, H p = some (.dT kvs))) ∨ (T = "set" ∧ ∃ S n, H p = some (.set S n))
  | _ => False
theorem tyV_is {pins : List (Addr × Obj)} {σ : St} {H : Hp} {s : Shared} {T : String} {x : V} {v : Value} (I : Inv X pins σ H s) (r : RelV x v) (ty : tyV X.K T x H) :
    s.TypeIs v T ∧ ∀ a, v = .ref a → ∃ ob, s.heap.get? a = some ob ∧ ob.dict = none := by
  cases x with
  | str z =>
    obtain ⟨t, rfl⟩ := r
    cases (show T = "str" from ty)
    exact ⟨typeIs_str s z t, fun _ e => nomatch e⟩
  | int i =>
    obtain ⟨t, rfl⟩ := r
    cases (show T = "int" from ty)
    exact ⟨typeIs_int s i t, fun _ e => nomatch e⟩
  | ref p =>
    cases r
    rcases ty with ⟨rfl, xs, hq⟩ | ⟨rfl, o, hk, hc, hd⟩ | ⟨rfl, hk⟩ | ⟨rfl, S, n, hk⟩
    · obtain ⟨its, _, pl, _⟩ := I.list hq
      refine ⟨pl.isList.typeIs, fun a e => ?_⟩
      cases e
      obtain ⟨o, n, e, c, hd, _⟩ := pl
      exact ⟨o, e, hd⟩
    · refine ⟨⟨o, I.kIn p o hk, hc⟩, fun a e => ?_⟩
      cases e
      exact ⟨o, I.kIn _ o hk, hd⟩
    · have z : ∃ o, s.heap.get? p = some o ∧ o.ExactDict := by
        rcases hk with ⟨kvs, hk⟩ | ⟨kvs, hk⟩
        · obtain ⟨_, _, _, _, o, _, _, e, ex, _⟩ := I.hok p _ hk
          exact ⟨o, e, ex⟩
        · obtain ⟨_, _, _, _, o, _, _, e, ex, _⟩ := I.hok p _ hk
          exact ⟨o, e, ex⟩
      obtain ⟨o, e, ex⟩ := z
      refine ⟨⟨o, e, ex.1⟩, fun a e2 => ?_⟩
      cases e2
      exact ⟨o, e, ex.2.1⟩
    · obtain ⟨o, _, _, _, e, ex, _⟩ := I.hok p _ hk
      refine ⟨⟨o, e, ex.1⟩, fun a e2 => ?_⟩
      cases e2
      exact ⟨o, e, ex.2.1⟩
  | _ => exact False.elim ty
def tBM (K : PySem.W.Frag) (T : String) (r : V → List V → Hp → VK → Prop) (to : TE) (t : TA) : TE := fun σ H Q => to σ H fun x H1 => tyV K T x H1 ∧ t σ H1 fun xs H2 => r x xs H2 Q
variable {o e : Expr} {es : List Expr} {to : TE} {t : TA} {name : Str} {apos cpos : Pos} {T id : String} {r : V → List V → Hp → VK → Prop}
theorem pe_bm (pa : PlainAttrs T) (slot : Slot T name id) (hty : typeOf (.builtin id) = pure (.type "method_descriptor")) (hm : MtR X id r) (ho : PE X o to) (ha : PA X (e :: es) t)
    (hbase : attributeBase o name X.env (eval o X.env) = eval o X.env := by rfl)
    (hfew : ((backTo cpos (starEach (e :: es) X.env)).all (fun x => !x.1) && (backToKw cpos (keywordEach [] X.env)).all (fun x => x.1.isSome)
      && decide ((e :: es).length + ([] : List Keyword).length + (if ([] : List Keyword).isEmpty then 0 else 1) < 30)) = true := by rfl)
    (hline : (apos.endLine == cpos.line) = true := by rfl) (hs : starEach (e :: es) X.env = (false, eval e X.env) :: starEach es X.env := by rfl) (hplain : (backTo cpos (starEach es X.env)).any (·.1) = false := by rfl) :
    PE X (.Call (.Attribute o name apos) (e :: es) [] cpos) (tBM X.K T r to t) := by
  intro pins s σ H Q I h
  refine wpAny_Call_method_late hbase hfew hline rfl (thn (ho pins s σ H _ I h) fun v s1 ⟨x, H1, I1, r1, ty, q1⟩ => ?_)
  obtain ⟨h1, h2⟩ := tyV_is I1 r1 ty
  refine ⟨T, id, pa, slot, hty, h1, h2, ?_⟩
  have hA := ha cpos pins s1 σ H1 _ I1 q1
  rw [hs] at hA ⊢
  refine Calls.callWith_builtin (by show (false || (backTo cpos (starEach es X.env)).any (·.1)) = false; rw [hplain] <;> rfl) (Calls.evalArgs_plain ?_)
  exact thn hA fun us s2 ⟨vs, H2, I2, r2, q2⟩ => hm pins s2 σ H2 x vs v us Q I2 r1 r2 q2

end
end L2

namespace L2
open PySem PySem.Spec PyProof.Rows

def MtM (X : Cx) (id : String) (r : V → List V → Hp → VK → Prop) : Prop :=
  ∀ (pins : List (Addr × Obj)) (s : Shared) (σ : St) (H : Hp) (x : V) (xs : List V) (v : Value) (us : List Value) (Q : VK), Inv X pins σ H s → RelV x v → Vals xs us → r x xs H Q →
    wpAny (model X.prog X.w) X.A (call (.builtin id) (v :: us)) (EP X pins σ Q) X.xe s


theorem Vals.one : ∀ {x : V} {us : List Value}, Vals [x] us → ∃ u, us = [u] ∧ RelV x u
  | _, _, .cons r .nil => ⟨_, rfl, r⟩
theorem Vals.two : ∀ {x y : V} {us : List Value}, Vals [x, y] us → ∃ u v, us = [u, v] ∧ RelV x u ∧ RelV y v
  | _, _, _, .cons r (.cons q .nil) => ⟨_, _, rfl, r, q⟩
theorem Vals.zero : ∀ {us : List Value}, Vals [] us → us = []
  | _, .nil => rfl
theorem Vals.eraseIdx : ∀ {xs : List V} {us : List Value} (i : Nat), Vals xs us → Vals (xs.eraseIdx i) (us.eraseIdx i)
  | _, _, _, .nil => .nil
  | _, _, 0, .cons _ t => t
  | _, _, i + 1, .cons r t => .cons r (Vals.eraseIdx i t)
theorem Vals.reverse {xs : List V} {us : List Value} (h : Vals xs us) : Vals xs.reverse us.reverse := by
  induction h with
  | nil => exact .nil
  | cons r t ih => rw [List.reverse_cons, List.reverse_cons]; exact Vals.append ih (.cons r .nil)
section
variable {X : Cx} {pins : List (Addr × Obj)} {σ : St} {H : Hp} {s : Shared} {l b : Addr} {xs ys zs : List V}


theorem Inv.lset {its its' : List Value} {n : Nat} {f : Array Value → Array Value} {t' : Nat} (I : Inv X pins σ H s) (hH : H l = some (.lst xs))
    (e : s.heap.get? l = some { cls := .type "list", data := .seq its.toArray n }) (hf : f its.toArray = its'.toArray) (hv : Vals ys its') (hz : ys.length ≤ sizeLine) :
    Inv X pins σ (upd H l (.lst ys)) { s with heap := s.heap.update l (Obj.mapSeq f), toks := t' } := by
  have q := PySem.IsL.update e f
  rw [hf] at q
  refine I.write (x := l) (e := l) (by rw [hH]; exact trivial) (.inl rfl) (fun b' u hb hu => (Heap.get?_update_other s.heap (Obj.mapSeq f) (Ne.symm hb)).trans hu) ⟨_, q⟩ ?_
  exact ⟨hz, its', _, hv, q⟩
theorem Inv.lnew {its : List Value} {t' : Nat} (I : Inv X pins σ H s) (hv : Vals ys its) (hz : ys.length ≤ sizeLine) :
    Inv X pins σ (upd H s.heap.objs.size (.lst ys)) { s with heap := s.heap.push { cls := .type "list", data := .seq its.toArray }, toks := t' } :=
  I.laid (fun _ _ q => Heap.get?_push_of_some _ q) (Nat.le_refl _) ⟨hz, its, 0, hv, Heap.get?_push_size _ rfl⟩
theorem Inv.fresh (I : Inv X pins σ H s) : H s.heap.objs.size = none := I.hok.fresh (Nat.le_refl _)
theorem Inv.lstM (I : Inv X pins σ H s) (hH : H l = some (.lst xs)) : xs.length ≤ sizeLine ∧ ∃ (its : List Value) (n : Nat), Vals xs its ∧ xs.length = its.length ∧ s.heap.get? l = some { cls := .type "list", data := .seq its.toArray n } := by
  obtain ⟨z, its, n, r, e⟩ := I.hok l _ hH
  exact ⟨z, its, n, r, r.length, e⟩

end

section
variable {X : Cx}


def rAppend : V → List V → Hp → VK → Prop := fun x vs H Q => ∃ l xs y, x = .ref l ∧ vs = [y] ∧ H l = some (.lst xs) ∧ xs.length < sizeLine ∧ Q .non (upd H l (.lst (xs ++ [y])))
theorem mt_append : MtM X "list.append" rAppend := by
  intro pins s σ H x vs v us Q I rx rv h
  obtain ⟨l, xs, y, rfl, rfl, hH, hz, q⟩ := h
  cases rx
  obtain ⟨u, rfl, ru⟩ := rv.one
  obtain ⟨z, its, n, r, hl, e⟩ := I.lstM hH
  refine call_meets F.slot_list_append ⟨_, e, rfl⟩ F.entry_list_append (F.args_list_append_2 _ _) (PySem.list_append l its.toArray n u (by rw [List.size_toArray]; omega)) ⟨e, ?_⟩
  refine ⟨.non, _, I.lset (its' := its ++ [u]) hH e (by simp) (r.append (.cons ru .nil)) ?_, rfl, q⟩
  rw [List.length_append, List.length_singleton]
  omega

end


section
variable {prog : Program} {w : World} {A : Around} {E : Value → Shared → Prop} {s : Shared}
set_option maxRecDepth 100000 in

end

section
variable {X : Cx}

end
end L2

namespace L2
open PySem PySem.Spec PyProof.Rows

theorem Vals.ints : ∀ {ns : List Int} {us : List Value}, Vals (ns.map V.int) us → IntsAre us ns
  | [], us, h => by
    rw [List.map_nil] at h
    cases h
    exact IntsAre.nil
  | n :: ns, us, h => by
    rw [List.map_cons] at h
    cases h with
    | cons r t =>
      obtain ⟨k, rfl⟩ := r
      exact IntsAre.cons n k (Vals.ints t)
theorem vals_of_ints : ∀ {us : List Value} {ns : List Int}, IntsAre us ns → Vals (ns.map V.int) us
  | _, _, .nil => by rw [List.map_nil]; exact Paired.nil
  | _, _, .cons n t h => by rw [List.map_cons]; exact Paired.cons (show RelV (V.int n) (Value.int n t) from ⟨t, rfl⟩) (vals_of_ints h)
theorem Vals.ref1 {a : Addr} {us : List Value} (r : Vals [V.ref a] us) : us = [Value.ref a] := by
  cases r with
  | cons r t =>
    cases t
    cases r
    rfl
section
variable {prog : Program} {w : World} {A : Around} {E : Value → Shared → Prop} {s : Shared} {l : Addr} {its : List Value} {ns : List Int} {Q : Value → Shared → Prop}
theorem sum_raw (hh : A.handled = none) (hl : s.heap.IsList l its.toArray) (hi : IntsAre its ns)
    (h : ∀ h' tk t', (∀ b o, s.heap.get? b = some o → h'.get? b = some o) → Q (.int ns.sum t') { s with heap := h', toks := tk }) : wpAny (model prog w) A (call (.builtin "sum") [.ref l]) Q E s := by
  obtain ⟨xs, e⟩ := hi.allInts.items
  have hn : numsOf (intItems xs).toList = ns := by rw [← e]; exact hi.numsOf
  rw [nums_intItems] at hn
  rw [e] at hl
  refine PySem.sum_intListG hh hl fun h' tk t' hk => ?_
  have := h h' tk t' hk
  rw [preSum_eq, List.take_of_length_le (by simp), hn]; exact this
theorem max_raw (hh : A.handled = none) (hl : s.heap.IsList l its.toArray) (hi : IntsAre its ns) (hne : 0 < ns.length)
    (h : ∀ h' tk M t', (∀ b o, s.heap.get? b = some o → h'.get? b = some o) → M ∈ ns → (∀ a, a ∈ ns → a ≤ M) → Q (.int M t') { s with heap := h', toks := tk }) : wpAny (model prog w) A (call (.builtin "max") [.ref l]) Q E s := by
  obtain ⟨xs, e⟩ := hi.allInts.items
  have hn : numsOf (intItems xs).toList = ns := by rw [← e]; exact hi.numsOf
  rw [nums_intItems] at hn
  subst hn
  rw [e] at hl
  have hsz : 0 < xs.size := by simpa using hne
  refine PySem.max_intList hh hl hsz fun v h' tk hv hk => ?_
  obtain ⟨t, rfl⟩ := intItems_at hv
  obtain ⟨h1, h2⟩ := argBest_gt (numAt xs) (xs.size - 1)
  refine h h' tk _ t hk ?_ fun a ha => ?_
  · rw [numAt_eq]; exact PySem.getD_mem (by rw [List.length_map, Array.length_toList]; omega)
  · obtain ⟨j, hj, rfl⟩ := mem_getD ha
    rw [List.length_map, Array.length_toList] at hj
    rw [← numAt_eq]; exact h2 j (by omega)
end


section
variable {X : Cx}

def rSum (K : PySem.W.Frag) : List V → Hp → VK → Prop := fun vs H Q => ∃ (a : Addr) (ns : List Int), vs = [V.ref a] ∧ SqL K H a (ns.map V.int) ∧ Q (.int ns.sum) H

def rMax (K : PySem.W.Frag) : List V → Hp → VK → Prop := fun vs H Q => ∃ (a : Addr) (ns : List Int), vs = [V.ref a] ∧ SqL K H a (ns.map V.int) ∧ 0 < ns.length ∧ ∀ m, m ∈ ns → (∀ y, y ∈ ns → y ≤ m) → Q (.int m) H
theorem cr_sum (hc : X.calm = true) : CallR X (.builtin "sum") (rSum X.K) := by
  intro pins s σ H vs us Q I r h
  obtain ⟨a, ns, rfl, hs, q⟩ := h
  obtain ⟨its, rv, hl, _⟩ := I.list hs
  rw [Vals.ref1 r]
  exact sum_raw (I.ok.hd hc) hl.isList rv.ints fun h' tk t' hk => ⟨.int _, H, I.kept hk, ⟨_, rfl⟩, q⟩
theorem cr_max (hc : X.calm = true) : CallR X (.builtin "max") (rMax X.K) := by
  intro pins s σ H vs us Q I r h
  obtain ⟨a, ns, rfl, hs, hne, q⟩ := h
  obtain ⟨its, rv, hl, _⟩ := I.list hs
  rw [Vals.ref1 r]
  exact max_raw (I.ok.hd hc) hl.isList rv.ints hne fun h' tk m t' hk h1 h2 => ⟨.int _, H, I.kept hk, ⟨_, rfl⟩, q m h1 h2⟩
def rSorted (K : PySem.W.Frag) : List V → Hp → VK → Prop := fun vs H Q => ∃ (a : Addr) (ns : List Int), vs = [V.ref a] ∧ SqL K H a (ns.map V.int) ∧ ns.length < 64 ∧
  ∀ (ns' : List Int) (p : Addr), ns'.Perm ns → ns'.Pairwise (· ≤ ·) → H p = none → Q (.ref p) (upd H p (.lst (ns'.map V.int)))
theorem small64 {n : Nat} (h : n < 64) : n ≤ sizeLine := by rw [sizeLine_eq]; omega
theorem cr_sorted : CallR X (.builtin "sorted") (rSorted X.K) := by
  intro pins s σ H vs us Q I r h
  obtain ⟨a, ns, rfl, hs, h64, q⟩ := h
  obtain ⟨its, rv, hl, _⟩ := I.list hs
  rw [Vals.ref1 r]
  have hi := rv.ints
  refine PyProof.Rows.sorted_ints hl.isList hi (by rw [hi.length]; exact h64) fun out ns' h1 h2 h3 => ?_
  obtain ⟨ep, he'⟩ := PyProof.Rows.sortedAll_at s.heap its out
  have hlen : (ns'.map V.int).length ≤ sizeLine := by rw [List.length_map, h2.length_eq]; exact small64 h64
  exact ⟨.ref _, upd H (s.heap.objs.size + 1) (.lst (ns'.map V.int)), I.laid (t' := s.toks) (fun _ _ => PyProof.Rows.sortedAll_old) (Nat.le_succ _) ⟨hlen, out.toList, ep, vals_of_ints h1, he'⟩, rfl, q ns' _ h2 h3 (I.hok.fresh (Nat.le_succ _))⟩
end








mutual
inductive Dp (K : PySem.W.Frag) (H : Hp) : V → PyData → Prop
  | non : Dp K H .non .none
  | bl (b : Bool) : Dp K H (.bl b) (.bool b)
  | int (i : Int) : Dp K H (.int i) (.int i)
  | str (x : Str) : Dp K H (.str x) (.str x)
  | lst {a : Addr} {xs : List V} {ds : List PyData} : SqL K H a xs → DpAll K H xs ds → Dp K H (.ref a) (.list ds)
  | tup {a : Addr} {xs : List V} {ds : List PyData} : SqT K H a xs → DpAll K H xs ds → Dp K H (.ref a) (.tuple ds)
inductive DpAll (K : PySem.W.Frag) (H : Hp) : List V → List PyData → Prop
  | nil : DpAll K H [] []
  | cons {v : V} {vs : List V} {d : PyData} {ds : List PyData} : Dp K H v d → DpAll K H vs ds → DpAll K H (v :: vs) (d :: ds)
end
section
variable {X : Cx} {pins : List (Addr × Obj)} {σ : St} {H : Hp} {s : Shared}
mutual
theorem Dp.reads (I : Inv X pins σ H s) : ∀ (d : PyData) (v : V) (u : Value), Dp X.K H v d → RelV v u → ∃ as, Reads s.heap u d as
  | .none, _, _, h, r => by
    cases h
    cases r
    exact ⟨_, Reads.none⟩
  | .bool b, _, _, h, r => by
    cases h
    cases r
    exact ⟨_, Reads.bool b⟩
  | .int i, _, _, h, r => by
    cases h
    obtain ⟨t, rfl⟩ := r
    exact ⟨_, Reads.int i t⟩
  | .str x, _, _, h, r => by
    cases h
    obtain ⟨t, rfl⟩ := r
    exact ⟨_, Reads.str x t⟩
  | .list ds, _, _, h, r => by
    cases h with
    | lst hs ha =>
      cases r
      obtain ⟨its, rv, ⟨o, n, ho, hc, _, hd⟩, _⟩ := I.list hs
      obtain ⟨as, hr⟩ := Dp.readsAll I ds _ its ha rv
      exact ⟨_, Reads.list ho hc hd hr⟩
  | .tuple ds, _, _, h, r => by
    cases h with
    | tup hs ha =>
      cases r
      obtain ⟨its, rv, ⟨o, ho, hc, n, hd⟩, _⟩ := I.tuple hs
      obtain ⟨as, hr⟩ := Dp.readsAll I ds _ its ha rv
      exact ⟨_, Reads.tuple ho hc hd hr⟩
  | .dict _, _, _, h, _ => by cases h
theorem Dp.readsAll (I : Inv X pins σ H s) : ∀ (ds : List PyData) (vs : List V) (us : List Value), DpAll X.K H vs ds → Vals vs us → ∃ as, ReadsAll s.heap us ds as
  | [], _, _, h, r => by
    cases h
    cases r
    exact ⟨_, ReadsAll.nil⟩
  | d :: ds, _, _, h, r => by
    cases h with
    | cons h1 h2 =>
      cases r with
      | cons r1 r2 =>
        obtain ⟨as, q1⟩ := Dp.reads I d _ _ h1 r1
        obtain ⟨bs, q2⟩ := Dp.readsAll I ds _ _ h2 r2
        exact ⟨_, ReadsAll.cons q1 q2⟩
end
end
section
variable {X : Cx}
def rEqD (K : PySem.W.Frag) : R2 := fun x y H Q => ∃ d e, Dp K H x d ∧ Dp K H y e ∧ SeqAt.shaped d = true ∧ SeqAt.shaped e = true ∧ Q (.bl (PyData.eqv d e)) H
def rNeD (K : PySem.W.Frag) : R2 := fun x y H Q => ∃ d e, Dp K H x d ∧ Dp K H y e ∧ SeqAt.shaped d = true ∧ SeqAt.shaped e = true ∧ Q (.bl (!PyData.eqv d e)) H
theorem op_eqD (hu : X.A.units + 64 < cLine) : OpR X (compareOp .Eq) (rEqD X.K) := by
  intro pins s σ H x y v u Q I rx ry h
  obtain ⟨d, e, hd, he, sd, se, q⟩ := h
  obtain ⟨as, r1⟩ := Dp.reads I d x v hd rx
  obtain ⟨bs, r2⟩ := Dp.reads I e y u he ry
  exact SeqAt.compareEq_shaped r1 r2 sd se hu ⟨.bl _, H, I, rfl, q⟩
theorem op_neD (hu : X.A.units + 64 < cLine) : OpR X (compareOp .NotEq) (rNeD X.K) := by
  intro pins s σ H x y v u Q I rx ry h
  obtain ⟨d, e, hd, he, sd, se, q⟩ := h
  obtain ⟨as, r1⟩ := Dp.reads I d x v hd rx
  obtain ⟨bs, r2⟩ := Dp.reads I e y u he ry
  exact SeqAt.compareNe_shaped r1 r2 sd se hu ⟨.bl _, H, I, rfl, q⟩
end
end L2

namespace L2
open PySem PySem.Spec PyProof.Rows
abbrev CellAt (h : Heap) (c : Addr) (v : Option Value) : Prop := h.IsCell c v
def relS (scope sc : Scope) : Scope :=
  { scope with names := scope.names.map fun (n, k) => if (k == .free && sc.kind == .function && sc.names.lookup n == some .cell) then (n, .cell) else (n, k) }

def cloFrom (cells : List (Str × Addr)) : List (Str × NameKind) → List (Str × Addr) → List (Str × Addr)
  | [], acc => acc
  | (n, k) :: r, acc => if k == .free then cloFrom cells r ((n, (cells.lookup n).getD 0) :: acc) else cloFrom cells r acc

theorem closure_loop (env : Env) (f : Str × NameKind → List (Str × Addr) → Sem (ForInStep (List (Str × Addr))))
    (hf : ∀ n k c, f (n, k) c = if k == .free then (do let a ← cellOf env n; pure (.yield ((n, a) :: c))) else pure (.yield c)) :
    ∀ (names : List (Str × NameKind)) (acc : List (Str × Addr)), (∀ y ∈ names, y.2 = .free → ∃ c, env.cells.lookup y.1 = some c) → forIn names acc f = pure (cloFrom env.cells names acc)
  | [], acc, _ => by rw [List.forIn_nil]; rfl
  | (n, k) :: r, acc, h => by
    rw [List.forIn_cons, hf]
    have ih := fun acc => closure_loop env f hf r acc fun y hy => h y (List.mem_cons_of_mem _ hy)
    unfold cloFrom
    by_cases hk : (k == NameKind.free) = true
    · rw [if_pos hk, if_pos hk]
      obtain ⟨c, hc⟩ := h (n, k) List.mem_cons_self (by simpa using hk)
      have e : cellOf env n = pure c := by unfold cellOf; rw [hc]
      rw [e]
      have e2 : (env.cells.lookup n).getD 0 = c := by rw [hc]; rfl
      rw [e2]
      exact ih _
    · rw [if_neg hk, if_neg hk]
      exact ih _
theorem closure_ok {scope : Scope} {env : Env} (h : ∀ y ∈ scope.names, y.2 = .free → ∃ c, env.cells.lookup y.1 = some c) : closureFor scope env = pure (cloFrom env.cells scope.names []) := by
  simp only [closureFor]
  rw [closure_loop env _ (fun n k c => rfl) scope.names [] h]
  rfl

theorem mem_lookup {α : Type} : ∀ {l : List (Str × α)} {n : Str} {c : α}, (n, c) ∈ l → ∃ c', l.lookup n = some c'
  | (k, v) :: r, n, c, h => by
    rw [List.lookup_cons]
    cases hb : n == k with
    | true => exact ⟨_, rfl⟩
    | false =>
      rcases List.mem_cons.mp h with e | h
      · cases e; simp at hb
      · exact mem_lookup h

theorem cloFrom_mem {cells : List (Str × Addr)} : ∀ {names : List (Str × NameKind)} {acc : List (Str × Addr)} {n : Str} {c : Addr}, (n, c) ∈ cloFrom cells names acc → (n, c) ∈ acc ∨ ((n, .free) ∈ names ∧ c = (cells.lookup n).getD 0)
  | [], _, _, _, h => .inl h
  | (m, k) :: r, acc, n, c, h => by
    unfold cloFrom at h
    split at h
    · rename_i hk
      have hk : k = .free := by simpa using hk
      rcases cloFrom_mem h with h | ⟨h1, h2⟩
      · rcases List.mem_cons.mp h with e | h
        · cases e; exact .inr ⟨hk ▸ List.mem_cons_self, rfl⟩
        · exact .inl h
      · exact .inr ⟨List.mem_cons_of_mem _ h1, h2⟩
    · rcases cloFrom_mem h with h | ⟨h1, h2⟩
      · exact .inl h
      · exact .inr ⟨List.mem_cons_of_mem _ h1, h2⟩
theorem cloFrom_acc {cells : List (Str × Addr)} : ∀ {names : List (Str × NameKind)} {acc : List (Str × Addr)} {p : Str × Addr}, p ∈ acc → p ∈ cloFrom cells names acc
  | [], _, _, h => h
  | (m, k) :: r, acc, p, h => by
    unfold cloFrom
    split
    · exact cloFrom_acc (List.mem_cons_of_mem _ h)
    · exact cloFrom_acc h
theorem cloFrom_has {cells : List (Str × Addr)} : ∀ {names : List (Str × NameKind)} {acc : List (Str × Addr)} {n : Str}, (n, .free) ∈ names → (n, (cells.lookup n).getD 0) ∈ cloFrom cells names acc
  | (m, k) :: r, acc, n, h => by
    unfold cloFrom
    rcases List.mem_cons.mp h with e | h
    · cases e
      exact cloFrom_acc List.mem_cons_self
    · split
      · exact cloFrom_has h
      · exact cloFrom_has h

theorem cells_mem : ∀ {names : List (Str × NameKind)} {h : Heap} {acc : List (Str × Addr)} {x : Str} {c : Addr}, (x, c) ∈ cellsFrom h.objs.size names acc →
    (x, c) ∈ acc ∨ ((x, .cell) ∈ names ∧ h.objs.size ≤ c ∧ CellAt (pushCells h names) c none)
  | [], _, _, _, _, h => .inl h
  | (n, k) :: r, h, acc, x, c, hm => by
    unfold cellsFrom at hm
    unfold pushCells
    split at hm
    · rename_i hk
      rw [if_pos hk]
      have hk : k = .cell := by simpa using hk
      rw [← Heap.size_push h { cls := .type "cell", data := .cell none }] at hm
      rcases cells_mem hm with hm | ⟨h1, h2, h3⟩
      · rcases List.mem_cons.mp hm with e | hm
        · cases e
          exact .inr ⟨hk ▸ List.mem_cons_self, Nat.le_refl _, _, pushCells_keeps r _ _ _ (Heap.get?_push_size _ rfl), rfl⟩
        · exact .inl hm
      · rw [Heap.size_push] at h2
        exact .inr ⟨List.mem_cons_of_mem _ h1, Nat.le_of_succ_le h2, h3⟩
    · rename_i hk
      rw [if_neg hk]
      rcases cells_mem hm with hm | ⟨h1, h2, h3⟩
      · exact .inl hm
      · exact .inr ⟨List.mem_cons_of_mem _ h1, h2, h3⟩
theorem cells_acc : ∀ {names : List (Str × NameKind)} {n : Nat} {acc : List (Str × Addr)} {p : Str × Addr}, p ∈ acc → p ∈ cellsFrom n names acc
  | [], _, _, _, h => h
  | (m, k) :: r, n, acc, p, h => by
    unfold cellsFrom
    split
    · exact cells_acc (List.mem_cons_of_mem _ h)
    · exact cells_acc h
theorem cells_has : ∀ {names : List (Str × NameKind)} {n : Nat} {acc : List (Str × Addr)} {x : Str}, (x, .cell) ∈ names → ∃ c, (x, c) ∈ cellsFrom n names acc
  | (m, k) :: r, n, acc, x, h => by
    unfold cellsFrom
    rcases List.mem_cons.mp h with e | h
    · cases e
      exact ⟨n, cells_acc List.mem_cons_self⟩
    · split
      · exact cells_has h
      · exact cells_has h
theorem cells_inj : ∀ {names : List (Str × NameKind)} {h : Heap} {acc : List (Str × Addr)} {x y : Str} {c : Addr}, (∀ p ∈ acc, p.2 < h.objs.size) → (∀ x y c, (x, c) ∈ acc → (y, c) ∈ acc → x = y) →
    (x, c) ∈ cellsFrom h.objs.size names acc → (y, c) ∈ cellsFrom h.objs.size names acc → x = y
  | [], _, _, _, _, _, _, hi, h1, h2 => hi _ _ _ h1 h2
  | (n, k) :: r, h, acc, x, y, c, hl, hi, h1, h2 => by
    unfold cellsFrom at h1 h2
    split at h1
    · rename_i hk
      rw [if_pos hk] at h2
      rw [← Heap.size_push h { cls := .type "cell", data := .cell none }] at h1 h2
      refine cells_inj (h := h.push _) (fun p hp => ?_) (fun x y c a b => ?_) h1 h2
      · rw [Heap.size_push]
        rcases List.mem_cons.mp hp with rfl | hp
        · exact Nat.lt_succ_self _
        · exact Nat.lt_succ_of_lt (hl p hp)
      · rcases List.mem_cons.mp a with e | a <;> rcases List.mem_cons.mp b with e' | b
        · cases e; cases e'; rfl
        · cases e; exact absurd (hl _ b) (Nat.lt_irrefl _)
        · cases e'; exact absurd (hl _ a) (Nat.lt_irrefl _)
        · exact hi _ _ _ a b
    · rename_i hk
      rw [if_neg hk] at h2
      exact cells_inj hl hi h1 h2

theorem newEnv_comp {M : Model} {A : Around} {E : Value → Shared → Prop} {s : Shared} {scope : Scope} {globals : Addr} {closure : List (Str × Addr)} {qual : Str} {func : Option Addr} {code : Value} {around : Env} {builtins : Addr} {Q : Env → Shared → Prop}
    (h : Q (newEnv scope s.heap.objs.size globals (cellsFrom (s.heap.objs.size + 1) scope.names closure) qual func code (some around) builtins)
      { s with heap := pushCells (s.heap.push { cls := .type "dict", data := .dict #[] }) scope.names }) :
    wpAny M A (newFunctionEnv scope globals closure [] qual func code (some around) builtins) Q E s := by
  simp only [newFunctionEnv, Option.isSome_some, if_true]
  refine wpAny_bind (wpAny_alloc ?_)
  refine wpAny_bind (wpAny_layCells _ (fun n k c => rfl) scope.names closure _ _ ?_)
  rw [show ({ s with heap := s.heap.push { cls := .type "dict", data := .dict #[] } } : Shared).heap.objs.size = s.heap.objs.size + 1 from Heap.size_push ..]
  rw [List.forIn_nil]
  exact wpAny_bind (wpAny_pure (wpAny_pure h))


theorem lookup_relS {sc : Scope} : ∀ {names : List (Str × NameKind)} {x : Str} {k : NameKind},
    (names.map fun (n, k) => if (k == NameKind.free && sc.kind == .function && sc.names.lookup n == some .cell) then (n, NameKind.cell) else (n, k)).lookup x = some k →
    ∃ k', names.lookup x = some k' ∧ (k = k' ∨ (k' = .free ∧ k = .cell))
  | [], _, _, h => by simp at h
  | (n, k₀) :: r, x, k, h => by
    have ih := @lookup_relS sc r x k
    have h' : List.lookup x ((if (k₀ == NameKind.free && sc.kind == .function && sc.names.lookup n == some .cell) = true then (n, NameKind.cell) else (n, k₀)) :: (r.map _)) = some k := h
    cases hx : x == n with
    | true =>
      simp only [List.lookup_cons, hx]
      by_cases hc : (k₀ == NameKind.free && sc.kind == .function && sc.names.lookup n == some .cell) = true
      · rw [if_pos hc] at h'
        simp only [List.lookup_cons, hx] at h'
        cases h'
        simp only [Bool.and_eq_true, beq_iff_eq] at hc
        exact ⟨k₀, rfl, .inr ⟨hc.1.1, rfl⟩⟩
      · rw [if_neg hc] at h'
        simp only [List.lookup_cons, hx] at h'
        cases h'
        exact ⟨_, rfl, .inl rfl⟩
    | false =>
      simp only [List.lookup_cons, hx]
      by_cases hc : (k₀ == NameKind.free && sc.kind == .function && sc.names.lookup n == some .cell) = true
      · rw [if_pos hc] at h'
        simp only [List.lookup_cons, hx] at h'
        exact ih h'
      · rw [if_neg hc] at h'
        simp only [List.lookup_cons, hx] at h'
        exact ih h'
structure BlkOk (N : List Str) (sc scope : Scope) (own : List (Str × Nat)) : Prop where
  kind : scope.kind = .function
  uniq : ∀ y ∈ scope.names, scope.names.lookup y.1 = some y.2
  ix : ∀ p ∈ own, N[p.2]? = some p.1
  free : ∀ y ∈ scope.names, y.2 = .free → sc.names.lookup y.1 = some .cell ∨ sc.names.lookup y.1 = some .free
  own : ∀ y ∈ scope.names, y.2 = .local ∨ y.2 = .cell → y.1 ∈ own.map (·.1) ∨ y.1 ∉ N

def wipe (σ : St) : List Nat → St
  | [] => σ
  | v :: vs => (wipe σ vs).set v none
theorem wipe_length (σ : St) : ∀ vs : List Nat, (wipe σ vs).length = σ.length
  | [] => rfl
  | v :: vs => by unfold wipe; rw [List.length_set, wipe_length σ vs]
theorem wipe_some {σ : St} {i : Nat} {x : V} : ∀ {vs : List Nat}, (wipe σ vs)[i]? = some (some x) → σ[i]? = some (some x) ∧ i ∉ vs
  | [], h => ⟨h, by simp⟩
  | v :: vs, h => by
    unfold wipe at h
    by_cases hi : v = i
    · subst hi
      by_cases hv : v < (wipe σ vs).length
      · rw [List.getElem?_set_self hv] at h; cases h
      · rw [List.getElem?_eq_none (by simpa using hv)] at h; cases h
    · rw [List.getElem?_set_ne hi] at h
      obtain ⟨h1, h2⟩ := wipe_some h
      exact ⟨h1, by simp only [List.mem_cons, not_or]; exact ⟨fun e => hi e.symm, h2⟩⟩


abbrev Cx.blk (X : Cx) (s : Shared) (H : Hp) (scope : Scope) (cenv : Env) (fp : List Addr) : Cx := { X with s_0 := s, H_0 := H, env := cenv, outer := X.stack, ex := fp, fn := fun x => scope.names.lookup x == some .cell, pn := [], xe := fun _ _ => False }
section
variable {X : Cx} {pins : List (Addr × Obj)} {σ : St} {H : Hp} {s : Shared}
theorem block_start {scope : Scope} {own : List (Str × Nat)} {fp : List Addr} (I : Inv X pins σ H s) (ok : BlkOk X.N X.env.scope scope own) (hN : X.N.Nodup) (hfp : ∀ b ∈ fp, FpOk X pins H b ∧ b < s.heap.objs.size) :
    Inv (X.blk s H scope (compEnvC scope (cellsFrom (s.heap.objs.size + 1) scope.names (cloFrom X.env.cells scope.names [])) s.heap.objs.size X.env) fp) [] (wipe σ (own.map (·.2))) H { s with heap := pushCells (s.heap.push { cls := .type "dict", data := .dict #[] }) scope.names } := by
  have hfree : ∀ y ∈ scope.names, y.2 = .free → ∃ c, X.env.cells.lookup y.1 = some c := fun y hy e => by
    rcases ok.free y hy e with k | k
    · exact I.ok.has _ (.inl k)
    · exact I.ok.has _ (.inr k)
  generalize hcenv : compEnvC scope (cellsFrom (s.heap.objs.size + 1) scope.names (cloFrom X.env.cells scope.names [])) s.heap.objs.size X.env = cenv
  have kp : ∀ b o, s.heap.get? b = some o → (pushCells (s.heap.push { cls := .type "dict", data := .dict #[] }) scope.names).get? b = some o := fun b o e => pushCells_keeps _ _ _ _ (Heap.get?_push_of_some _ e)
  have hL : cenv.locals = s.heap.objs.size := by rw [← hcenv]; rfl
  have hcl : cenv.cells = cellsFrom (s.heap.objs.size + 1) scope.names (cloFrom X.env.cells scope.names []) := by rw [← hcenv]; rfl
  have hsc : cenv.scope = relS scope X.env.scope := by rw [← hcenv]; rfl
  rw [← Heap.size_push s.heap { cls := .type "dict", data := .dict #[] }] at hcl
  have cm : ∀ {y c}, (y, c) ∈ cloFrom X.env.cells scope.names [] → X.env.cells.lookup y = some c ∧ c < s.heap.objs.size := fun {y c} hm => by
    rcases cloFrom_mem hm with hm | ⟨h1, rfl⟩
    · cases hm
    · obtain ⟨c, hc⟩ := hfree _ h1 rfl
      rw [hc]
      obtain ⟨w, z⟩ := I.cell _ _ hc
      exact ⟨rfl, z.lt⟩
  have mem : ∀ {y c}, cenv.cells.lookup y = some c → (X.env.cells.lookup y = some c ∧ c < s.heap.objs.size) ∨ (s.heap.objs.size + 1 ≤ c ∧ CellAt (pushCells (s.heap.push { cls := .type "dict", data := .dict #[] }) scope.names) c none) := fun {y c} e => by
    rw [hcl] at e
    rcases cells_mem (PySem.mem_of_lookup e) with hm | ⟨_, h2, h3⟩
    · exact .inl (cm hm)
    · rw [Heap.size_push] at h2; exact .inr ⟨h2, h3⟩
  have look : ∀ {y}, scope.names.lookup y = some .free → ∃ c, cenv.cells.lookup y = some c ∧ X.env.cells.lookup y = some c := fun {y} hl => by
    have hy : (y, NameKind.free) ∈ scope.names := PySem.mem_of_lookup hl
    obtain ⟨c', e'⟩ := mem_lookup (cells_acc (names := scope.names) (n := (s.heap.push { cls := .type "dict", data := .dict #[] }).objs.size) (cloFrom_has (cells := X.env.cells) (acc := []) hy))
    rw [← hcl] at e'
    refine ⟨c', e', ?_⟩
    rw [hcl] at e'
    rcases cells_mem (PySem.mem_of_lookup e') with hm | ⟨h1, _, _⟩
    · exact (cm hm).1
    · have := ok.uniq _ h1
      rw [hl] at this; cases this
  have okB : (X.blk s H scope cenv fp).Ok := by
    refine ⟨I.ok.mod, by show cenv.scope.kind = _; rw [hsc]; exact ok.kind, by show cenv.globals = _; rw [← hcenv]; exact I.ok.glob, by show cenv.builtins = _; rw [← hcenv]; exact I.ok.blt, by show s.heap.objs.size ≤ cenv.locals; rw [hL]; exact Nat.le_refl _,
      fun y z c e1 e2 => ?_, fun y hy => ?_, fun y c z e => ?_, I.ok.hd, I.ok.frames, .inl rfl, fun b hb => ⟨?_, fun y c e z => ?_⟩, I.bs, Nat.le_trans I.ok.bsz I.sz, fun b o e hb => ?_, fun b hb z => ?_, I.stack, I.stkFree⟩
    · have e1 : cenv.cells.lookup y = some c := e1
      have e2 : cenv.cells.lookup z = some c := e2
      rw [hcl] at e1 e2
      refine cells_inj (fun p hp => ?_) (fun y z c a b => I.ok.inj y z c (cm a).1 (cm b).1) (PySem.mem_of_lookup e1) (PySem.mem_of_lookup e2)
      rw [Heap.size_push]
      exact Nat.lt_succ_of_lt (cm (y := p.1) (c := p.2) hp).2
    · show ∃ c, cenv.cells.lookup y = some c
      have key : ∀ k, cenv.kindOf y = some k → (k = .cell ∨ k = .free) → ∃ c, cenv.cells.lookup y = some c := fun k hk hk' => by
        unfold Env.kindOf at hk
        rw [hsc] at hk
        obtain ⟨k', e, r⟩ := lookup_relS hk
        have : k' = .cell ∨ k' = .free := by
          rcases r with rfl | ⟨rfl, _⟩
          · exact hk'
          · exact .inr rfl
        rcases this with rfl | rfl
        · obtain ⟨c, hm⟩ := cells_has (n := (s.heap.push { cls := .type "dict", data := .dict #[] }).objs.size) (acc := cloFrom X.env.cells scope.names []) (PySem.mem_of_lookup e)
          obtain ⟨c', e'⟩ := mem_lookup hm
          exact ⟨c', by rw [hcl]; exact e'⟩
        · obtain ⟨c, h1, _⟩ := look e
          exact ⟨c, h1⟩
      rcases hy with hy | hy
      · exact key _ hy (.inl rfl)
      · exact key _ hy (.inr rfl)
    · have z : (scope.names.lookup y == some NameKind.cell) = true := z
      have z : scope.names.lookup y = some .cell := by simpa using z
      have e : cenv.cells.lookup y = some c := e
      rw [hcl] at e
      rcases cells_mem (PySem.mem_of_lookup e) with hm | ⟨_, h2, _⟩
      · rcases cloFrom_mem hm with hm | ⟨h1, _⟩
        · cases hm
        · have q := ok.uniq _ h1
          rw [z] at q; cases q
      · rw [Heap.size_push] at h2
        exact Nat.le_of_succ_le h2
    · show b ≠ cenv.locals
      rw [hL]; exact Nat.ne_of_lt (hfp b hb).2
    · have e : cenv.cells.lookup y = some c := e
      rcases mem e with ⟨h1, _⟩ | ⟨h1, _⟩
      · exact (hfp b hb).1.2.2.2.2.1 y c h1 z
      · have h2 : s.heap.objs.size + 1 ≤ b := by rw [← z]; exact h1
        exact absurd (Nat.lt_of_lt_of_le (hfp b hb).2 (Nat.le_of_succ_le h2)) (Nat.lt_irrefl _)
    · rcases (hfp b hb).1.2.2.2.1 with z | z
      · exact I.ok.noex b o e z
      · exact absurd (Nat.lt_of_lt_of_le (Heap.lt_size e) (Nat.le_trans I.ok.bsz z)) (Nat.lt_irrefl _)
    · rcases List.mem_cons.mp (I.stkSub b z) with z | z
      · exact (hfp b hb).1.2.1 z
      · exact (hfp b hb).1.2.2.1 z
  refine ⟨okB, rfl, I.bare, Un.kept kp, ⟨fun _ => none, ?_, fun i y av e1 e2 e3 => ?_⟩, fun y c e => ?_, ?_, fun y c e => ?_, fun p hp => ?_, I.hok.kept kp, by rw [wipe_length]; exact I.len⟩
  · show Heap.Ns _ cenv.locals _
    rw [hL]
    exact Heap.Ns.keeps (Heap.Ns.new ..) fun b o e => pushCells_keeps _ _ _ _ e
  · obtain ⟨e2, hne⟩ := wipe_some e2
    have hfr : scope.names.lookup y = some .free ∧ (cenv.kindOf y = some .cell ∨ cenv.kindOf y = some .free) := by
      have key : ∀ k, cenv.scope.names.lookup y = some k → k = .local ∨ k = .cell ∨ k = .free → scope.names.lookup y = some .free ∧ (cenv.kindOf y = some .cell ∨ cenv.kindOf y = some .free) := fun k hk hk' => by
        have hk0 := hk
        rw [hsc] at hk
        obtain ⟨k', e, r⟩ := lookup_relS hk
        have no : ¬ (k' = .local ∨ k' = .cell) := fun hh => by
          rcases ok.own _ (PySem.mem_of_lookup e) hh with e' | e'
          · obtain ⟨p, hp, hpy⟩ := List.mem_map.mp e'
            have e3 := ok.ix p hp
            have : p.1 = y := hpy
            rw [this] at e3
            exact hne (List.mem_map.mpr ⟨p, hp, nodup_ix hN e3 e1⟩)
          · exact e' (List.mem_of_getElem? e1)
        rcases r with rfl | ⟨rfl, rfl⟩
        · rcases hk' with rfl | rfl | rfl
          · exact absurd (.inl rfl) no
          · exact absurd (.inr rfl) no
          · exact ⟨e, .inr hk0⟩
        · exact ⟨e, .inl hk0⟩
      have e3 : Vis cenv.scope y := e3
      rcases e3 with e3 | e3 | e3
      · exact key _ e3 (.inl rfl)
      · exact key _ e3 (.inr (.inl rfl))
      · exact key _ e3 (.inr (.inr rfl))
    obtain ⟨m, hn, hl⟩ := I.loc
    have hvis : Vis X.env.scope y := (ok.free _ (PySem.mem_of_lookup hfr.1) rfl).elim (fun k => .inr (.inl k)) (fun k => .inr (.inr k))
    obtain ⟨w, r, q⟩ := hl i y av e1 e2 hvis
    refine ⟨w, r, .inr ⟨hfr.2, ?_⟩⟩
    obtain ⟨c, h1, h2⟩ := look hfr.1
    rcases q with ⟨k, _⟩ | ⟨_, c', e', z⟩
    · have k : X.env.scope.names.lookup y = some .local := k
      rcases ok.free _ (PySem.mem_of_lookup hfr.1) rfl with k' | k' <;> rw [show X.env.scope.names.lookup y = _ from k'] at k <;> cases k
    · rw [h2] at e'; cases e'
      exact ⟨c, h1, z.keeps kp⟩
  · have e : cenv.cells.lookup y = some c := e
    rcases mem e with ⟨h1, _⟩ | ⟨_, z⟩
    · obtain ⟨w, z⟩ := I.cell y c h1
      exact ⟨w, z.keeps kp⟩
    · exact ⟨_, z⟩
  · show H cenv.locals = none
    rw [hL]; exact I.hok.fresh (Nat.le_refl _)
  · have e : cenv.cells.lookup y = some c := e
    rcases mem e with ⟨h1, _⟩ | ⟨h1, _⟩
    · exact I.freeC y c h1
    · exact I.hok.fresh (Nat.le_of_succ_le h1)
  · exact absurd (show p ∈ ([] : List (Addr × Obj)) ++ [] from hp) (by simp)


theorem app_ok {E : Value → Shared → Prop} {D : Addr} {xs : List V} {y : V} {v : Value} {Q : Value → Shared → Prop} (I : Inv X pins σ H s) (hD : H D = some (.lst xs)) (hz : xs.length < sizeLine) (r : RelV y v)
    (h : ∀ s', Inv X pins σ (upd H D (.lst (xs ++ [y]))) s' → Q .none s') : wpAny (model X.prog X.w) X.A (call (.builtin "list.append") [.ref D, v]) Q E s := by
  obtain ⟨hz', its, n, ri, e⟩ := I.hok D _ hD
  have hl := ri.length
  refine append_at (hsz := by rw [List.size_toArray]; omega) e fun h' sb ho' => ?_
  refine h { s with heap := h' } (I.write (t' := s.toks) (by rw [hD]; trivial) (.inl rfl) (fun b u hb q => (sb.2 b hb).trans q) ⟨_, ho'⟩ ⟨by rw [List.length_append]; exact hz, its ++ [v], n + 1, ri.append (.cons r .nil), ?_⟩)
  rw [ho']
  simp


def PTs (X : Cx) (ifs : List Expr) (t : TT) : Prop :=
  ∀ (pins : List (Addr × Obj)) (s : Shared) (σ : St) (H : Hp) (Q : Bool → Hp → Prop), Inv X pins σ H s → t σ H Q →
    wpAny (model X.prog X.w) X.A (forIn ifs true fun c r => if r = true then do let ok ← isTrue c X.env (eval c X.env); pure (ForInStep.yield ok) else pure (ForInStep.yield r)) (TP X pins σ Q) X.xe s
def tYes : TT := fun _ H Q => Q true H
theorem pts_nil : PTs X [] tYes := fun _ _ _ H _ I h => wpAny_tests_nil ⟨H, I, h⟩
theorem pts_one {c : Expr} {t : TT} (h : PT X c t) : PTs X [c] t := fun pins s σ H Q I hw => wpAny_tests_one (h pins s σ H Q I hw)
end

theorem thnF {α : Type} {t : Sem α} {Q Q' : α → Shared → Prop} {M : Model} {A : Around} {E : Value → Shared → Prop} {s : Shared} (h : wpAny M A t Q (fun _ _ => False) s) (hQ : ∀ a s, Q a s → Q' a s) : wpAny M A t Q' E s := wpAny_mono h hQ fun _ _ z => False.elim z


theorem compLoop_any {prog : Program} {w : World} {A : Around} {R : Result → Shared → Prop} {s : Shared} {elt target iter : Expr} {ifs : List Expr} {scope : Scope} {pos : Pos} {it acc : Value} {env : Env} (I : Nat → Shared → Prop)
    (turn : ∀ n s, I n s → wpAny (model prog w) A (pyNext it) (fun r s₁ => match r with
      | none => R (.ok .next) s₁
      | some v => wpAny (model prog w) A (letOwnedTupleGo target it v) (fun _ s₁' => wpAny (model prog w) A (assign target env v) (fun _ s₂ =>
          wpAny (model prog w) A (forIn ifs true fun c r => if r = true then do let ok ← isTrue c env (eval c env); pure (ForInStep.yield ok) else pure (ForInStep.yield r)) (fun ok s₃ =>
            if ok = true then wpAny (model prog w) A (eval elt env) (fun x s₄ =>
              wpAny (model prog w) A (call (.builtin "list.append") [acc, x]) (fun _ s₅ => ∃ m, m < n ∧ I m s₅) (notedBy (model prog w) A env fun e s' => R (.error e) s') s₄) (notedBy (model prog w) A env fun e s' => R (.error e) s') s₃
            else ∃ m, m < n ∧ I m s₃) (notedBy (model prog w) A env fun e s' => R (.error e) s') s₂) (notedBy (model prog w) A env fun e s' => R (.error e) s') s₁') (notedBy (model prog w) A env fun e s' => R (.error e) s') s₁) (notedBy (model prog w) A env fun e s' => R (.error e) s') s)
    (n : Nat) (h : I n s) :
    codeAny (model prog w) A (.compLoop (.ListComp elt [⟨target, iter, ifs, 0⟩] scope pos) 0 it acc env) R s := by
  refine codeAny_loop rfl I (fun n s hI => ?_) n h
  show wpAny _ A ((compTurn (.ListComp elt [⟨target, iter, ifs, 0⟩] scope pos) 0 it acc env).onRaise (fun x => do noteFrame x env; theTreesLotGoes x)) _ _ s
  refine wpAny_noted ?_
  rw [compTurn_list]
  refine wpAny_bind (wpAny_standAt (wpAny_bind (wpAny_mono (turn n s hI) (fun r s₁ h₁ => ?_) fun _ _ h' => h')))
  cases r with
  | none => exact wpAny_pure h₁
  | some v =>
    refine wpAny_bind (wpAny_mono h₁ (fun _ s₁' h₁' => ?_) fun _ _ h' => h')
    refine wpAny_bind (wpAny_mono h₁' (fun _ s₂ h₂ => wpAny_bind (wpAny_mono h₂ (fun ok s₃ h₃ => ?_) fun _ _ h' => h')) fun _ _ h' => h')
    cases ok with
    | false => exact wpAny_pure ⟨rfl, h₃⟩
    | true =>
      exact wpAny_bind (wpAny_bind (wpAny_mono h₃ (fun x s₄ h₄ => wpAny_bind (wpAny_mono h₄ (fun _ s₅ h₅ => wpAny_pure (wpAny_pure ⟨rfl, h₅⟩)) fun _ _ h' => h')) fun _ _ h' => h'))

section
variable {X : Cx}

def tLc (wi : TI) (g : TG) (tt : TT) (te : TE) (vs : List Nat) : TE := fun σ H Q => wi σ H fun J H1 => ∀ D, H1 D = none → ∃ W : Nat → Nat → Hp → Prop, (∃ m, W 0 m (upd H1 D (.lst []))) ∧ ∀ i m H, W i m H →
  (J.stop i H ∧ Q (.ref D) H) ∨ (J.go i H ∧ ∃ Nx : Hp → Prop, (∀ H', Nx H' → ∃ m', m' < m ∧ W (i + 1) m' H') ∧ ∀ x H', J.yld i H x H' → g x (wipe σ vs) H' fun σ2 H2 => wipe σ2 vs = wipe σ vs ∧ tt σ2 H2 fun b H3 =>
    if b = true then te σ2 H3 fun y H4 => ∃ acc, H4 D = some (.lst acc) ∧ acc.length < sizeLine ∧ Nx (upd H4 D (.lst (acc ++ [y]))) else Nx H3)
theorem lc_core {pins : List (Addr × Obj)} {s : Shared} {σ : St} {H : Hp} {Q : VK} {elt tg iter : Expr} {ifs : List Expr} {scope : Scope} {own : List (Str × Nat)} {pos pos' : Pos} {wi : TI} {g : TG} {tt : TT} {te : TE} {use : Option (Value → Sem Unit)} {Qf : Value → Shared → Prop}
    (hc : X.calm = true) (hN : X.N.Nodup) (I : Inv X pins σ H s) (hi : PI X tg iter wi) (ok : BlkOk X.N X.env.scope scope own)
    (hg : ∀ (s : Shared) (H : Hp) (C : Addr) (cl : List (Str × Addr)) (fp : List Addr), PG (X.blk s H scope (compEnvC scope cl C X.env) fp) tg g) (ht : ∀ (s : Shared) (H : Hp) (C : Addr) (cl : List (Str × Addr)) (fp : List Addr), PTs (X.blk s H scope (compEnvC scope cl C X.env) fp) ifs tt)
    (he : ∀ (s : Shared) (H : Hp) (C : Addr) (cl : List (Str × Addr)) (fp : List Addr), PE (X.blk s H scope (compEnvC scope cl C X.env) fp) elt te) (hs : ∀ x, foldedSetIterable iter X.env x = pure x)
    (h : tLc wi g tt te (own.map (·.2)) σ H Q)
    (hRR : ∀ D C s' m H', Inv X pins σ H' s' → Q (.ref D) H' → s'.heap.Ns C m → FpOk X pins H' C → compPost (model X.prog X.w) X.A X.xe use Qf (.ref D) C (.ok .next) s') :
    wpAny (model X.prog X.w) X.A (comprehension (.ListComp elt [⟨tg, iter, ifs, 0⟩] scope pos) scope X.env pos' (newList []) false (eval iter X.env) use) Qf X.xe s := by
  have hfree : ∀ y ∈ scope.names, y.2 = .free → ∃ c, X.env.cells.lookup y.1 = some c := fun y hy e => by
    rcases ok.free y hy e with k | k
    · exact I.ok.has _ (.inl k)
    · exact I.ok.has _ (.inr k)
  refine wpAny_comprehension_free (use := use) rfl hs (closure_ok hfree) ok.kind (fun y hy e => by rw [ok.uniq y hy, e])
    (thn (hi pins s σ H _ I h) fun xv s1 hx => thn hx fun itv s2 h2 => ?_)
  obtain ⟨it, fp, tn, J, H2, e, I2, T, st2, f2, q⟩ := h2
  subst e
  refine wpAny_newObj_type (newEnv_comp ?_) (by show 0 ≤ sizeLine; decide)
  generalize hD : s2.heap.objs.size = D
  have hDn : H2 D = none := I2.hok.fresh (Nat.le_of_eq hD)
  obtain ⟨W, ⟨m0, w0⟩, turn⟩ := q D hDn
  -- the new list
  generalize hs3 : ({ s2 with heap := s2.heap.push { cls := .type "list", data := .seq ([] : List Value).toArray } } : Shared) = s3
  have I3 : Inv X pins σ (upd H2 D (.lst [])) s3 := by
    rw [← hs3]
    refine I2.laid (t' := s2.toks) (fun b o e => Heap.get?_push_of_some _ e) (Nat.le_of_eq hD) ⟨Nat.zero_le _, [], 0, .nil, ?_⟩
    rw [← hD]
    exact Heap.get?_push_size _ rfl
  have h3 : s3.heap = s2.heap.push { cls := .type "list", data := .seq ([] : List Value).toArray } := by rw [← hs3]
  have sz : ∀ b ∈ fp, b < s2.heap.objs.size := fun b hb => by
    obtain ⟨o, e, _⟩ := T.obj _ _ st2 b hb
    exact Heap.lt_size e
  have f3 : ∀ b ∈ fp, FpOk X pins (upd H2 D (.lst [])) b ∧ b < s3.heap.objs.size := fun b hb => by
    have hlt := sz b hb
    refine ⟨⟨?_, (f2 b hb).2⟩, by rw [h3, Heap.size_push]; exact Nat.lt_succ_of_lt hlt⟩
    rw [upd_ne (by rw [← hD]; exact Nat.ne_of_lt hlt)]
    exact (f2 b hb).1
  have st3 : tn 0 s3.heap := T.keep _ _ _ st2 fun b _ o e => by rw [h3]; exact Heap.get?_push_of_some _ e
  have I4 := block_start I3 ok hN f3
  have pg := hg s3 (upd H2 D (.lst [])) s3.heap.objs.size (cellsFrom (s3.heap.objs.size + 1) scope.names (cloFrom X.env.cells scope.names [])) fp
  have pt := ht s3 (upd H2 D (.lst [])) s3.heap.objs.size (cellsFrom (s3.heap.objs.size + 1) scope.names (cloFrom X.env.cells scope.names [])) fp
  have pe := he s3 (upd H2 D (.lst [])) s3.heap.objs.size (cellsFrom (s3.heap.objs.size + 1) scope.names (cloFrom X.env.cells scope.names [])) fp
  show codeAny _ _ (.compStart (.ListComp elt [⟨tg, iter, ifs, 0⟩] scope pos) 0 (.ref it) (.ref D) (compEnvC scope (cellsFrom (s3.heap.objs.size + 1) scope.names (cloFrom X.env.cells scope.names [])) s3.heap.objs.size X.env)) (compPost (model X.prog X.w) X.A X.xe use Qf (.ref D) s3.heap.objs.size) { s3 with heap := pushCells (s3.heap.push { cls := .type "dict", data := .dict #[] }) scope.names }
  have nfp : ∀ b ∈ fp, (upd H2 D (.lst [])) b = none := fun b hb => (f3 b hb).1.1
  generalize hce : compEnvC scope (cellsFrom (s3.heap.objs.size + 1) scope.names (cloFrom X.env.cells scope.names [])) s3.heap.objs.size X.env = ce at I4 pg pt pe ⊢
  have cL : ce.locals = s3.heap.objs.size := by subst hce; rfl
  generalize hH3 : upd H2 D (.lst []) = H3 at I3 I4 pg pt pe w0 nfp f3
  generalize hs4 : ({ s3 with heap := pushCells (s3.heap.push { cls := .type "dict", data := .dict #[] }) scope.names } : Shared) = s4 at I4 ⊢
  have st4 : tn 0 s4.heap := T.keep _ _ _ st3 fun b _ o e => by rw [← hs4]; exact pushCells_keeps _ _ _ _ (Heap.get?_push_of_some _ e)
  have stat : ∀ {σ' : St} {H' : Hp} {s' : Shared}, Inv (X.blk s3 H3 scope ce fp) [] σ' H' s' → (∀ b ∈ fp, H' b = none) → ∀ b ∈ fp, FpOk (X.blk s3 H3 scope ce fp) [] H' b := fun {σ' H' s'} I' hn b hb =>
    ⟨hn b hb, (I'.ok.exf b hb).1, I'.ok.exfs b hb, .inl hb, fun x c e => (I'.ok.exf b hb).2 x c e, fun p hp => absurd (show p ∈ ([] : List (Addr × Obj)) ++ [] from hp) (by simp)⟩
  have loop : codeAny (model X.prog X.w) X.A (.compLoop (.ListComp elt [⟨tg, iter, ifs, 0⟩] scope pos) 0 (.ref it) (.ref D) ce) (compPost (model X.prog X.w) X.A X.xe use Qf (.ref D) s3.heap.objs.size) s4 := by
    refine compLoop_any (fun n s' => ∃ i H', Inv (X.blk s3 H3 scope ce fp) [] (wipe σ (own.map (·.2))) H' s' ∧ tn i s'.heap ∧ (∀ b ∈ fp, H' b = none) ∧ W i n H') ?_ m0 ⟨0, H3, I4, st4, nfp, w0⟩
    rintro n s5 ⟨i, H5, I5, st5, n5, w5⟩
    rcases turn i n H5 w5 with ⟨stop, qq⟩ | ⟨go, Nx, hNx, step⟩
    · have td := T.done (X.blk s3 H3 scope ce fp) rfl rfl rfl hc i [] s5 _ H5 (fun _ _ => False) I5 (stat I5 n5) st5 stop
      refine thnF td fun r s6 ⟨hr, I6⟩ => ?_
      subst hr
      -- back in the def's context
      have I7 : Inv X pins σ H5 s6 := I3.call' (ch := fp) I6.os I6.base I6.hok I6.bare fun b hb => ⟨(f3 b hb).1.2.2.2.1, (f3 b hb).1.2.1, (f3 b hb).1.2.2.2.2.1, (f3 b hb).1.2.2.2.2.2⟩
      have nC : H5 s3.heap.objs.size = none := by
        have z : H5 ce.locals = none := I6.free
        rw [cL] at z
        exact z
      obtain ⟨m, hn, _⟩ := I6.loc
      have hn : s6.heap.Ns ce.locals m := hn
      rw [cL] at hn
      exact hRR D s3.heap.objs.size s6 m H5 I7 qq hn (I3.fpOk (Nat.le_refl _) nC)
    · have ti := T.item (X.blk s3 H3 scope ce fp) rfl rfl rfl hc i [] s5 _ H5 (fun _ _ => False) I5 (stat I5 n5) st5 go
      refine thnF ti fun r s6 ⟨u, hr, h6⟩ => ?_
      subst hr
      refine thnF h6 fun _ s7 ⟨x, H7, I7, r7, y7, st7, n7⟩ => ?_
      have I7' := I7.pinned (stat I7 n7) (T.obj _ _ st7)
      refine thnF (pg _ s7 _ H7 x u _ I7' r7 (step x H7 y7)) fun _ s8 ⟨σ8, H8, I8, hw8, q8⟩ => ?_
      refine thnF (pt _ s8 σ8 H8 _ I8 q8) fun b s9 ⟨H9, I9, q9⟩ => ?_
      -- the turn's end
      have fin : ∀ {s' : Shared} {H' : Hp}, Inv (X.blk s3 H3 scope ce fp) ([] ++ pinsAt fp s7.heap) σ8 H' s' → Nx H' → ∃ m, m < n ∧ ∃ i H', Inv (X.blk s3 H3 scope ce fp) [] (wipe σ (own.map (·.2))) H' s' ∧ tn i s'.heap ∧ (∀ b ∈ fp, H' b = none) ∧ W i m H' := fun {s' H'} I' nx => by
        obtain ⟨m', hm, w'⟩ := hNx H' nx
        have pin' : ∀ b ∈ fp, ∀ o, s7.heap.get? b = some o → s'.heap.get? b = some o ∧ H' b = none := fun b hb o e =>
          let z := I'.pin (b, o) (List.mem_append_right _ (List.mem_append_right _ (mem_pinsAt hb e)))
          ⟨z.1, z.2.1⟩
        have hl : (wipe σ (own.map (·.2))).length = σ8.length := by rw [← hw8, wipe_length]
        refine ⟨m', hm, i + 1, H', (I'.unpinned (pins := [])).weak hl (fun j v e => ?_), T.keep _ _ _ st7 fun b hb o e => (pin' b hb o e).1, fun b hb => ?_, w'⟩
        · rw [← hw8] at e
          exact (wipe_some e).1
        · obtain ⟨o, e, _⟩ := T.obj _ _ st7 b hb
          exact (pin' b hb o e).2
      cases b with
      | false =>
        simp only [Bool.false_eq_true, if_false] at q9 ⊢
        exact fin I9 q9
      | true =>
        simp only [if_true] at q9 ⊢
        refine thnF (pe _ s9 σ8 H9 _ I9 q9) fun z s10 ⟨yv, H10, I10, r10, acc, hD10, hz10, nx⟩ => ?_
        exact app_ok (X := X.blk s3 H3 scope ce fp) I10 hD10 hz10 r10 fun s11 I11 => fin I11 nx
  exact codeAny_compStart_list loop (T.self X.A 0 _ _ _ st4 loop)

theorem pe_lc {elt tg iter : Expr} {ifs : List Expr} {scope : Scope} {own : List (Str × Nat)} {pos : Pos} {wi : TI} {g : TG} {tt : TT} {te : TE} (hc : X.calm = true) (hN : X.N.Nodup) (hi : PI X tg iter wi) (ok : BlkOk X.N X.env.scope scope own)
    (hg : ∀ (s : Shared) (H : Hp) (C : Addr) (cl : List (Str × Addr)) (fp : List Addr), PG (X.blk s H scope (compEnvC scope cl C X.env) fp) tg g) (ht : ∀ (s : Shared) (H : Hp) (C : Addr) (cl : List (Str × Addr)) (fp : List Addr), PTs (X.blk s H scope (compEnvC scope cl C X.env) fp) ifs tt)
    (he : ∀ (s : Shared) (H : Hp) (C : Addr) (cl : List (Str × Addr)) (fp : List Addr), PE (X.blk s H scope (compEnvC scope cl C X.env) fp) elt te) (hs : ∀ x, foldedSetIterable iter X.env x = pure x := by intro _; rfl) :
    PE X (.ListComp elt [⟨tg, iter, ifs, 0⟩] scope pos) (tLc wi g tt te (own.map (·.2))) := by
  intro pins s σ H Q I h
  rw [eval_ListComp]
  refine lc_core hc hN I hi ok hg ht he hs h fun D C s' m H' I' q hn f => ⟨m, hn, fun h'' sb => ?_⟩
  obtain ⟨f0, f1, f2, f3, f4, f5⟩ := f
  exact ⟨.ref D, H', I'.turned (t' := s'.toks) (fun b o hb e => (sb.2 b hb).trans e) f0 f1 f3 f4 f5, rfl, q⟩

theorem ps_setLc {i : Nat} {y : Str} {py : Pos} {elt tg iter : Expr} {ifs : List Expr} {scope : Scope} {own : List (Str × Nat)} {pos spos : Pos} {wi : TI} {g : TG} {tt : TT} {te : TE} (hc : X.calm = true) (hN : X.N.Nodup) (hy : X.N[i]? = some y) (hyl : X.env.scope.names.lookup y = some .local)
    (hsw : swapsWith (.ListComp elt [⟨tg, iter, ifs, 0⟩] scope pos) (some (.Name y py)) spos.line X.env = pure true) (hi : PI X tg iter wi) (ok : BlkOk X.N X.env.scope scope own)
    (hg : ∀ (s : Shared) (H : Hp) (C : Addr) (cl : List (Str × Addr)) (fp : List Addr), PG (X.blk s H scope (compEnvC scope cl C X.env) fp) tg g) (ht : ∀ (s : Shared) (H : Hp) (C : Addr) (cl : List (Str × Addr)) (fp : List Addr), PTs (X.blk s H scope (compEnvC scope cl C X.env) fp) ifs tt)
    (he : ∀ (s : Shared) (H : Hp) (C : Addr) (cl : List (Str × Addr)) (fp : List Addr), PE (X.blk s H scope (compEnvC scope cl C X.env) fp) elt te) (hs : ∀ x, foldedSetIterable iter X.env x = pure x := by intro _; rfl) :
    PS X (.Assign [.Name y py] (.ListComp elt [⟨tg, iter, ifs, 0⟩] scope pos) spos) (tAsg (tLc wi g tt te (own.map (·.2))) (gName i)) := by
  intro pins s σ H D I h
  rw [exec_Assign_Name_used _ _ _ _ hsw]
  refine wpAny_bind (wpAny_standAt (wpAny_bind ?_))
  show wpAny _ X.A (do let _ ← comprehension (.ListComp elt [⟨tg, iter, ifs, 0⟩] scope pos) scope X.env (firstIterPos [⟨tg, iter, ifs, 0⟩] pos) (newList []) false (eval iter X.env) (some (assign (.Name y py) X.env))) _ _ s
  have h : tLc wi g tt te (own.map (·.2)) σ H (fun x H1 => gName i x σ H1 D.nx) := h
  refine wpAny_bind (thn (lc_core (Qf := fun _ s' => SP X pins D .next s') hc hN I hi ok hg ht he hs h fun L C s' m H' I' q hn f => ?_) fun _ s' hq => wpAny_pure (wpAny_pure hq))
  show wpAny _ _ (assign (.Name y py) X.env (.ref L)) _ _ _
  refine wpAny_assign_Name (store_ok2 (v := V.ref L) I' hN hy (.inl hyl) rfl (fun s2 I2 ⟨a, sb, ha⟩ => ?_) (.inr hyl))
  obtain ⟨f0, f1, f2, f3, f4, f5⟩ := f
  have haC : C ≠ a := by
    rcases ha with z | z
    · rw [z]; exact f1
    · exact fun e => f4 y a z e.symm
  refine ⟨m, hn.sameBut sb haC, fun h3 sb3 => ?_⟩
  exact ⟨_, H', I2.turned (t' := s2.toks) (fun b o hb e => (sb3.2 b hb).trans e) f0 f1 f3 f4 f5, q⟩
theorem sw_true {elt : Expr} {gs : List Comprehension} {scope : Scope} {pos py : Pos} {y : Str} {l : Nat} {env : Env} (hk : env.scope.kind = .function) (hy : env.scope.names.lookup y = some .local) (hl : (py.line == pos.line) = true)
    (ha : (scope.names.any fun (n, k) => n == y && (k == .local || k == .cell)) = false) : swapsWith (.ListComp elt gs scope pos) (some (.Name y py)) l env = pure true := by
  have ky : env.kindOf y = some .local := hy
  have hb : env.blockKind = .function := by unfold Env.blockKind; rw [hk]; rfl
  unfold swapsWith
  simp only [hb, ky, ha, Expr.pos, hl]
  rfl
end



def blkC (N : List Str) (sc scope : Scope) (own : List (Str × Nat)) : Bool :=
  (match scope.kind with | .function => true | _ => false) && (scope.names.all fun y => decide (scope.names.lookup y.1 = some y.2)) && (own.all fun p => decide (N[p.2]? = some p.1)) &&
    (scope.names.all fun y => match y.2 with
      | .free => (match sc.names.lookup y.1 with | some .cell => true | some .free => true | _ => false)
      | .local => decide (y.1 ∈ own.map (·.1)) || decide (y.1 ∉ N)
      | .cell => decide (y.1 ∈ own.map (·.1)) || decide (y.1 ∉ N)
      | _ => true)
theorem blkOk_by {N : List Str} {sc scope : Scope} {own : List (Str × Nat)} (h : blkC N sc scope own = true) : BlkOk N sc scope own := by
  unfold blkC at h
  simp only [Bool.and_eq_true, List.all_eq_true, decide_eq_true_eq] at h
  obtain ⟨⟨⟨h1, h2⟩, h3⟩, h4⟩ := h
  refine ⟨?_, h2, h3, fun y hy e => ?_, fun y hy e => ?_⟩
  · split at h1
    · assumption
    · cases h1
  · have q := h4 y hy
    simp only [e] at q
    split at q <;> first | exact .inl (by assumption) | exact .inr (by assumption) | cases q
  · have q := h4 y hy
    rcases e with e | e <;> (simp only [e, Bool.or_eq_true, decide_eq_true_eq] at q; exact q)
end L2

namespace L2
open PySem PySem.Spec PyProof.Rows

theorem compTurn2_out (elt t0 i0 t1 i1 : Expr) (ifs0 ifs1 : List Expr) (scope : Scope) (pos : Pos) (it acc : Value) (env : Env) :
    compTurn (.ListComp elt [⟨t0, i0, ifs0, 0⟩, ⟨t1, i1, ifs1, 0⟩] scope pos) 0 it acc env = (do
      standAt i0.pos
      match ← pyNext it with
      | none => pure (.done .next)
      | some v =>
        letOwnedTupleGo t0 it v
        assign t0 env v
        let mut ok := true
        for c in ifs0 do
          if ok then ok ← isTrue c env (eval c env)
        if ok then
          let x ← eval i1 env
          standAt i1.pos
          let x ← foldedSetIterable i1 env x
          let _ ← runOwn (.compStart (.ListComp elt [⟨t0, i0, ifs0, 0⟩, ⟨t1, i1, ifs1, 0⟩] scope pos) 1 (← holding [x] (pyIter x)) acc env) env
        again (.compLoop (.ListComp elt [⟨t0, i0, ifs0, 0⟩, ⟨t1, i1, ifs1, 0⟩] scope pos) 0 it acc env)) := by rfl
theorem compTurn2_in (elt t0 i0 t1 i1 : Expr) (ifs0 ifs1 : List Expr) (scope : Scope) (pos : Pos) (it acc : Value) (env : Env) :
    compTurn (.ListComp elt [⟨t0, i0, ifs0, 0⟩, ⟨t1, i1, ifs1, 0⟩] scope pos) 1 it acc env = (do
      standAt i1.pos
      match ← pyNext it with
      | none => pure (.done .next)
      | some v =>
        letOwnedTupleGo t1 it v
        assign t1 env v
        let mut ok := true
        for c in ifs1 do
          if ok then ok ← isTrue c env (eval c env)
        if ok then
          (do let _ ← call (.builtin "list.append") [acc, ← eval elt env])
        again (.compLoop (.ListComp elt [⟨t0, i0, ifs0, 0⟩, ⟨t1, i1, ifs1, 0⟩] scope pos) 1 it acc env)) := by rfl

section
variable {prog : Program} {w : World} {A : Around} {R : Result → Shared → Prop} {s : Shared} {elt t0 i0 t1 i1 : Expr} {ifs0 ifs1 : List Expr} {scope : Scope} {pos : Pos} {it acc : Value} {env : Env}

theorem compLoop2_out (hs : ∀ x, foldedSetIterable i1 env x = pure x) (I : Nat → Shared → Prop)
    (turn : ∀ n s, I n s → wpAny (model prog w) A (pyNext it) (fun r s₁ => match r with
      | none => R (.ok .next) s₁
      | some v => wpAny (model prog w) A (letOwnedTupleGo t0 it v) (fun _ s₁' => wpAny (model prog w) A (assign t0 env v) (fun _ s₂ =>
          wpAny (model prog w) A (forIn ifs0 true fun c r => if r = true then do let ok ← isTrue c env (eval c env); pure (ForInStep.yield ok) else pure (ForInStep.yield r)) (fun ok s₃ =>
            if ok = true then wpAny (model prog w) A (eval i1 env) (fun x s₄ => wpAny (model prog w) A (pyIter x) (fun it1 s₅ =>
              codeAny (model prog w) A (.compStart (.ListComp elt [⟨t0, i0, ifs0, 0⟩, ⟨t1, i1, ifs1, 0⟩] scope pos) 1 it1 acc env) (fun r s' => match r with
                | .ok _ => ∃ m, m < n ∧ I m s'
                | .error _ => False) s₅) (notedBy (model prog w) A env fun e s' => R (.error e) s') s₄) (notedBy (model prog w) A env fun e s' => R (.error e) s') s₃
            else ∃ m, m < n ∧ I m s₃) (notedBy (model prog w) A env fun e s' => R (.error e) s') s₂) (notedBy (model prog w) A env fun e s' => R (.error e) s') s₁') (notedBy (model prog w) A env fun e s' => R (.error e) s') s₁) (notedBy (model prog w) A env fun e s' => R (.error e) s') s)
    (n : Nat) (h : I n s) :
    codeAny (model prog w) A (.compLoop (.ListComp elt [⟨t0, i0, ifs0, 0⟩, ⟨t1, i1, ifs1, 0⟩] scope pos) 0 it acc env) R s := by
  refine codeAny_loop rfl I (fun n s hI => ?_) n h
  show wpAny _ A ((compTurn (.ListComp elt [⟨t0, i0, ifs0, 0⟩, ⟨t1, i1, ifs1, 0⟩] scope pos) 0 it acc env).onRaise (fun x => do noteFrame x env; theTreesLotGoes x)) _ _ s
  refine wpAny_noted ?_
  rw [compTurn2_out]
  refine wpAny_bind (wpAny_standAt (wpAny_bind (wpAny_mono (turn n s hI) (fun r s₁ h₁ => ?_) fun _ _ h' => h')))
  cases r with
  | none => exact wpAny_pure h₁
  | some v =>
    refine wpAny_bind (wpAny_mono h₁ (fun _ s₁' h₁' => ?_) fun _ _ h' => h')
    refine wpAny_bind (wpAny_mono h₁' (fun _ s₂ h₂ => wpAny_bind (wpAny_mono h₂ (fun ok s₃ h₃ => ?_) fun _ _ h' => h')) fun _ _ h' => h')
    cases ok with
    | false => exact wpAny_pure ⟨rfl, h₃⟩
    | true =>
      refine wpAny_bind (wpAny_mono h₃ (fun x s₄ h₄ => ?_) fun _ _ h' => h')
      refine wpAny_bind (wpAny_standAt (wpAny_bind (wpAny_of_eq (hs x) (wpAny_bind (wpAny_holding (wpAny_mono h₄ (fun it1 s₅ h₅ => ?_) fun _ _ h' => h'))))))
      refine wpAny_bind (wpAny_runOwn ?_)
      rw [Around.mark_none]
      refine codeAny_mono h₅ fun r s' hr => ?_
      cases r with
      | ok f =>
        first
          | exact wpAny_pure ⟨rfl, hr⟩
          | exact wpAny_bind (wpAny_pure (wpAny_pure ⟨rfl, hr⟩))
      | error e => exact hr.elim

theorem compLoop2_in (I : Nat → Shared → Prop)
    (turn : ∀ n s, I n s → wpAny (model prog w) A (pyNext it) (fun r s₁ => match r with
      | none => R (.ok .next) s₁
      | some v => wpAny (model prog w) A (letOwnedTupleGo t1 it v) (fun _ s₁' => wpAny (model prog w) A (assign t1 env v) (fun _ s₂ =>
          wpAny (model prog w) A (forIn ifs1 true fun c r => if r = true then do let ok ← isTrue c env (eval c env); pure (ForInStep.yield ok) else pure (ForInStep.yield r)) (fun ok s₃ =>
            if ok = true then wpAny (model prog w) A (eval elt env) (fun x s₄ =>
              wpAny (model prog w) A (call (.builtin "list.append") [acc, x]) (fun _ s₅ => ∃ m, m < n ∧ I m s₅) (notedBy (model prog w) A env fun e s' => R (.error e) s') s₄) (notedBy (model prog w) A env fun e s' => R (.error e) s') s₃
            else ∃ m, m < n ∧ I m s₃) (notedBy (model prog w) A env fun e s' => R (.error e) s') s₂) (notedBy (model prog w) A env fun e s' => R (.error e) s') s₁') (notedBy (model prog w) A env fun e s' => R (.error e) s') s₁) (notedBy (model prog w) A env fun e s' => R (.error e) s') s)
    (n : Nat) (h : I n s) :
    codeAny (model prog w) A (.compLoop (.ListComp elt [⟨t0, i0, ifs0, 0⟩, ⟨t1, i1, ifs1, 0⟩] scope pos) 1 it acc env) R s := by
  refine codeAny_loop rfl I (fun n s hI => ?_) n h
  show wpAny _ A ((compTurn (.ListComp elt [⟨t0, i0, ifs0, 0⟩, ⟨t1, i1, ifs1, 0⟩] scope pos) 1 it acc env).onRaise (fun x => do noteFrame x env; theTreesLotGoes x)) _ _ s
  refine wpAny_noted ?_
  rw [compTurn2_in]
  refine wpAny_bind (wpAny_standAt (wpAny_bind (wpAny_mono (turn n s hI) (fun r s₁ h₁ => ?_) fun _ _ h' => h')))
  cases r with
  | none => exact wpAny_pure h₁
  | some v =>
    refine wpAny_bind (wpAny_mono h₁ (fun _ s₁' h₁' => ?_) fun _ _ h' => h')
    refine wpAny_bind (wpAny_mono h₁' (fun _ s₂ h₂ => wpAny_bind (wpAny_mono h₂ (fun ok s₃ h₃ => ?_) fun _ _ h' => h')) fun _ _ h' => h')
    cases ok with
    | false => exact wpAny_pure ⟨rfl, h₃⟩
    | true =>
      exact wpAny_bind (wpAny_bind (wpAny_mono h₃ (fun x s₄ h₄ => wpAny_bind (wpAny_mono h₄ (fun _ s₅ h₅ => wpAny_pure (wpAny_pure ⟨rfl, h₅⟩)) fun _ _ h' => h')) fun _ _ h' => h'))

theorem compStart1_ok (h0 : codeAny (model prog w) A (.compLoop (.ListComp elt [⟨t0, i0, ifs0, 0⟩, ⟨t1, i1, ifs1, 0⟩] scope pos) 1 it acc env) R s)
    (h : wpAny (model prog w) A (pyIter it) (fun it' s' => codeAny (model prog w) A (.compLoop (.ListComp elt [⟨t0, i0, ifs0, 0⟩, ⟨t1, i1, ifs1, 0⟩] scope pos) 1 it' acc env) R s')
      (notedBy (model prog w) A env fun x s' => R (.error x) s') s) :
    codeAny (model prog w) A (.compStart (.ListComp elt [⟨t0, i0, ifs0, 0⟩, ⟨t1, i1, ifs1, 0⟩] scope pos) 1 it acc env) R s := by
  refine codeAny_of_tree ?_
  show wpAny _ _ ((compStart (.ListComp elt [⟨t0, i0, ifs0, 0⟩, ⟨t1, i1, ifs1, 0⟩] scope pos) 1 it acc env).onRaise (fun x => do noteFrame x env; standAt theWindowsPlace)) _ _ s
  refine wpAny_notedAt ?_
  unfold compStart
  show wpAny _ _ (ask >>= _) _ _ s
  refine wpAny_bind (wpAny_askSetting (wpAny_ite ?_))
  split
  · first
      | exact wpAny_bind (wpAny_pure (wpAny_pure (And.intro rfl h0)))
      | exact wpAny_pure (And.intro rfl h0)
  · first
      | exact wpAny_bind (wpAny_rule (wpAny_bind (wpAny_standAt (wpAny_bind (wpAny_mono h (fun it' s' h' => wpAny_pure (And.intro rfl h')) fun _ _ x => x)))))
      | (refine wpAny_bind (wpAny_rule ?_); show wpAny _ _ (standAt i1.pos >>= _) _ _ s; exact wpAny_bind (wpAny_standAt (wpAny_bind (wpAny_mono h (fun it' s' h' => wpAny_pure (And.intro rfl h')) fun _ _ x => x))))
end

theorem wipe_out {σ : St} {i : Nat} : ∀ {vs : List Nat}, i ∉ vs → (wipe σ vs)[i]? = σ[i]?
  | [], _ => rfl
  | v :: vs, h => by
    have h1 : v ≠ i := fun e => h (by rw [e]; exact List.mem_cons_self)
    have h2 : i ∉ vs := fun m => h (List.mem_cons_of_mem _ m)
    unfold wipe
    rw [List.getElem?_set_ne h1]
    exact wipe_out h2
section
variable {X : Cx}

def tLc2 (wi : TI) (g : TG) (tt : TT) (wi1 : TI) (g1 : TG) (tt1 : TT) (te : TE) (vs vs1 : List Nat) : TE := fun σ H Q => wi σ H fun J H1 => ∀ D, H1 D = none → ∃ W : Nat → Nat → Hp → Prop, (∃ m, W 0 m (upd H1 D (.lst []))) ∧ ∀ i m H, W i m H →
  (J.stop i H ∧ Q (.ref D) H) ∨ (J.go i H ∧ ∃ Nx : Hp → Prop, (∀ H', Nx H' → ∃ m', m' < m ∧ W (i + 1) m' H') ∧ ∀ x H', J.yld i H x H' → g x (wipe σ vs) H' fun σ2 H2 => wipe σ2 vs = wipe σ vs ∧ tt σ2 H2 fun b H3 =>
    if b = true then wi1 σ2 H3 fun J1 H4 => ∃ W1 : Nat → Nat → Hp → Prop, (∃ m, W1 0 m H4) ∧ ∀ j k H, W1 j k H →
      (J1.stop j H ∧ Nx H) ∨ (J1.go j H ∧ ∃ Nx1 : Hp → Prop, (∀ H', Nx1 H' → ∃ k', k' < k ∧ W1 (j + 1) k' H') ∧ ∀ x H', J1.yld j H x H' → g1 x (wipe σ2 vs1) H' fun σ3 H5 => wipe σ3 vs1 = wipe σ2 vs1 ∧ tt1 σ3 H5 fun b H6 =>
        if b = true then te σ3 H6 fun y H7 => ∃ acc, H7 D = some (.lst acc) ∧ acc.length < sizeLine ∧ Nx1 (upd H7 D (.lst (acc ++ [y]))) else Nx1 H6)
    else Nx H3)
theorem lc2_core {pins : List (Addr × Obj)} {s : Shared} {σ : St} {H : Hp} {Q : VK} {elt tg iter tg1 iter1 : Expr} {ifs ifs1 : List Expr} {scope : Scope} {own : List (Str × Nat)} {vs1 : List Nat} {pos pos' : Pos} {wi wi1 : TI} {g g1 : TG} {tt tt1 : TT} {te : TE} {use : Option (Value → Sem Unit)} {Qf : Value → Shared → Prop}
    (hc : X.calm = true) (hN : X.N.Nodup) (I : Inv X pins σ H s) (hi : PI X tg iter wi) (ok : BlkOk X.N X.env.scope scope own) (hv : ∀ i ∈ vs1, i ∈ own.map (·.2))
    (hg : ∀ (s : Shared) (H : Hp) (C : Addr) (cl : List (Str × Addr)) (fp : List Addr), PG (X.blk s H scope (compEnvC scope cl C X.env) fp) tg g) (ht : ∀ (s : Shared) (H : Hp) (C : Addr) (cl : List (Str × Addr)) (fp : List Addr), PTs (X.blk s H scope (compEnvC scope cl C X.env) fp) ifs tt)
    (he : ∀ (s : Shared) (H : Hp) (C : Addr) (cl : List (Str × Addr)) (fp : List Addr), PE (X.blk s H scope (compEnvC scope cl C X.env) fp) elt te) (hs : ∀ x, foldedSetIterable iter X.env x = pure x)
    (hi1 : ∀ (s : Shared) (H : Hp) (C : Addr) (cl : List (Str × Addr)) (fp : List Addr), PI (X.blk s H scope (compEnvC scope cl C X.env) fp) tg1 iter1 wi1)
    (hg1 : ∀ (s : Shared) (H : Hp) (C : Addr) (cl : List (Str × Addr)) (fp : List Addr), PG (X.blk s H scope (compEnvC scope cl C X.env) fp) tg1 g1)
    (ht1 : ∀ (s : Shared) (H : Hp) (C : Addr) (cl : List (Str × Addr)) (fp : List Addr), PTs (X.blk s H scope (compEnvC scope cl C X.env) fp) ifs1 tt1)
    (hs1 : ∀ env x, foldedSetIterable iter1 env x = pure x)
    (h : tLc2 wi g tt wi1 g1 tt1 te (own.map (·.2)) vs1 σ H Q)
    (hRR : ∀ D C s' m H', Inv X pins σ H' s' → Q (.ref D) H' → s'.heap.Ns C m → FpOk X pins H' C → compPost (model X.prog X.w) X.A X.xe use Qf (.ref D) C (.ok .next) s') :
    wpAny (model X.prog X.w) X.A (comprehension (.ListComp elt [⟨tg, iter, ifs, 0⟩, ⟨tg1, iter1, ifs1, 0⟩] scope pos) scope X.env pos' (newList []) false (eval iter X.env) use) Qf X.xe s := by
  have hfree : ∀ y ∈ scope.names, y.2 = .free → ∃ c, X.env.cells.lookup y.1 = some c := fun y hy e => by
    rcases ok.free y hy e with k | k
    · exact I.ok.has _ (.inl k)
    · exact I.ok.has _ (.inr k)
  refine wpAny_comprehension_free (use := use) rfl hs (closure_ok hfree) ok.kind (fun y hy e => by rw [ok.uniq y hy, e])
    (thn (hi pins s σ H _ I h) fun xv s1 hx => thn hx fun itv s2 h2 => ?_)
  obtain ⟨it, fp, tn, J, H2, e, I2, T, st2, f2, q⟩ := h2
  subst e
  refine wpAny_newObj_type (newEnv_comp ?_) (by show 0 ≤ sizeLine; decide)
  generalize hD : s2.heap.objs.size = D
  have hDn : H2 D = none := I2.hok.fresh (Nat.le_of_eq hD)
  obtain ⟨W, ⟨m0, w0⟩, turn⟩ := q D hDn
  -- the new list
  generalize hs3 : ({ s2 with heap := s2.heap.push { cls := .type "list", data := .seq ([] : List Value).toArray } } : Shared) = s3
  have I3 : Inv X pins σ (upd H2 D (.lst [])) s3 := by
    rw [← hs3]
    refine I2.laid (t' := s2.toks) (fun b o e => Heap.get?_push_of_some _ e) (Nat.le_of_eq hD) ⟨Nat.zero_le _, [], 0, .nil, ?_⟩
    rw [← hD]
    exact Heap.get?_push_size _ rfl
  have h3 : s3.heap = s2.heap.push { cls := .type "list", data := .seq ([] : List Value).toArray } := by rw [← hs3]
  have sz : ∀ b ∈ fp, b < s2.heap.objs.size := fun b hb => by
    obtain ⟨o, e, _⟩ := T.obj _ _ st2 b hb
    exact Heap.lt_size e
  have f3 : ∀ b ∈ fp, FpOk X pins (upd H2 D (.lst [])) b ∧ b < s3.heap.objs.size := fun b hb => by
    have hlt := sz b hb
    refine ⟨⟨?_, (f2 b hb).2⟩, by rw [h3, Heap.size_push]; exact Nat.lt_succ_of_lt hlt⟩
    rw [upd_ne (by rw [← hD]; exact Nat.ne_of_lt hlt)]
    exact (f2 b hb).1
  have st3 : tn 0 s3.heap := T.keep _ _ _ st2 fun b _ o e => by rw [h3]; exact Heap.get?_push_of_some _ e
  have I4 := block_start I3 ok hN f3
  have pg := hg s3 (upd H2 D (.lst [])) s3.heap.objs.size (cellsFrom (s3.heap.objs.size + 1) scope.names (cloFrom X.env.cells scope.names [])) fp
  have pt := ht s3 (upd H2 D (.lst [])) s3.heap.objs.size (cellsFrom (s3.heap.objs.size + 1) scope.names (cloFrom X.env.cells scope.names [])) fp
  have pe := he s3 (upd H2 D (.lst [])) s3.heap.objs.size (cellsFrom (s3.heap.objs.size + 1) scope.names (cloFrom X.env.cells scope.names [])) fp
  have pi1 := hi1 s3 (upd H2 D (.lst [])) s3.heap.objs.size (cellsFrom (s3.heap.objs.size + 1) scope.names (cloFrom X.env.cells scope.names [])) fp
  have pg1 := hg1 s3 (upd H2 D (.lst [])) s3.heap.objs.size (cellsFrom (s3.heap.objs.size + 1) scope.names (cloFrom X.env.cells scope.names [])) fp
  have pt1 := ht1 s3 (upd H2 D (.lst [])) s3.heap.objs.size (cellsFrom (s3.heap.objs.size + 1) scope.names (cloFrom X.env.cells scope.names [])) fp
  show codeAny _ _ (.compStart (.ListComp elt [⟨tg, iter, ifs, 0⟩, ⟨tg1, iter1, ifs1, 0⟩] scope pos) 0 (.ref it) (.ref D) (compEnvC scope (cellsFrom (s3.heap.objs.size + 1) scope.names (cloFrom X.env.cells scope.names [])) s3.heap.objs.size X.env)) (compPost (model X.prog X.w) X.A X.xe use Qf (.ref D) s3.heap.objs.size) { s3 with heap := pushCells (s3.heap.push { cls := .type "dict", data := .dict #[] }) scope.names }
  have nfp : ∀ b ∈ fp, (upd H2 D (.lst [])) b = none := fun b hb => (f3 b hb).1.1
  generalize hce : compEnvC scope (cellsFrom (s3.heap.objs.size + 1) scope.names (cloFrom X.env.cells scope.names [])) s3.heap.objs.size X.env = ce at I4 pg pt pe pi1 pg1 pt1 ⊢
  have cL : ce.locals = s3.heap.objs.size := by subst hce; rfl
  generalize hH3 : upd H2 D (.lst []) = H3 at I3 I4 pg pt pe pi1 pg1 pt1 w0 nfp f3
  generalize hs4 : ({ s3 with heap := pushCells (s3.heap.push { cls := .type "dict", data := .dict #[] }) scope.names } : Shared) = s4 at I4 ⊢
  have st4 : tn 0 s4.heap := T.keep _ _ _ st3 fun b _ o e => by rw [← hs4]; exact pushCells_keeps _ _ _ _ (Heap.get?_push_of_some _ e)
  have stat : ∀ {σ' : St} {H' : Hp} {s' : Shared}, Inv (X.blk s3 H3 scope ce fp) [] σ' H' s' → (∀ b ∈ fp, H' b = none) → ∀ b ∈ fp, FpOk (X.blk s3 H3 scope ce fp) [] H' b := fun {σ' H' s'} I' hn b hb =>
    ⟨hn b hb, (I'.ok.exf b hb).1, I'.ok.exfs b hb, .inl hb, fun x c e => (I'.ok.exf b hb).2 x c e, fun p hp => absurd (show p ∈ ([] : List (Addr × Obj)) ++ [] from hp) (by simp)⟩
  have loop : codeAny (model X.prog X.w) X.A (.compLoop (.ListComp elt [⟨tg, iter, ifs, 0⟩, ⟨tg1, iter1, ifs1, 0⟩] scope pos) 0 (.ref it) (.ref D) ce) (compPost (model X.prog X.w) X.A X.xe use Qf (.ref D) s3.heap.objs.size) s4 := by
    refine compLoop2_out (hs1 ce) (fun n s' => ∃ i H', Inv (X.blk s3 H3 scope ce fp) [] (wipe σ (own.map (·.2))) H' s' ∧ tn i s'.heap ∧ (∀ b ∈ fp, H' b = none) ∧ W i n H') ?_ m0 ⟨0, H3, I4, st4, nfp, w0⟩
    rintro n s5 ⟨i, H5, I5, st5, n5, w5⟩
    rcases turn i n H5 w5 with ⟨stop, qq⟩ | ⟨go, Nx, hNx, step⟩
    · have td := T.done (X.blk s3 H3 scope ce fp) rfl rfl rfl hc i [] s5 _ H5 (fun _ _ => False) I5 (stat I5 n5) st5 stop
      refine thnF td fun r s6 ⟨hr, I6⟩ => ?_
      subst hr
      -- back in the def's context
      have I7 : Inv X pins σ H5 s6 := I3.call' (ch := fp) I6.os I6.base I6.hok I6.bare fun b hb => ⟨(f3 b hb).1.2.2.2.1, (f3 b hb).1.2.1, (f3 b hb).1.2.2.2.2.1, (f3 b hb).1.2.2.2.2.2⟩
      have nC : H5 s3.heap.objs.size = none := by
        have z : H5 ce.locals = none := I6.free
        rw [cL] at z
        exact z
      obtain ⟨m, hn, _⟩ := I6.loc
      have hn : s6.heap.Ns ce.locals m := hn
      rw [cL] at hn
      exact hRR D s3.heap.objs.size s6 m H5 I7 qq hn (I3.fpOk (Nat.le_refl _) nC)
    · have ti := T.item (X.blk s3 H3 scope ce fp) rfl rfl rfl hc i [] s5 _ H5 (fun _ _ => False) I5 (stat I5 n5) st5 go
      refine thnF ti fun r s6 ⟨u, hr, h6⟩ => ?_
      subst hr
      refine thnF h6 fun _ s7 ⟨x, H7, I7, r7, y7, st7, n7⟩ => ?_
      have I7' := I7.pinned (stat I7 n7) (T.obj _ _ st7)
      refine thnF (pg _ s7 _ H7 x u _ I7' r7 (step x H7 y7)) fun _ s8 ⟨σ8, H8, I8, hw8, q8⟩ => ?_
      refine thnF (pt _ s8 σ8 H8 _ I8 q8) fun b s9 ⟨H9, I9, q9⟩ => ?_
      -- the turn's end, from any slots that know what the block knew at its start
      have fin : ∀ {σ9 : St} {s' : Shared} {H' : Hp}, Inv (X.blk s3 H3 scope ce fp) ([] ++ pinsAt fp s7.heap) σ9 H' s' → (wipe σ (own.map (·.2))).length = σ9.length → (∀ (j : Nat) v, (wipe σ (own.map (·.2)))[j]? = some (some v) → σ9[j]? = some (some v)) → Nx H' →
          ∃ m, m < n ∧ ∃ i H', Inv (X.blk s3 H3 scope ce fp) [] (wipe σ (own.map (·.2))) H' s' ∧ tn i s'.heap ∧ (∀ b ∈ fp, H' b = none) ∧ W i m H' := fun {σ9 s' H'} I' hl hk nx => by
        obtain ⟨m', hm, w'⟩ := hNx H' nx
        have pin' : ∀ b ∈ fp, ∀ o, s7.heap.get? b = some o → s'.heap.get? b = some o ∧ H' b = none := fun b hb o e =>
          let z := I'.pin (b, o) (List.mem_append_right _ (List.mem_append_right _ (mem_pinsAt hb e)))
          ⟨z.1, z.2.1⟩
        refine ⟨m', hm, i + 1, H', (I'.unpinned (pins := [])).weak hl hk, T.keep _ _ _ st7 fun b hb o e => (pin' b hb o e).1, fun b hb => ?_, w'⟩
        obtain ⟨o, e, _⟩ := T.obj _ _ st7 b hb
        exact (pin' b hb o e).2
      have hl8 : (wipe σ (own.map (·.2))).length = σ8.length := by rw [← hw8, wipe_length]
      have hk8 : ∀ (j : Nat) v, (wipe σ (own.map (·.2)))[j]? = some (some v) → σ8[j]? = some (some v) := fun j v e => by
        rw [← hw8] at e
        exact (wipe_some e).1
      have hk9 : ∀ (j : Nat) v, (wipe σ (own.map (·.2)))[j]? = some (some v) → (wipe σ8 vs1)[j]? = some (some v) := fun j v e => by
        rw [← hw8] at e
        obtain ⟨e1, e2⟩ := wipe_some e
        rw [wipe_out fun z => e2 (hv j z)]
        exact e1
      cases b with
      | false =>
        simp only [Bool.false_eq_true, if_false] at q9 ⊢
        exact fin I9 hl8 hk8 q9
      | true =>
        simp only [if_true] at q9 ⊢
        refine thnF (pi1 _ s9 σ8 H9 _ I9 q9) fun xv s10 hx => thnF hx fun itv s11 h11 => ?_
        obtain ⟨it1, fp1, tn1, J1, H11, e1, I11, T1, st11, f11, W1, ⟨m1, w1⟩, turn1⟩ := h11
        subst e1
        -- the inner loop
        have stat1 : ∀ {H' : Hp}, (∀ b ∈ fp1, H' b = none) → ∀ b ∈ fp1, FpOk (X.blk s3 H3 scope ce fp) ([] ++ pinsAt fp s7.heap) H' b := fun hn b hb => ⟨hn b hb, (f11 b hb).2⟩
        have loop1 : codeAny (model X.prog X.w) X.A (.compLoop (.ListComp elt [⟨tg, iter, ifs, 0⟩, ⟨tg1, iter1, ifs1, 0⟩] scope pos) 1 (.ref it1) (.ref D) ce)
            (fun r s' => match r with
              | .ok _ => ∃ m, m < n ∧ ∃ i H', Inv (X.blk s3 H3 scope ce fp) [] (wipe σ (own.map (·.2))) H' s' ∧ tn i s'.heap ∧ (∀ b ∈ fp, H' b = none) ∧ W i m H'
              | .error _ => False) s11 := by
          refine compLoop2_in (fun k s' => ∃ j H', Inv (X.blk s3 H3 scope ce fp) ([] ++ pinsAt fp s7.heap) (wipe σ8 vs1) H' s' ∧ tn1 j s'.heap ∧ (∀ b ∈ fp1, H' b = none) ∧ W1 j k H') ?_ m1 ⟨0, H11, I11.weak (wipe_length _ _) (fun j v e => (wipe_some e).1), st11, fun b hb => (f11 b hb).1, w1⟩
          rintro k s12 ⟨j, H12, I12, st12, n12, w12⟩
          rcases turn1 j k H12 w12 with ⟨stop1, nx1⟩ | ⟨go1, Nx1, hNx1, step1⟩
          · refine thnF (T1.done (X.blk s3 H3 scope ce fp) rfl rfl rfl hc j _ s12 (wipe σ8 vs1) H12 (fun _ _ => False) I12 (stat1 n12) st12 stop1) fun r s13 ⟨hr, I13⟩ => ?_
            subst hr
            exact fin I13 (hl8.trans (wipe_length σ8 vs1).symm) hk9 nx1
          · refine thnF (T1.item (X.blk s3 H3 scope ce fp) rfl rfl rfl hc j _ s12 (wipe σ8 vs1) H12 (fun _ _ => False) I12 (stat1 n12) st12 go1) fun r s13 ⟨u1, hr, h13⟩ => ?_
            subst hr
            refine thnF h13 fun _ s14 ⟨x1, H14, I14, r14, y14, st14, n14⟩ => ?_
            have I14' := I14.pinned (stat1 n14) (T1.obj _ _ st14)
            refine thnF (pg1 _ s14 (wipe σ8 vs1) H14 x1 u1 _ I14' r14 (step1 x1 H14 y14)) fun _ s15 ⟨σ15, H15, I15, hw15, q15⟩ => ?_
            refine thnF (pt1 _ s15 σ15 H15 _ I15 q15) fun b1 s16 ⟨H16, I16, q16⟩ => ?_
            have fin1 : ∀ {s' : Shared} {H' : Hp}, Inv (X.blk s3 H3 scope ce fp) (([] ++ pinsAt fp s7.heap) ++ pinsAt fp1 s14.heap) σ15 H' s' → Nx1 H' → ∃ m, m < k ∧ ∃ j H', Inv (X.blk s3 H3 scope ce fp) ([] ++ pinsAt fp s7.heap) (wipe σ8 vs1) H' s' ∧ tn1 j s'.heap ∧ (∀ b ∈ fp1, H' b = none) ∧ W1 j m H' := fun {s' H'} I' nx => by
              obtain ⟨m', hm, w'⟩ := hNx1 H' nx
              have pin' : ∀ b ∈ fp1, ∀ o, s14.heap.get? b = some o → s'.heap.get? b = some o ∧ H' b = none := fun b hb o e =>
                let z := I'.pin (b, o) (List.mem_append_right _ (List.mem_append_right _ (mem_pinsAt hb e)))
                ⟨z.1, z.2.1⟩
              refine ⟨m', hm, j + 1, H', I'.unpinned.weak (by rw [← hw15, wipe_length]) (fun j v e => by rw [← hw15] at e; exact (wipe_some e).1), T1.keep _ _ _ st14 fun b hb o e => (pin' b hb o e).1, fun b hb => ?_, w'⟩
              obtain ⟨o, e, _⟩ := T1.obj _ _ st14 b hb
              exact (pin' b hb o e).2
            cases b1 with
            | false =>
              simp only [Bool.false_eq_true, if_false] at q16 ⊢
              exact fin1 I16 q16
            | true =>
              simp only [if_true] at q16 ⊢
              refine thnF (pe _ s16 σ15 H16 _ I16 q16) fun z s17 ⟨yv, H17, I17, r17, acc, hD17, hz17, nx⟩ => ?_
              exact app_ok (X := X.blk s3 H3 scope ce fp) I17 hD17 hz17 r17 fun s18 I18 => fin1 I18 nx
        exact compStart1_ok loop1 (T1.self X.A 0 _ _ _ st11 loop1)
  exact codeAny_compStart_list loop (T.self X.A 0 _ _ _ st4 loop)

theorem pe_lc2 {elt tg iter tg1 iter1 : Expr} {ifs ifs1 : List Expr} {scope : Scope} {own : List (Str × Nat)} {vs1 : List Nat} {pos : Pos} {wi wi1 : TI} {g g1 : TG} {tt tt1 : TT} {te : TE} (hc : X.calm = true) (hN : X.N.Nodup) (hi : PI X tg iter wi) (ok : BlkOk X.N X.env.scope scope own) (hv : ∀ i ∈ vs1, i ∈ own.map (·.2))
    (hg : ∀ (s : Shared) (H : Hp) (C : Addr) (cl : List (Str × Addr)) (fp : List Addr), PG (X.blk s H scope (compEnvC scope cl C X.env) fp) tg g) (ht : ∀ (s : Shared) (H : Hp) (C : Addr) (cl : List (Str × Addr)) (fp : List Addr), PTs (X.blk s H scope (compEnvC scope cl C X.env) fp) ifs tt)
    (hi1 : ∀ (s : Shared) (H : Hp) (C : Addr) (cl : List (Str × Addr)) (fp : List Addr), PI (X.blk s H scope (compEnvC scope cl C X.env) fp) tg1 iter1 wi1)
    (hg1 : ∀ (s : Shared) (H : Hp) (C : Addr) (cl : List (Str × Addr)) (fp : List Addr), PG (X.blk s H scope (compEnvC scope cl C X.env) fp) tg1 g1) (ht1 : ∀ (s : Shared) (H : Hp) (C : Addr) (cl : List (Str × Addr)) (fp : List Addr), PTs (X.blk s H scope (compEnvC scope cl C X.env) fp) ifs1 tt1)
    (he : ∀ (s : Shared) (H : Hp) (C : Addr) (cl : List (Str × Addr)) (fp : List Addr), PE (X.blk s H scope (compEnvC scope cl C X.env) fp) elt te) (hs : ∀ x, foldedSetIterable iter X.env x = pure x := by intro _; rfl) (hs1 : ∀ env x, foldedSetIterable iter1 env x = pure x := by intro _ _; rfl) :
    PE X (.ListComp elt [⟨tg, iter, ifs, 0⟩, ⟨tg1, iter1, ifs1, 0⟩] scope pos) (tLc2 wi g tt wi1 g1 tt1 te (own.map (·.2)) vs1) := by
  intro pins s σ H Q I h
  rw [eval_ListComp]
  refine lc2_core hc hN I hi ok hv hg ht he hs hi1 hg1 ht1 hs1 h fun D C s' m H' I' q hn f => ⟨m, hn, fun h'' sb => ?_⟩
  obtain ⟨f0, f1, f2, f3, f4, f5⟩ := f
  exact ⟨.ref D, H', I'.turned (t' := s'.toks) (fun b o hb e => (sb.2 b hb).trans e) f0 f1 f3 f4 f5, rfl, q⟩
end
end L2

namespace L2
open PySem PySem.Spec PyProof.Rows


section
variable {κ : Type} [DecidableEq κ]
def valV (kvs : List (κ × V)) (k : κ) : Option V := (kvs.find? fun kv => decide (kv.1 = k)).map (·.2)

def putK (kvs : List (κ × V)) (k : κ) (v : V) : List (κ × V) :=
  if (kvs.any fun kv => decide (kv.1 = k)) = true then kvs.map (fun kv => if kv.1 = k then (kv.1, v) else kv) else kvs ++ [(k, v)]
def dropK (kvs : List (κ × V)) (k : κ) : List (κ × V) := kvs.filter fun kv => decide (kv.1 ≠ k)

theorem valV_pos {p : κ × V} {r : List (κ × V)} {k : κ} (e : p.1 = k) : valV (p :: r) k = some p.2 := by simp [valV, List.find?_cons, e]
theorem valV_neg {p : κ × V} {r : List (κ × V)} {k : κ} (e : ¬ p.1 = k) : valV (p :: r) k = valV r k := by simp [valV, List.find?_cons, e]
theorem valV_any (k : κ) : ∀ kvs : List (κ × V), (kvs.any fun kv => decide (kv.1 = k)) = (valV kvs k).isSome
  | [] => rfl
  | p :: r => by
    rw [List.any_cons]
    by_cases e : p.1 = k
    · simp only [valV_pos e, decide_eq_true e, Bool.true_or, Option.isSome_some]
    · rw [valV_neg e, decide_eq_false e, Bool.false_or]; exact valV_any k r
theorem RelO.isSome_eq {o : Option V} {u : Option Value} (r : RelO o u) : o.isSome = u.isSome := by
  cases o with
  | none => cases u with
    | none => rfl
    | some _ => exact (show False from r).elim
  | some _ => cases u with
    | none => exact (show False from r).elim
    | some _ => rfl
theorem RelO.getD {o : Option V} {u : Option Value} {d : V} {d' : Value} (r : RelO o u) (rd : RelV d d') : RelV (o.getD d) (u.getD d') := by
  cases o with
  | none => cases u with
    | none => exact rd
    | some _ => exact (show False from r).elim
  | some _ => cases u with
    | none => exact (show False from r).elim
    | some _ => exact r


theorem KV.val {kvs : List (κ × V)} {vs : List (κ × Value)} (r : KV kvs vs) (k : κ) : RelO (valV kvs k) (valueAt vs k) := by
  unfold KV at r
  induction r with
  | nil => exact True.intro
  | @cons p q ps qs h t ih =>
    obtain ⟨h1, h2⟩ := h
    by_cases e : p.1 = k
    · have e' : q.1 = k := h1.symm.trans e
      have b : valueAt (q :: qs) k = some q.2 := by simp [valueAt, List.find?_cons, e']
      rw [valV_pos e, b]; exact h2
    · have e' : ¬ q.1 = k := fun z => e (h1.trans z)
      have b : valueAt (q :: qs) k = valueAt qs k := by simp [valueAt, List.find?_cons, e']
      rw [valV_neg e, b]; exact ih
theorem KV.any {kvs : List (κ × V)} {vs : List (κ × Value)} (r : KV kvs vs) (k : κ) : (kvs.any fun kv => decide (kv.1 = k)) = vs.any fun kv => decide (kv.1 = k) := by
  unfold KV at r
  induction r with
  | nil => rfl
  | cons h t ih => rw [List.any_cons, List.any_cons, ih, h.1]
theorem KV.repl {kvs : List (κ × V)} {vs : List (κ × Value)} (r : KV kvs vs) (k : κ) {y : V} {u : Value} (ry : RelV y u) :
    KV (kvs.map fun kv => if kv.1 = k then (kv.1, y) else kv) (vs.map fun kv => if kv.1 = k then (kv.1, u) else kv) := by
  unfold KV at r ⊢
  induction r with
  | nil => exact .nil
  | @cons p q ps qs h t ih =>
    rw [List.map_cons, List.map_cons]
    refine .cons ?_ ih
    obtain ⟨h1, h2⟩ := h
    by_cases e : p.1 = k
    · rw [if_pos e, if_pos (h1.symm.trans e)]; exact ⟨h1, ry⟩
    · rw [if_neg e, if_neg (fun z => e (h1.trans z))]; exact ⟨h1, h2⟩
theorem KV.put {kvs : List (κ × V)} {vs : List (κ × Value)} (r : KV kvs vs) (k : κ) {y : V} {u : Value} (ry : RelV y u) : KV (putK kvs k y) (stored vs k u) := by
  unfold putK stored
  rw [r.any k]
  by_cases e : (vs.any fun kv => decide (kv.1 = k)) = true
  · rw [if_pos e, if_pos e]; exact r.repl k ry
  · rw [if_neg e, if_neg e]; exact Paired.snoc r ⟨rfl, ry⟩
theorem KV.drop {kvs : List (κ × V)} {vs : List (κ × Value)} (r : KV kvs vs) (k : κ) : KV (dropK kvs k) (without vs k) := by
  unfold KV at r ⊢
  unfold dropK without
  induction r with
  | nil => exact .nil
  | @cons p q ps qs h t ih =>
    obtain ⟨h1, h2⟩ := h
    rw [List.filter_cons, List.filter_cons]
    by_cases e : p.1 = k
    · have a : ¬ decide (p.1 ≠ k) = true := by simp [e]
      have b : ¬ decide (q.1 ≠ k) = true := by simp [h1.symm.trans e]
      rw [if_neg a, if_neg b]; exact ih
    · have e' : ¬ q.1 = k := fun z => e (h1.trans z)
      have a : decide (p.1 ≠ k) = true := by simp [e]
      have b : decide (q.1 ≠ k) = true := by simp [e']
      rw [if_pos a, if_pos b]; exact .cons ⟨h1, h2⟩ ih
theorem KV.length {kvs : List (κ × V)} {vs : List (κ × Value)} (r : KV kvs vs) : kvs.length = vs.length := Paired.length r
end



abbrev KT (H : Hp) : List (List Key × V) → List (List Key × Addr × Value) → Prop := Paired fun p q => p.1 = q.1 ∧ H q.2.1 = some (.tup (p.1.map kV)) ∧ RelV p.2 q.2.2
theorem KT.val {H : Hp} {kvs : List (List Key × V)} {xs : List (List Key × Addr × Value)} (r : KT H kvs xs) (k : List Key) : RelO (valV kvs k) ((atKey xs k).map (·.2)) := by
  induction r with
  | nil => exact True.intro
  | @cons p q ps qs h t ih =>
    obtain ⟨h1, _, h2⟩ := h
    by_cases e : p.1 = k
    · have e' : q.1 = k := h1.symm.trans e
      have b : atKey (q :: qs) k = some q.2 := by simp [atKey, List.find?_cons, e']
      rw [valV_pos e, b]; exact h2
    · have e' : ¬ q.1 = k := fun z => e (h1.trans z)
      have b : atKey (q :: qs) k = atKey qs k := by simp [atKey, List.find?_cons, e']
      rw [valV_neg e, b]; exact ih
theorem KT.repl {H : Hp} {kvs : List (List Key × V)} {xs : List (List Key × Addr × Value)} (r : KT H kvs xs) (k : List Key) {y : V} {u : Value} (ry : RelV y u) :
    KT H (kvs.map fun kv => if kv.1 = k then (kv.1, y) else kv) (xs.map (putAt k u)) := by
  induction r with
  | nil => exact .nil
  | @cons p q ps qs h t ih =>
    rw [List.map_cons, List.map_cons]
    refine .cons ?_ ih
    obtain ⟨h1, h2, h3⟩ := h
    unfold putAt
    by_cases e : p.1 = k
    · rw [if_pos e, if_pos (h1.symm.trans e)]; exact ⟨h1, h2, ry⟩
    · rw [if_neg e, if_neg (fun z => e (h1.trans z))]; exact ⟨h1, h2, h3⟩
theorem KT.put {H : Hp} {kvs : List (List Key × V)} {xs : List (List Key × Addr × Value)} (r : KT H kvs xs) (k : List Key) {b : Addr} {y : V} {u : Value} (hb : H b = some (.tup (k.map kV))) (ry : RelV y u) :
    KT H (putK kvs k y) (storedH xs k b u) := by
  have e : (kvs.any fun kv => decide (kv.1 = k)) = (atKey xs k).isSome := by
    rw [valV_any, (r.val k).isSome_eq, Option.isSome_map]
  unfold putK storedH
  rw [e]
  by_cases q : (atKey xs k).isSome = true
  · rw [if_pos q, if_pos q]; exact r.repl k ry
  · rw [if_neg q, if_neg q]; exact Paired.snoc r ⟨rfl, hb, ry⟩
theorem KT.keeps {H H' : Hp} {kvs : List (List Key × V)} {xs : List (List Key × Addr × Value)} (r : KT H kvs xs) (ht : ∀ b ys, H b = some (.tup ys) → H' b = some (.tup ys)) : KT H' kvs xs :=
  Paired.mapP r fun _ _ z => ⟨z.1, ht _ _ z.2.1, z.2.2⟩



def DGet (H : Hp) (a : Addr) (y : V) (r : Option V) : Prop :=
  (∃ kvs k, Rd H a (.dK kvs) ∧ y = kV k ∧ r = valV kvs k) ∨ ∃ kvs k b, Rd H a (.dT kvs) ∧ y = .ref b ∧ H b = some (.tup (k.map kV)) ∧ r = valV kvs k

def DPut (H : Hp) (a : Addr) (y v : V) (H' : Hp) : Prop :=
  (∃ kvs k, H a = some (.dK kvs) ∧ y = kV k ∧ kvs.length < sizeLine ∧ H' = upd H a (.dK (putK kvs k v))) ∨
  ∃ kvs k b, H a = some (.dT kvs) ∧ y = .ref b ∧ H b = some (.tup (k.map kV)) ∧ kvs.length < sizeLine ∧ H' = upd H a (.dT (putK kvs k v))
theorem DGet.k {H : Hp} {a : Addr} {kvs : List (Key × V)} {k : Key} (e : H a = some (.dK kvs)) : DGet H a (kV k) (valV kvs k) := .inl ⟨kvs, k, .inl e, rfl, rfl⟩
theorem DGet.t {H : Hp} {a b : Addr} {kvs : List (List Key × V)} {k : List Key} (e : H a = some (.dT kvs)) (eb : H b = some (.tup (k.map kV))) : DGet H a (.ref b) (valV kvs k) := .inr ⟨kvs, k, b, .inl e, rfl, eb, rfl⟩
theorem DPut.k {H : Hp} {a : Addr} {kvs : List (Key × V)} {k : Key} {v : V} (e : H a = some (.dK kvs)) (hl : kvs.length < sizeLine) : DPut H a (kV k) v (upd H a (.dK (putK kvs k v))) := .inl ⟨kvs, k, e, rfl, hl, rfl⟩
theorem DPut.t {H : Hp} {a b : Addr} {kvs : List (List Key × V)} {k : List Key} {v : V} (e : H a = some (.dT kvs)) (eb : H b = some (.tup (k.map kV))) (hl : kvs.length < sizeLine) :
    DPut H a (.ref b) v (upd H a (.dT (putK kvs k v))) := .inr ⟨kvs, k, b, e, rfl, eb, hl, rfl⟩


section
variable {X : Cx} {pins : List (Addr × Obj)} {σ : St} {H : Hp} {s : Shared} {a : Addr} {y v : V} {u r : Value} {o : Option V} {A : Around} {E : Value → Shared → Prop}

end

section
variable {X : Cx} {pins : List (Addr × Obj)} {σ : St} {H : Hp} {s : Shared} {a : Addr} {kvs : List (Key × V)} {k : Key} {u : Value} {A : Around} {E : Value → Shared → Prop}

end









structure M1 (X : Cx) (o : Expr) (m : Str) (apos : Pos) (e : Expr) (cpos : Pos) : Prop where
  base : attributeBase o m X.env (eval o X.env) = eval o X.env
  few : ((backTo cpos (starEach [e] X.env)).all (fun x => !x.1) && (backToKw cpos (keywordEach [] X.env)).all (fun x => x.1.isSome)
    && decide (([e] : List Expr).length + ([] : List Keyword).length + (if ([] : List Keyword).isEmpty then 0 else 1) < 30)) = true
  line : (apos.endLine == cpos.line) = true
  trees : backTo cpos (starEach [e] X.env) = [(false, eval e X.env)]
structure M2 (X : Cx) (o : Expr) (m : Str) (apos : Pos) (e f : Expr) (cpos : Pos) : Prop where
  base : attributeBase o m X.env (eval o X.env) = eval o X.env
  few : ((backTo cpos (starEach [e, f] X.env)).all (fun x => !x.1) && (backToKw cpos (keywordEach [] X.env)).all (fun x => x.1.isSome)
    && decide (([e, f] : List Expr).length + ([] : List Keyword).length + (if ([] : List Keyword).isEmpty then 0 else 1) < 30)) = true
  line : (apos.endLine == cpos.line) = true
  trees : backTo cpos (starEach [e, f] X.env) = [(false, eval e X.env), (false, eval f X.env)]


section
variable {X : Cx} {pins : List (Addr × Obj)} {σ : St} {H : Hp} {s : Shared} {a : Addr} {y d : V} {u r : Value} {o : Option V} {A : Around} {E : Value → Shared → Prop}

end





section
variable {X : Cx} {pins : List (Addr × Obj)} {σ : St} {H : Hp} {s : Shared} {a : Addr} {y : V} {u : Value} {A : Around} {E : Value → Shared → Prop}

end
end L2

namespace L2
open PySem PySem.Spec PyProof.Rows

section
variable {prog : Program} {w : World} {A : Around} {E : Value → Shared → Prop}

end

end L2

namespace L2
open PySem PySem.Spec PyProof.Rows

section
variable {X : Cx} {pins : List (Addr × Obj)} {σ : St} {H : Hp} {s : Shared} {h' : Heap}

theorem Inv.lock {d : Addr} {u : HO} (I : Inv X pins σ H s) (h : H d = some u) (mu : Mut (some u)) : ∃ od, Inv X pins σ (upd H d (.frz od u)) s := by
  have x := I.hok d u h
  have ex : ∃ od, s.heap.get? d = some od := by
    cases u with
    | lst xs => obtain ⟨_, _, _, _, e⟩ := x; exact ⟨_, e⟩
    | dK kvs => obtain ⟨_, _, _, _, o, _, _, e, _⟩ := x; exact ⟨o, e⟩
    | dT kvs => obtain ⟨_, _, _, _, o, _, _, e, _⟩ := x; exact ⟨o, e⟩
    | set S n => obtain ⟨o, _, _, _, e, _⟩ := x; exact ⟨o, e⟩
    | ins C dx fs => obtain ⟨_, _, _, e, _⟩ := x; exact ⟨_, e⟩
    | ext φ => obtain ⟨_, ⟨_, e⟩, _⟩ := x; exact ⟨_, e⟩
    | _ => exact False.elim mu
  obtain ⟨od, e⟩ := ex
  have new : ObjOk X.prog X.w (upd H d (.frz od u)) s.heap d (.frz od u) := by
    refine ⟨e, x.stay (fun b v _ q => q) (fun b q => ?_) fun b xs q => ?_⟩
    · rw [upd_ne (fun z => by rw [z, h] at q; cases q; exact mu)]; exact q
    · rw [upd_ne (fun z => by rw [z, h] at q; cases q; exact mu)]; exact q
  exact ⟨od, I.write (x := d) (e := d) (t' := s.toks) (h' := s.heap) (by rw [h]; exact mu) (.inl rfl) (fun b v _ q => q) ⟨od, e⟩ new⟩
end




def RgC (i j c : Int) (n : Nat) : Prop := c ≠ 0 ∧ c.natAbs < 1073741824 ∧ Builtin.Range.small i j c = true ∧ Builtin.Range.rangeSize i j c = n
theorem RgC.neg {i j : Int} (ha : -(2 ^ 62) ≤ i) (ha' : i < 2 ^ 62) (hb : -(2 ^ 62) ≤ j) (hb' : j < 2 ^ 62) : RgC i j (-1) (i - j).toNat :=
  ⟨by decide, by decide, PySem.W.small_down ha ha' hb hb', PySem.W.rangeSize_downNat i j⟩













end L2

section 
namespace Bits
open PySem PyProof.Rows

end Bits
end 

section 
namespace TL
open PySem PySem.Builtin PySem.Builtin.Str PySem.StrLaws

abbrev tl (x : Str) : List Nat := x.cps.toList
def pre (S l : List Nat) : Bool := l.take S.length == S

def par (S : List Nat) : List Nat → List Nat → Option (List Nat × List Nat)
  | _, [] => none
  | acc, c :: r => if pre S (c :: r) = true then some (acc, (c :: r).drop S.length) else par S (acc ++ [c]) r

end TL
end 

namespace L2
open PySem PySem.Spec PyProof.Rows


section
variable {X : Cx}


end

end L2

namespace L2
open PySem PySem.Spec PyProof.Rows



end L2

namespace Att
open PySem PySem.W PySem.Calls PyProof.Rows


theorem ints_of_wellAll {P : Params} {h : Heap} : ∀ (ns : List Int) (vs : List Value), WellAll P h vs (ns.map WData.int) → IntsAre vs ns := by
  intro ns
  induction ns with
  | nil =>
    intro vs w
    rw [List.map_nil] at w
    cases w
    exact .nil
  | cons n ns ih =>
    intro vs w
    rw [List.map_cons] at w
    cases w with
    | cons a b =>
      cases a
      exact .cons _ _ (ih _ b)

theorem script_of {l : OpenLaw} {n : Nat} (hn : l.most = some n) {P : Params} {h : Heap} {args : List WData} {vals : List Value}
    (hpre : l.row.toRowW.claim.pre args = true) (hwl : WellAll P h vals args) :
    ∃ a vs ns, vals = [Value.ref a] ∧ args = [WData.list (ns.map WData.int)] ∧ h.get? a = some { cls := .type "list", data := .seq vs.toArray } ∧ IntsAre vs ns ∧ ns.length ≤ n := by
  have hsh : WShape.hasAll [] args [.list .int] = true := (pre_splitW hpre).1
  have hc : l.pre.holds [] { args := args } = true := (pre_splitW hpre).2
  obtain ⟨d, r, rfl, h1, h2⟩ := hasAllW_cons hsh
  obtain rfl := hasAllW_nil h2
  obtain ⟨xs, rfl, h3⟩ := hasW_list h1
  obtain ⟨ns, rfl⟩ := items_int h3
  have hlen : ns.length ≤ n := by
    unfold OpenLaw.pre at hc
    have h4 : (WTm.not (.lt (.lit (.int (n : Int))) (.len (.arg 0)))).holds [] { args := [.list (ns.map .int)] } = true := by
      have h4 := (holds_andW hc).1
      rw [hn] at h4
      exact h4
    have h5 := condW_of h4 (w_not (w_lt w_lit (w_len_list (w_arg rfl))))
    rw [List.length_map] at h5
    refine Nat.le_of_not_lt fun q => ?_
    have q' : (n : Int) < ((ns.length : Nat) : Int) := by omega
    first
      | (rw [decide_eq_true q'] at h5; exact absurd h5 (by decide))
      | (simp at h5; omega)
  cases hwl with
  | cons w1 w2 =>
    cases w2
    cases w1 with
    | list ho hall => exact ⟨_, _, ns, rfl, rfl, ho, ints_of_wellAll ns _ hall, hlen⟩

theorem post_true (l : OpenLaw) (args : List WData) : l.row.toRowW.claim.post args (.bool true) args = true :=
  postW_of (r := l.row.toRowW) (X := (true == true))
    (show WShape.has [] (.bool true) .bool = true by first | rfl | decide | simp [WShape.has, WShape.arms, WShape.armsAll])
    (show (WTm.eq .res (.lit (.bool true))).value [] { args := args, res := some (.bool true), after := args } = some (.bool (true == true)) from w_eq_bool (w_res rfl) w_lit) rfl


theorem attach_call {l : OpenLaw} {n : Nat} {q : Program} {loose : List Str} {XP : (Str → Option Value) → Heap → Prop} {YP : World → Heap → Prop} {d : DefRec}
    (hn : l.most = some n) (hdf : d.params.defaults = [])
    (call : ∀ (w : World) (s₀ s₁ : Shared) (mg mb : Str → Option Value) (fa : Addr) (o : Obj) (pm cd doc : Value) (a : Addr) (vs : List Value) (ns : List Int),
      Ground q loose [] XP w s₀ mg mb s₁.heap → YP w s₁.heap →
      s₁.heap.get? fa = some o → o.data = .func (docDef d.name d.params d.body d.scope pm cd doc) → s₁.heap.CodeRec cd d.name → mg d.name = some (.ref fa) →
      s₁.heap.get? a = some { cls := .type "list", data := .seq vs.toArray } → IntsAre vs ns → ns.length ≤ n → s₁.gens = #[] →
      codeAny (model l.prog w) callerA (.call (.ref fa) ⟨[.ref a], []⟩) (fun r s' => r = .ok (.ret (.bool true)) ∧ OldK s₁.heap s'.heap ∧ s'.os = s₁.os ∧ AllBare s'.gens) s₁) :
    WalkO q loose XP YP l.row.toRowW d [] (fun f vs => PySem.call f vs) := by
  intro w s₀ s₁ mg mb G Y fa o pm cd doc dV kV ho hd hcd hD hmg hg args vals as hpre hlay hrd hwl hlo
  obtain rfl : dV = .none := Dflts.none hD hdf
  obtain rfl : kV = .none := Dflts.noKw hD
  obtain ⟨a, vs, ns, rfl, rfl, hobj, hints, hlen⟩ := script_of hn hpre hwl
  refine enter_call (codeAny_mono (call w s₀ s₁ mg mb fa o pm cd doc a vs ns G Y ho (fd_plain hd) hcd hmg hobj hints hlen hg) fun r s' hq => ?_)
  obtain ⟨rfl, h2, h3, h4⟩ := hq
  exact ⟨.inl ⟨.bool true, .bool true, [], rfl, fun _ => rfl, .bool true, post_true l _, fun _ => ⟨List.Pairwise.nil, fun _ hm => (nomatch hm)⟩⟩, h2, h3, h4⟩


section
variable {prog : Program} {w : World} {A : Around} {E : Value → Shared → Prop} {s : Shared} {K : Frag}


end
end Att

namespace L2
open PySem PySem.Spec PyProof.Rows

theorem vals_ints : ∀ {vs : List Value} {ns : List Int}, IntsAre vs ns → Vals (ns.map V.int) vs
  | _, _, .nil => .nil
  | _, _, .cons n t h => .cons ⟨t, rfl⟩ (vals_ints h)


end L2

namespace L2
open PySem PySem.Spec PyProof.Rows

end L2




namespace L2
open PySem PySem.Spec PyProof.Rows



def defArgs (s : Stmt) : Arguments := match s with
  | .FunctionDef _ a _ _ _ _ _ _ _ _ => a
  | _ => { posonlyargs := [], args := [], vararg := none, kwonlyargs := [], kw_defaults := [], kwarg := none, defaults := [] }
def defBody (s : Stmt) : List Stmt := match s with
  | .FunctionDef _ _ b _ _ _ _ _ _ _ => b
  | _ => []
def defScope (s : Stmt) : Scope := match s with
  | .FunctionDef _ _ _ _ _ _ sc _ _ _ => sc
  | _ => { kind := .function, names := [], isGenerator := false, isCoroutine := false }


abbrev CX0 : CXT := fun _ _ _ _ _ _ => False
abbrev E0 : XK := fun _ _ _ => False
theorem pass0 {X : Cx} : Passes CX0 X E0 := fun _ _ _ _ _ _ _ h => h.elim


structure Fun (K : PySem.W.Frag) (x qual : Str) (st : Stmt) (f : Addr) (fd : FuncData) : Prop where
  ex : ∃ (oc : Value) (od : Option Addr) (kV doc pm : Value) (an : Option Addr) (cdv ct : Value) (osl : Array (Option Value)),
    fd = PySem.W.fnOf x qual (defArgs st) (defBody st) (defScope st) .none kV doc pm an cdv ct ∧ K.lookup f = some ⟨oc, od, .func fd, osl⟩ ∧ PySem.W.codeIn K cdv qual = true
  kp : PySem.W.keepIn K (.ref f) = true
section
variable {P : Program} {w : World} {K : PySem.W.Frag} {mg : Str → Option Value} {base : Heap}

theorem Fun.ok {x qual : Str} {st : Stmt} {f : Addr} {fd : FuncData} {N ps : List Str} {k : Nat} {sp : Sp} (F : Fun K x qual st f fd) (S : FnScope N ps (defScope st)) (len : ∀ vs H Q E, sp vs H Q E → vs.length = ps.length)
    (hbody : ∀ (cdv : Value) (A : Around) (outer : List Env) (s : Shared) (H : Hp) (vs : List V) (Q : VK) (E : XK), Room k (A.deeper (envOfC qual (defScope st) s.heap.objs.size f cdv)) → sp vs H Q E →
      ∃ t, PSs (cxOf CX0 P w K mg base N qual (defScope st) f cdv A outer s H E).nox (defBody st) t ∧ t { nx := fun _ H' => Q .non H', rt := Q } (start N vs) H) : FnOk P w K mg base CX0 (k + 1) f fd ps sp := by
  obtain ⟨oc, od, kV, doc, pm, an, cdv, ct, osl, rfl, lk, hcd⟩ := F.ex
  refine fn_of lk hcd S len fun A outer s H vs Q E hr hsp => ?_
  obtain ⟨t, h, q⟩ := hbody cdv A outer s H vs Q E hr hsp
  exact ⟨t, h.nox, q⟩

theorem Fun.binds {x qual : Str} {st : Stmt} {f : Addr} {fd : FuncData} {ps : List Str} (F : Fun K x qual st f fd)
    (h : ∀ (kV doc pm : Value) (an : Option Addr) (cdv ct : Value) (us : List Value), us.length = ps.length → bindArgs (PySem.W.fnOf x qual (defArgs st) (defBody st) (defScope st) .none kV doc pm an cdv ct) ⟨us, []⟩ = pure (ps.zip us)) : Binds K fd ps [] := by
  obtain ⟨oc, od, kV, doc, pm, an, cdv, ct, osl, rfl, lk, hcd⟩ := F.ex
  exact .all (h kV doc pm an cdv ct)
theorem fun_mk {x qual : Str} {st : Stmt} {f : Addr} {oc : Value} {od an : Option Addr} {osl : Array (Option Value)} {kV doc pm cdv ct : Value} (l : K.lookup f = some ⟨oc, od, .func (PySem.W.fnOf x qual (defArgs st) (defBody st) (defScope st) .none kV doc pm an cdv ct), osl⟩)
    (c : PySem.W.codeIn K cdv qual = true) (k : PySem.W.keepIn K (.ref f) = true) : Fun K x qual st f (PySem.W.fnOf x qual (defArgs st) (defBody st) (defScope st) .none kV doc pm an cdv ct) := ⟨⟨oc, od, kV, doc, pm, an, cdv, ct, osl, rfl, l, c⟩, k⟩
end


def Same (H H' : Hp) : Prop := ∀ b o, H b = some o → H' b = some o
theorem Same.refl (H : Hp) : Same H H := fun _ _ h => h
theorem Same.trans {H H1 H2 : Hp} (a : Same H H1) (b : Same H1 H2) : Same H H2 := fun c o h => b c o (a c o h)
theorem Same.free {H H' : Hp} (e : Same H H') {l : Addr} (h : H' l = Option.none) : H l = Option.none := by
  cases q : H l with
  | none => rfl
  | some o =>
    rw [e l o q] at h
    cases h
theorem Same.seq {K : PySem.W.Frag} {H H' : Hp} {a : Addr} {xs : List V} (e : Same H H') (h : SqL K H a xs) : SqL K H' a xs := by
  rcases h with (h | ⟨o, h⟩) | h
  · exact .inl (.inl (e _ _ h))
  · exact .inl (.inr ⟨o, e _ _ h⟩)
  · exact .inr h



theorem Same.made {H H1 : Hp} {x dx C : Addr} (nx : H x = Option.none) (nd : H dx = Option.none) (k : ∀ b o, (upd (upd H dx (.own x)) x (.ins C dx [])) b = some o → b ≠ x → H1 b = some o) : Same H H1 := fun b o e =>
  k b o (by rw [upd_ne (ne_of_none e nx), upd_ne (ne_of_none e nd)]; exact e) (ne_of_none e nx)
end L2

set_option Elab.async false
set_option linter.all false
set_option maxRecDepth 100000
set_option maxHeartbeats 4000000
namespace DL
open PySem PySem.Spec PyProof.Rows L2


inductive GK where
  | l | d | i (C : Addr)
  deriving DecidableEq
inductive D where
  | non | bl (b : Bool) | int (i : Int) | str (x : Str) | ty (n : String)
  | tup (ds : List D) | lst (ds : List D) | own (ds : List D) | pen | fn (a : Addr)
  | dic | exc (x : Str) (fs : List (Str × Int)) | gh (a : Addr) (k : GK) (ns : List Str) (ds : List D)
def D.nown : D → Bool
  | .own _ => false
  | .gh _ _ _ _ => false
  | _ => true
def D.unown : D → D
  | .own ds => .lst ds
  | .gh a _ _ _ => .fn a
  | d => d

def D.intP : D → (Int → Prop) → Prop
  | .int i, k => k i
  | _, _ => False
def D.blP : D → (Bool → Prop) → Prop
  | .bl b, k => k b
  | _, _ => False
def D.itemsP : D → (List D → Prop) → Prop
  | .lst ds, k => k ds
  | .own ds, k => k ds
  | .tup ds, k => k ds
  | _, _ => False
def D.lstP : D → (List D → Prop) → Prop
  | .lst ds, k => k ds
  | .own ds, k => k ds
  | _, _ => False
def D.seqP : D → (List D → Prop) → Prop
  | .lst ds, k => k ds
  | .tup ds, k => k ds
  | _, _ => False
def D.tupP : D → (List D → Prop) → Prop
  | .tup ds, k => k ds
  | _, _ => False
def D.penP : D → Prop → Prop
  | .pen, k => k
  | _, _ => False
def oneP : List D → (D → Prop) → Prop
  | [d], k => k d
  | _, _ => False
def twoP : List D → (D → D → Prop) → Prop
  | [d, e], k => k d e
  | _, _ => False
theorem D.intP_ex {d : D} {k : Int → Prop} (h : d.intP k) : ∃ i, d = .int i ∧ k i := by cases d <;> first | exact ⟨_, rfl, h⟩ | exact h.elim
theorem D.blP_ex {d : D} {k : Bool → Prop} (h : d.blP k) : ∃ b, d = .bl b ∧ k b := by cases d <;> first | exact ⟨_, rfl, h⟩ | exact h.elim
theorem D.lstP_ex {d : D} {k : List D → Prop} (h : d.lstP k) : ∃ ds, (d = .lst ds ∨ d = .own ds) ∧ k ds := by cases d <;> first | exact ⟨_, .inl rfl, h⟩ | exact ⟨_, .inr rfl, h⟩ | exact h.elim
theorem D.seqP_ex {d : D} {k : List D → Prop} (h : d.seqP k) : ∃ ds, (d = .lst ds ∨ d = .tup ds) ∧ k ds := by cases d <;> first | exact ⟨_, .inl rfl, h⟩ | exact ⟨_, .inr rfl, h⟩ | exact h.elim
theorem D.tupP_ex {d : D} {k : List D → Prop} (h : d.tupP k) : ∃ ds, d = .tup ds ∧ k ds := by cases d <;> first | exact ⟨_, rfl, h⟩ | exact h.elim
theorem D.penP_ex {d : D} {k : Prop} (h : d.penP k) : d = .pen ∧ k := by cases d <;> first | exact ⟨rfl, h⟩ | exact h.elim
theorem oneP_ex {ds : List D} {k : D → Prop} (h : oneP ds k) : ∃ d, ds = [d] ∧ k d := by
  match ds, h with
  | [d], h => exact ⟨d, rfl, h⟩
theorem twoP_ex {ds : List D} {k : D → D → Prop} (h : twoP ds k) : ∃ d e, ds = [d, e] ∧ k d e := by
  match ds, h with
  | [d, e], h => exact ⟨d, e, rfl, h⟩


abbrev Mk := Addr → Nat
abbrev Firm (n : Nat) : Prop := n ≠ 1 ∧ n < 5
def lamQ : Nat → Str
  | 5 => "law.<locals>.<lambda>"
  | 6 => "_law_right.<locals>.<lambda>"
  | 7 => "_law_words.<locals>.<lambda>"
  | 8 => "_law_list_words.<locals>.<lambda>"
  | 9 => "_law_set_words.<locals>.<lambda>"
  | 10 => "first_few.<locals>.<lambda>"
  | 11 => "_law_told_row.<locals>.<lambda>"
  | 12 => "_law_all_right.<locals>.<lambda>"
  | 13 => "_law_ring_right.<locals>.<lambda>"
  | 14 => "_law_lists_right.<locals>.<lambda>"
  | 15 => "_law_sizes_right.<locals>.<lambda>"
  | 16 => "_law_desk_right.<locals>.<lambda>"
  | _ => "_law_texts_right.<locals>.<lambda>"
def lamNames : List (Str × Nat) := [("law", 5), ("_law_right", 6), ("_law_words", 7), ("_law_list_words", 8), ("_law_set_words", 9), ("first_few", 10), ("_law_told_row", 11), ("_law_all_right", 12), ("_law_ring_right", 13), ("_law_lists_right", 14), ("_law_sizes_right", 15), ("_law_desk_right", 16), ("_law_texts_right", 17)]

def TabsIn (K : PySem.W.Frag) (M : Mk) : Prop := ∀ x n c P, (x, n) ∈ lamNames → PySem.W.tabIn K x = some (c, P) → M P = n
theorem lam_big {x : Str} {n : Nat} (h : (x, n) ∈ lamNames) : 5 ≤ n := by
  have all : lamNames.all (fun p => decide (5 ≤ p.2)) = true := by decide
  exact of_decide_eq_true (List.all_eq_true.mp all (x, n) h)
theorem TabsIn.step {K : PySem.W.Frag} {M M' : Mk} (t : TabsIn K M) (h : ∀ a, 5 ≤ M a → M' a = M a) : TabsIn K M' := fun x n c P hn e => by
  have q := t x n c P hn e
  rw [h P (by rw [q]; exact lam_big hn)]; exact q
theorem TabsIn.pen {K : PySem.W.Frag} {M M' : Mk} (t : TabsIn K M) (h : ∀ a, ¬ Firm (M a) → M' a = M a) : TabsIn K M' := t.step fun a z => h a fun f => absurd f.2 (Nat.not_lt_of_le z)

def CodeAt (M : Mk) (H : Hp) (q : Str) (cv : Value) : Prop := ∃ c o vs t, cv = Value.ref c ∧ M c = 4 ∧ H c = some (.frz o (.own 0)) ∧ o.data = .fields vs ∧ vs[1]? = some (.str q t)
def TabW (M : Mk) (H : Hp) : Prop := ∀ a, 5 ≤ M a → ∃ ps, H a = some (.tbl ps) ∧ TriplesOk ps.toList ∧ ∀ pos cv, codeAmong pos ps.toList = some cv → CodeAt M H (lamQ (M a)) cv
theorem CodeAt.step {M M' : Mk} {H H' : Hp} {q : Str} {cv : Value} (x : CodeAt M H q cv) (hZ : ∀ c o, H c = some o → M c = 4 → H' c = some o ∧ M' c = 4) : CodeAt M' H' q cv := by
  obtain ⟨c, o, vs, t, e, m, h, r⟩ := x
  obtain ⟨h', m'⟩ := hZ c _ h m
  exact ⟨c, o, vs, t, e, m', h', r⟩
theorem TabW.step {M M' : Mk} {H H' : Hp} (t : TabW M H) (hM : ∀ a, 5 ≤ M' a → M' a = M a) (hT : ∀ a o, 5 ≤ M a → H a = some o → H' a = some o) (hZ : ∀ c o, H c = some o → M c = 4 → H' c = some o ∧ M' c = 4) : TabW M' H' := fun a ha => by
  have e := hM a ha
  rw [e] at ha
  obtain ⟨ps, h1, h2, h3⟩ := t a ha
  exact ⟨ps, hT a _ ha h1, h2, fun pos cv q => by rw [e]; exact (h3 pos cv q).step hZ⟩
structure Wf (M : Mk) (H : Hp) : Prop where
  here : ∀ a, M a ≠ 0 → ∃ o, H a = some o
  pen : ∀ a, M a = 1 → ∃ x f : Int, H a = some (.lst [.int x, .int f]) ∧ 0 ≤ x ∧ (f = 0 ∨ f = 1)
  tab : TabW M H
structure Ext (M : Mk) (H : Hp) (M' : Mk) (H' : Hp) : Prop where
  wf : Wf M' H'
  keep : ∀ a o, H a = some o → Firm (M a) → H' a = some o ∧ M' a = M a
  pen : ∀ a, ¬ Firm (M a) → M' a = M a
structure ExtS (M : Mk) (H : Hp) (M' : Mk) (H' : Hp) : Prop where
  wf : Wf M' H'
  keep : ∀ a o, H a = some o → Firm (M a) → M a ≠ 2 → H' a = some o ∧ M' a = M a
  pen : ∀ a, ¬ Firm (M a) → M' a = M a
def setM (M : Mk) (p : Addr) (n : Nat) : Mk := fun a => if a = p then n else M a
theorem setM_same {M : Mk} {p : Addr} {n : Nat} : setM M p n p = n := by simp [setM]
theorem setM_ne {M : Mk} {p a : Addr} {n : Nat} (h : a ≠ p) : setM M p n a = M a := by simp [setM, h]
section
variable {M M1 M2 : Mk} {H H1 H2 : Hp}
theorem Wf.free (w : Wf M H) {p : Addr} (h : H p = none) : M p = 0 := by
  by_cases e : M p = 0
  · exact e
  · obtain ⟨o, q⟩ := w.here p e
    rw [h] at q; cases q
theorem Ext.refl (w : Wf M H) : Ext M H M H := ⟨w, fun _ _ h _ => ⟨h, rfl⟩, fun _ _ => rfl⟩
theorem Ext.trans (a : Ext M H M1 H1) (b : Ext M1 H1 M2 H2) : Ext M H M2 H2 :=
  ⟨b.wf, fun x o h n => by
    obtain ⟨h1, e1⟩ := a.keep x o h n
    obtain ⟨h2, e2⟩ := b.keep x o h1 (by rw [e1]; exact n)
    exact ⟨h2, e2.trans e1⟩, fun x h => (b.pen x (by rw [a.pen x h]; exact h)).trans (a.pen x h)⟩
theorem Ext.toS (a : Ext M H M1 H1) : ExtS M H M1 H1 := ⟨a.wf, fun x o h n _ => a.keep x o h n, a.pen⟩
theorem ExtS.refl (w : Wf M H) : ExtS M H M H := (Ext.refl w).toS
theorem ExtS.trans (a : ExtS M H M1 H1) (b : ExtS M1 H1 M2 H2) : ExtS M H M2 H2 :=
  ⟨b.wf, fun x o h n m => by
    obtain ⟨h1, e1⟩ := a.keep x o h n m
    obtain ⟨h2, e2⟩ := b.keep x o h1 (by rw [e1]; exact n) (by rw [e1]; exact m)
    exact ⟨h2, e2.trans e1⟩, fun x h => (b.pen x (by rw [a.pen x h]; exact h)).trans (a.pen x h)⟩
theorem Ext.new (w : Wf M H) {p : Addr} (hp : H p = none) (o : HO) : Ext M H M (upd H p o) := by
  have nep : ∀ a o, H a = some o → a ≠ p := fun a o h e => by subst e; rw [hp] at h; cases h
  refine ⟨⟨fun a ha => ?_, fun a ha => ?_, w.tab.step (fun _ _ => rfl) (fun a o _ h => by rw [upd_ne (nep a o h)]; exact h) fun c o h z => ⟨by rw [upd_ne (nep c o h)]; exact h, z⟩⟩, fun a u h _ => ⟨by rw [upd_ne (nep a u h)]; exact h, rfl⟩, fun _ _ => rfl⟩
  · obtain ⟨u, e⟩ := w.here a ha
    exact ⟨u, by rw [upd_ne (nep a u e)]; exact e⟩
  · obtain ⟨x, f, e, q⟩ := w.pen a ha
    exact ⟨x, f, by rw [upd_ne (nep a _ e)]; exact e, q⟩
theorem Ext.newM (w : Wf M H) {p : Addr} (hp : H p = none) (o : HO) {n : Nat} (hn : Firm n) : Ext M H (setM M p n) (upd H p o) := by
  have nep : ∀ a o, H a = some o → a ≠ p := fun a o h e => by subst e; rw [hp] at h; cases h
  have tw : ∀ k : Nat, k < 5 → TabW (setM M p k) (upd H p o) := fun k hk => w.tab.step (fun a ha => setM_ne fun e => by subst e; rw [setM_same] at ha; exact absurd ha (Nat.not_le_of_lt hk)) (fun a o _ h => by rw [upd_ne (nep a o h)]; exact h) fun c o h z => ⟨by rw [upd_ne (nep c o h)]; exact h, by rw [setM_ne (nep c o h)]; exact z⟩
  refine ⟨⟨fun a ha => ?_, fun a ha => ?_, tw _ hn.2⟩, fun a u h _ => ⟨by rw [upd_ne (nep a u h)]; exact h, setM_ne (nep a u h)⟩, fun a h => ?_⟩
  · by_cases e : a = p
    · subst e; exact ⟨o, upd_same⟩
    · rw [setM_ne e] at ha
      obtain ⟨u, q⟩ := w.here a ha
      exact ⟨u, by rw [upd_ne e]; exact q⟩
  · by_cases e : a = p
    · subst e; rw [setM_same] at ha; exact absurd ha hn.1
    · rw [setM_ne e] at ha
      obtain ⟨x, f, q, r⟩ := w.pen a ha
      exact ⟨x, f, by rw [upd_ne e]; exact q, r⟩
  · obtain ⟨u, q⟩ := w.here a (fun z => h (by rw [z]; decide))
    rw [setM_ne (nep a u q)]
theorem Ext.newPen (w : Wf M H) {p : Addr} (hp : H p = none) {x f : Int} (hx : 0 ≤ x) (hf : f = 0 ∨ f = 1) : Ext M H (setM M p 1) (upd H p (.lst [.int x, .int f])) := by
  have nep : ∀ a o, H a = some o → a ≠ p := fun a o h e => by subst e; rw [hp] at h; cases h
  have tw : ∀ k : Nat, k < 5 → TabW (setM M p k) (upd H p (.lst [.int x, .int f])) := fun k hk => w.tab.step (fun a ha => setM_ne fun e => by subst e; rw [setM_same] at ha; exact absurd ha (Nat.not_le_of_lt hk)) (fun a o _ h => by rw [upd_ne (nep a o h)]; exact h) fun c o h z => ⟨by rw [upd_ne (nep c o h)]; exact h, by rw [setM_ne (nep c o h)]; exact z⟩
  refine ⟨⟨fun a ha => ?_, fun a ha => ?_, tw _ (by decide)⟩, fun a u h _ => ⟨by rw [upd_ne (nep a u h)]; exact h, setM_ne (nep a u h)⟩, fun a h => ?_⟩
  · by_cases e : a = p
    · subst e; exact ⟨_, upd_same⟩
    · rw [setM_ne e] at ha
      obtain ⟨u, q⟩ := w.here a ha
      exact ⟨u, by rw [upd_ne e]; exact q⟩
  · by_cases e : a = p
    · subst e; exact ⟨x, f, upd_same, hx, hf⟩
    · rw [setM_ne e] at ha
      obtain ⟨x, f, q, r⟩ := w.pen a ha
      exact ⟨x, f, by rw [upd_ne e]; exact q, r⟩
  · obtain ⟨u, q⟩ := w.here a (fun z => h (by rw [z]; decide))
    rw [setM_ne (nep a u q)]

theorem Ext.penSet (w : Wf M H) {p : Addr} (hp : M p = 1) {x f : Int} (hx : 0 ≤ x) (hf : f = 0 ∨ f = 1) : Ext M H M (upd H p (.lst [.int x, .int f])) := by
  refine ⟨⟨fun a ha => ?_, fun a ha => ?_, w.tab.step (fun _ _ => rfl) (fun a o m h => by rw [upd_ne (fun e => by subst e; rw [hp] at m; exact absurd m (by decide))]; exact h) fun c o h z => ⟨by rw [upd_ne (fun e => by subst e; rw [hp] at z; cases z)]; exact h, z⟩⟩, fun a u h n => ⟨?_, rfl⟩, fun _ _ => rfl⟩
  · by_cases e : a = p
    · subst e; exact ⟨_, upd_same⟩
    · obtain ⟨u, q⟩ := w.here a ha
      exact ⟨u, by rw [upd_ne e]; exact q⟩
  · by_cases e : a = p
    · subst e; exact ⟨x, f, upd_same, hx, hf⟩
    · obtain ⟨x, f, q, r⟩ := w.pen a ha
      exact ⟨x, f, by rw [upd_ne e]; exact q, r⟩
  · have : a ≠ p := fun e => by subst e; exact n.1 hp
    rw [upd_ne this]; exact h
end


abbrev H0 : Hp := fun _ => none
def LsR (K : PySem.W.Frag) (M : Mk) (H : Hp) (a : Addr) (vs : List V) : Prop := (M a = 0 ∧ Rd H a (.lst vs)) ∨ SqL K H0 a vs
def TpR (K : PySem.W.Frag) (M : Mk) (H : Hp) (a : Addr) (vs : List V) : Prop := (M a = 0 ∧ Rd H a (.tup vs)) ∨ SqT K H0 a vs
mutual
inductive DR (K : PySem.W.Frag) (M : Mk) (H : Hp) : V → D → Prop
  | non : DR K M H .non .non
  | bl (b : Bool) : DR K M H (.bl b) (.bl b)
  | int (i : Int) : DR K M H (.int i) (.int i)
  | str (x : Str) : DR K M H (.str x) (.str x)
  | ty (n : String) : DR K M H (.ty n) (.ty n)
  | tup {a : Addr} {vs : List V} {ds : List D} : TpR K M H a vs → DRs K M H vs ds → DR K M H (.ref a) (.tup ds)
  | lst {a : Addr} {vs : List V} {ds : List D} : LsR K M H a vs → DRs K M H vs ds → DR K M H (.ref a) (.lst ds)
  | pen {a : Addr} : M a = 1 → DR K M H (.ref a) .pen
  | fn (a : Addr) : DR K M H (.ref a) (.fn a)
  | dic {a : Addr} : M a = 0 → H a = some (.dK [(.inr "a", .int 1)]) → DR K M H (.ref a) .dic
  | exc {a C : Addr} {o : Obj} {x : Str} {fs : List (Str × Int)} : M a = 0 → H a = some (.frz o (.own 0)) → o.cls = .ref C → PySem.W.nsIn K mainGlobals x = some (some (.ref C)) → (∃ vs, o.data = .fields vs) →
      ((fs = [] ∧ o.dict = none) ∨ ∃ dx, o.dict = some dx ∧ M dx = 0 ∧ H dx = some (.xd (fs.map fun p => (p.1, V.int p.2)))) → DR K M H (.ref a) (.exc x fs)
inductive DRs (K : PySem.W.Frag) (M : Mk) (H : Hp) : List V → List D → Prop
  | nil : DRs K M H [] []
  | cons {v : V} {vs : List V} {d : D} {ds : List D} : DR K M H v d → DRs K M H vs ds → DRs K M H (v :: vs) (d :: ds)
end
inductive OD : D → List D → Prop
  | own (ds : List D) : OD (.own ds) ds
  | gh (a : Addr) (k : GK) (ns : List Str) (ds : List D) : OD (.gh a k ns ds) ds
def GhAt (M : Mk) (H : Hp) (a : Addr) : GK → List Str → List V → Prop
  | .l, ns, vs => ns = [] ∧ H a = some (.lst vs)
  | .d, ns, vs => ns.length = vs.length ∧ H a = some (.dK ((ns.map Sum.inr).zip vs))
  | .i C, ns, vs => ns.length = vs.length ∧ ∃ dx, M dx = 0 ∧ H dx = some (.own a) ∧ H a = some (.ins C dx (ns.zip vs))
def AtD (M : Mk) (H : Hp) (a : Addr) (vs : List V) : D → Prop
  | .own _ => H a = some (.lst vs)
  | .gh b k ns _ => b = a ∧ GhAt M H a k ns vs
  | _ => False
def DV (K : PySem.W.Frag) (M : Mk) (H : Hp) (v : V) (d : D) : Prop :=
  DR K M H v d ∨ ∃ a vs ds, v = .ref a ∧ OD d ds ∧ M a = 2 ∧ AtD M H a vs d ∧ DRs K M H vs ds
inductive DVs (K : PySem.W.Frag) (M : Mk) (H : Hp) : List V → List D → Prop
  | nil : DVs K M H [] []
  | cons {v : V} {vs : List V} {d : D} {ds : List D} : DV K M H v d → DVs K M H vs ds → DVs K M H (v :: vs) (d :: ds)
section
variable {K : PySem.W.Frag} {M M1 : Mk} {H H1 : Hp}
theorem sqL_none {a : Addr} {vs : List V} (h : SqL K H0 a vs) : SqL K H a vs := by
  rcases h with (h | ⟨o, h⟩) | h
  · cases h
  · cases h
  · exact .inr h
theorem sqT_none {a : Addr} {vs : List V} (h : SqT K H0 a vs) : SqT K H a vs := by
  rcases h with (h | ⟨o, h⟩) | h
  · cases h
  · cases h
  · exact .inr h
theorem LsR.sq {a : Addr} {vs : List V} (h : LsR K M H a vs) : SqL K H a vs := h.elim (fun q => .inl q.2) sqL_none
theorem TpR.sq {a : Addr} {vs : List V} (h : TpR K M H a vs) : SqT K H a vs := h.elim (fun q => .inl q.2) sqT_none

def Keeps (M : Mk) (H : Hp) (M1 : Mk) (H1 : Hp) : Prop := (∀ a o, H a = some o → M a = 0 → H1 a = some o ∧ M1 a = 0) ∧ ∀ a, M a = 1 → M1 a = 1
theorem Rd.keeps {a : Addr} {u : HO} (k : Keeps M H M1 H1) (h0 : M a = 0) (h : Rd H a u) : M1 a = 0 ∧ Rd H1 a u := by
  rcases h with h | ⟨o, h⟩
  · exact ⟨(k.1 _ _ h h0).2, .inl (k.1 _ _ h h0).1⟩
  · exact ⟨(k.1 _ _ h h0).2, .inr ⟨o, (k.1 _ _ h h0).1⟩⟩
theorem LsR.keeps {a : Addr} {vs : List V} (k : Keeps M H M1 H1) (h : LsR K M H a vs) : LsR K M1 H1 a vs := h.elim (fun q => .inl (Rd.keeps k q.1 q.2)) .inr
theorem TpR.keeps {a : Addr} {vs : List V} (k : Keeps M H M1 H1) (h : TpR K M H a vs) : TpR K M1 H1 a vs := h.elim (fun q => .inl (Rd.keeps k q.1 q.2)) .inr
mutual
theorem DR.keeps (k : Keeps M H M1 H1) : ∀ (d : D) (v : V), DR K M H v d → DR K M1 H1 v d
  | .non, _, h => by cases h; exact .non
  | .bl _, _, h => by cases h; exact .bl _
  | .int _, _, h => by cases h; exact .int _
  | .str _, _, h => by cases h; exact .str _
  | .ty _, _, h => by cases h; exact .ty _
  | .tup ds, _, h => by cases h with | tup h1 h2 => exact .tup (h1.keeps k) (DRs.keeps k ds _ h2)
  | .lst ds, _, h => by cases h with | lst h1 h2 => exact .lst (h1.keeps k) (DRs.keeps k ds _ h2)
  | .own _, _, h => by cases h
  | .gh _ _ _ _, _, h => by cases h
  | .pen, _, h => by cases h with | pen h1 => exact .pen (k.2 _ h1)
  | .fn _, _, h => by cases h; exact .fn _
  | .dic, _, h => by cases h with | dic h1 h2 => obtain ⟨h2, h1⟩ := k.1 _ _ h2 h1; exact .dic h1 h2
  | .exc _ _, _, h => by
    cases h with | exc h1 h2 h3 h4 h6 h5 =>
      obtain ⟨h2, h1⟩ := k.1 _ _ h2 h1
      refine .exc h1 h2 h3 h4 h6 (h5.imp id fun ⟨dx, e, m, q⟩ => ?_)
      obtain ⟨q, m⟩ := k.1 _ _ q m
      exact ⟨dx, e, m, q⟩
theorem DRs.keeps (k : Keeps M H M1 H1) : ∀ (ds : List D) (vs : List V), DRs K M H vs ds → DRs K M1 H1 vs ds
  | [], _, h => by cases h; exact .nil
  | d :: ds, _, h => by cases h with | cons h1 h2 => exact .cons (DR.keeps k d _ h1) (DRs.keeps k ds _ h2)
end
theorem Ext.keeps (e : Ext M H M1 H1) : Keeps M H M1 H1 := ⟨fun a o h h0 => by
  obtain ⟨p, q⟩ := e.keep a o h (by rw [h0]; decide)
  exact ⟨p, q.trans h0⟩, fun a h => (e.pen a (by rw [h]; decide)).trans h⟩
theorem ExtS.keeps (e : ExtS M H M1 H1) : Keeps M H M1 H1 := ⟨fun a o h h0 => by
  obtain ⟨p, q⟩ := e.keep a o h (by rw [h0]; decide) (by rw [h0]; decide)
  exact ⟨p, q.trans h0⟩, fun a h => (e.pen a (by rw [h]; decide)).trans h⟩
theorem DR.ext {v : V} {d : D} (h : DR K M H v d) (e : Ext M H M1 H1) : DR K M1 H1 v d := DR.keeps e.keeps d v h
theorem DRs.ext {vs : List V} {ds : List D} (h : DRs K M H vs ds) (e : Ext M H M1 H1) : DRs K M1 H1 vs ds := DRs.keeps e.keeps ds vs h
theorem AtD.here {a : Addr} {vs : List V} {d : D} (h : AtD M H a vs d) : ∃ o, H a = some o := by
  cases d <;> first | exact False.elim h | exact ⟨_, h⟩ | skip
  rename_i b k ns ds
  obtain ⟨_, h⟩ := h
  cases k with
  | l => exact ⟨_, h.2⟩
  | d => exact ⟨_, h.2⟩
  | i C => obtain ⟨_, dx, _, _, q⟩ := h; exact ⟨_, q⟩
theorem AtD.step {a : Addr} {vs : List V} {d : D} (h : AtD M H a vs d) (k : ∀ b o, H b = some o → M b = 0 → H1 b = some o ∧ M1 b = 0) (e : H1 a = H a) : AtD M1 H1 a vs d := by
  cases d <;> first | exact False.elim h | exact e.trans h | skip
  rename_i b kk ns ds
  obtain ⟨h0, h⟩ := h
  refine ⟨h0, ?_⟩
  cases kk with
  | l => exact ⟨h.1, e.trans h.2⟩
  | d => exact ⟨h.1, e.trans h.2⟩
  | i C => obtain ⟨hl, dx, m, o, q⟩ := h; exact ⟨hl, dx, (k _ _ o m).2, (k _ _ o m).1, e.trans q⟩
theorem AtD.ext {a : Addr} {vs : List V} {d : D} (h : AtD M H a vs d) (e : Ext M H M1 H1) (h2 : M a = 2) : AtD M1 H1 a vs d := by
  obtain ⟨o, ho⟩ := h.here
  exact h.step e.keeps.1 ((e.keep a _ ho (by rw [h2]; decide)).1.trans ho.symm)
theorem OD.nown {d : D} {ds : List D} (h : OD d ds) : d.nown = false := by cases h <;> rfl
theorem DR.nown {v : V} {d : D} (h : DR K M H v d) : d.nown = true := by cases h <;> rfl
theorem DV.ext {v : V} {d : D} (h : DV K M H v d) (e : Ext M H M1 H1) : DV K M1 H1 v d := by
  rcases h with h | ⟨a, vs, ds, rfl, od, h2, ha, hd⟩
  · exact .inl (h.ext e)
  · obtain ⟨o, ho⟩ := ha.here
    exact .inr ⟨a, vs, ds, rfl, od, ((e.keep a _ ho (by rw [h2]; decide)).2).trans h2, ha.ext e h2, hd.ext e⟩
theorem DVs.ext {vs : List V} {ds : List D} (h : DVs K M H vs ds) (e : Ext M H M1 H1) : DVs K M1 H1 vs ds := by
  induction h with
  | nil => exact .nil
  | cons a _ ih => exact .cons (a.ext e) ih
theorem DV.dr {v : V} {d : D} (h : DV K M H v d) (n : d.nown = true) : DR K M H v d := by
  rcases h with h | ⟨a, vs, ds, rfl, od, _⟩
  · exact h
  · rw [od.nown] at n; cases n
theorem DVs.drs {vs : List V} {ds : List D} (h : DVs K M H vs ds) (n : ds.all D.nown = true) : DRs K M H vs ds := by
  induction h with
  | nil => exact .nil
  | cons a _ ih =>
    simp only [List.all_cons, Bool.and_eq_true] at n
    exact .cons (a.dr n.1) (ih n.2)
theorem DRs.dvs {vs : List V} {ds : List D} (h : DRs K M H vs ds) : DVs K M H vs ds := by
  induction ds generalizing vs with
  | nil => cases h; exact .nil
  | cons d ds ih => cases h with | cons a b => exact .cons (.inl a) (ih b)
theorem DRs.length : ∀ {vs : List V} {ds : List D}, DRs K M H vs ds → vs.length = ds.length
  | _, _, .nil => rfl
  | _, _, .cons _ t => by rw [List.length_cons, List.length_cons, DRs.length t]
theorem DVs.length {vs : List V} {ds : List D} (h : DVs K M H vs ds) : vs.length = ds.length := by
  induction h with
  | nil => rfl
  | cons _ _ ih => simp [ih]
theorem DRs.append : ∀ {vs ws : List V} {ds es : List D}, DRs K M H vs ds → DRs K M H ws es → DRs K M H (vs ++ ws) (ds ++ es)
  | _, _, _, _, .nil, s => s
  | _, _, _, _, .cons a t, s => .cons a (DRs.append t s)
theorem DRs.take : ∀ {vs : List V} {ds : List D} (n : Nat), DRs K M H vs ds → DRs K M H (vs.take n) (ds.take n)
  | _, _, 0, _ => .nil
  | _, _, _ + 1, .nil => .nil
  | _, _, n + 1, .cons a t => .cons a (DRs.take n t)
theorem DRs.drop : ∀ {vs : List V} {ds : List D} (n : Nat), DRs K M H vs ds → DRs K M H (vs.drop n) (ds.drop n)
  | _, _, 0, h => h
  | _, _, _ + 1, .nil => .nil
  | _, _, n + 1, .cons _ t => DRs.drop n t
theorem DRs.get : ∀ {vs : List V} {ds : List D} {i : Nat} {d : D}, DRs K M H vs ds → ds[i]? = some d → ∃ v, vs[i]? = some v ∧ DR K M H v d
  | _, _, _, _, .nil, e => by simp at e
  | _, _, 0, _, .cons a _, e => by simp at e; subst e; exact ⟨_, rfl, a⟩
  | _, _, i + 1, d, .cons _ t, e => by
    obtain ⟨v, h1, h2⟩ := DRs.get (i := i) (d := d) t (by simpa using e)
    exact ⟨v, by simpa using h1, h2⟩
theorem DRs.ints : ∀ {vs : List V} {ns : List Int}, DRs K M H vs (ns.map D.int) → vs = ns.map V.int
  | _, [], h => by cases h; rfl
  | _, n :: ns, h => by
    cases h with | cons a t => cases a; rw [DRs.ints t]; rfl
theorem DRs.ofInts : ∀ (ns : List Int), DRs K M H (ns.map V.int) (ns.map D.int)
  | [] => .nil
  | n :: ns => .cons (.int n) (DRs.ofInts ns)
theorem DV.list {v : V} {ds : List D} (h : DV K M H v (.lst ds) ∨ DV K M H v (.own ds)) : ∃ a vs, v = .ref a ∧ SqL K H a vs ∧ DRs K M H vs ds := by
  rcases h with (h | ⟨_, _, _, _, e, _⟩) | (h | ⟨a, vs, es, rfl, e, _, ha, hd⟩)
  · cases h with | lst h1 h2 => exact ⟨_, _, rfl, h1.sq, h2⟩
  · cases e
  · cases h
  · cases e; exact ⟨a, vs, rfl, .inl (.inl ha), hd⟩
theorem DV.tuple {v : V} {ds : List D} (h : DV K M H v (.tup ds)) : ∃ a vs, v = .ref a ∧ SqT K H a vs ∧ DRs K M H vs ds := by
  rcases h with h | ⟨_, _, _, _, e, _⟩
  · cases h with | tup h1 h2 => exact ⟨_, _, rfl, h1.sq, h2⟩
  · cases e
theorem DV.pen {v : V} (h : DV K M H v .pen) : ∃ a, v = .ref a ∧ M a = 1 := by
  rcases h with h | ⟨_, _, _, _, e, _⟩
  · cases h with | pen h1 => exact ⟨_, rfl, h1⟩
  · cases e
theorem DV.int {v : V} {i : Int} (h : DV K M H v (.int i)) : v = .int i := by
  rcases h with h | ⟨_, _, _, _, e, _⟩
  · cases h; rfl
  · cases e
theorem DV.bl {v : V} {b : Bool} (h : DV K M H v (.bl b)) : v = .bl b := by
  rcases h with h | ⟨_, _, _, _, e, _⟩
  · cases h; rfl
  · cases e
theorem DV.str {v : V} {x : Str} (h : DV K M H v (.str x)) : v = .str x := by
  rcases h with h | ⟨_, _, _, _, e, _⟩
  · cases h; rfl
  · cases e
theorem DV.non {v : V} (h : DV K M H v .non) : v = .non := by
  rcases h with h | ⟨_, _, _, _, e, _⟩
  · cases h; rfl
  · cases e
theorem DV.ty {v : V} {n : String} (h : DV K M H v (.ty n)) : v = .ty n := by
  rcases h with h | ⟨_, _, _, _, e, _⟩
  · cases h; rfl
  · cases e

theorem newLst (w : Wf M H) {p : Addr} (hp : H p = none) {vs : List V} {ds : List D} (h : DRs K M H vs ds) : Ext M H M (upd H p (.lst vs)) ∧ DR K M (upd H p (.lst vs)) (.ref p) (.lst ds) := by
  have e := Ext.new w hp (.lst vs)
  exact ⟨e, .lst (.inl ⟨w.free hp, .inl upd_same⟩) (h.ext e)⟩
theorem newTup (w : Wf M H) {p : Addr} (hp : H p = none) {vs : List V} {ds : List D} (h : DRs K M H vs ds) : Ext M H M (upd H p (.tup vs)) ∧ DR K M (upd H p (.tup vs)) (.ref p) (.tup ds) := by
  have e := Ext.new w hp (.tup vs)
  exact ⟨e, .tup (.inl ⟨w.free hp, .inl upd_same⟩) (h.ext e)⟩
end


abbrev DEnv := List (Option D)
structure EnvR (K : PySem.W.Frag) (M : Mk) (H : Hp) (σ : L2.St) (ρ : DEnv) : Prop where
  len : σ.length = ρ.length
  get : ∀ (i : Nat) (d : D), ρ[i]? = some (some d) → ∃ v, σ[i]? = some (some v) ∧ DV K M H v d
  uniq : ∀ (i j : Nat) (a : Addr) (ds es : D), ρ[i]? = some (some ds) → ρ[j]? = some (some es) → ds.nown = false → es.nown = false → σ[i]? = some (some (.ref a)) → σ[j]? = some (some (.ref a)) → i = j
  tabs : TabsIn K M
section
variable {K : PySem.W.Frag} {M M1 : Mk} {H H1 : Hp} {σ : L2.St} {ρ : DEnv}
theorem EnvR.ext (r : EnvR K M H σ ρ) (e : Ext M H M1 H1) : EnvR K M1 H1 σ ρ := ⟨r.len, fun i d h => by
  obtain ⟨v, h1, h2⟩ := r.get i d h
  exact ⟨v, h1, h2.ext e⟩, r.uniq, r.tabs.pen e.pen⟩
theorem EnvR.set (r : EnvR K M H σ ρ) {i : Nat} {v : V} {d : D} (h : DR K M H v d) : EnvR K M H (σ.set i (some v)) (ρ.set i (some d)) := by
  have no : ∀ (j : Nat) (es : D), (ρ.set i (some d))[j]? = some (some es) → es.nown = false → j ≠ i ∧ ρ[j]? = some (some es) := fun j es q n => by
    by_cases e : i = j
    · subst e
      rw [List.getElem?_set_self'] at q
      cases hr : ρ[i]? with
      | none => rw [hr] at q; cases q
      | some z => rw [hr] at q; cases q; rw [h.nown] at n; cases n
    · rw [List.getElem?_set_ne e] at q
      exact ⟨fun z => e z.symm, q⟩
  refine ⟨by rw [List.length_set, List.length_set]; exact r.len, fun j d' q => ?_, fun j k a ds es q1 q2 n1 n2 s1 s2 => ?_, r.tabs⟩
  · by_cases e : i = j
    · subst e
      rw [List.getElem?_set_self'] at q ⊢
      cases hr : ρ[i]? with
      | none => rw [hr] at q; cases q
      | some z =>
        rw [hr] at q; cases q
        have hl : i < σ.length := by rw [r.len]; exact (List.getElem?_eq_some_iff.mp hr).1
        rw [List.getElem?_eq_getElem hl]
        exact ⟨v, rfl, .inl h⟩
    · rw [List.getElem?_set_ne e] at q ⊢
      exact r.get j d' q
  · obtain ⟨m1, q1⟩ := no j ds q1 n1
    obtain ⟨m2, q2⟩ := no k es q2 n2
    rw [List.getElem?_set_ne (Ne.symm m1)] at s1
    rw [List.getElem?_set_ne (Ne.symm m2)] at s2
    exact r.uniq j k a ds es q1 q2 n1 n2 s1 s2

theorem EnvR.sub {σ' : L2.St} {ρ' : DEnv} (r : EnvR K M H σ ρ) (hl : σ'.length = σ.length) (hl' : ρ'.length = ρ.length) (h : ∀ (i : Nat) (d : D), ρ'[i]? = some (some d) → ρ[i]? = some (some d) ∧ ∀ (v : V), σ[i]? = some (some v) → σ'[i]? = some (some v)) : EnvR K M H σ' ρ' := by
  have back : ∀ (i : Nat) (d : D) (a : Addr), ρ'[i]? = some (some d) → σ'[i]? = some (some (.ref a)) → ρ[i]? = some (some d) ∧ σ[i]? = some (some (.ref a)) := fun i d a q s => by
    obtain ⟨h1, h2⟩ := h i d q
    obtain ⟨v, e, _⟩ := r.get i d h1
    have e' := h2 v e
    rw [s] at e'
    cases e'
    exact ⟨h1, e⟩
  refine ⟨by rw [hl, hl']; exact r.len, fun i d q => ?_, fun i j a ds es q1 q2 n1 n2 s1 s2 => ?_, r.tabs⟩
  · obtain ⟨h1, h2⟩ := h i d q
    obtain ⟨v, e, dv⟩ := r.get i d h1
    exact ⟨v, h2 v e, dv⟩
  · obtain ⟨a1, b1⟩ := back i ds a q1 s1
    obtain ⟨a2, b2⟩ := back j es a q2 s2
    exact r.uniq i j a ds es a1 a2 n1 n2 b1 b2
end


abbrev DTE := DEnv → (D → Prop) → Prop
abbrev DTT := DEnv → (Bool → Prop) → Prop
abbrev DTA := DEnv → (List D → Prop) → Prop
structure DEnds where
  nx : DEnv → Prop
  rt : D → Prop
  bk : DEnv → Prop := fun _ => False
  ct : DEnv → Prop := fun _ => False
  ro : List D → Prop := fun _ => False
abbrev DTS := DEnds → DEnv → Prop
def Out (K : PySem.W.Frag) (M : Mk) (H : Hp) (R : D → Prop) (Q : VK) : Prop := ∀ v d M' H', R d → Ext M H M' H' → DV K M' H' v d → Q v H'
def OutB (M : Mk) (H : Hp) (R : Bool → Prop) (Q : Bool → Hp → Prop) : Prop := ∀ b M' H', R b → Ext M H M' H' → Q b H'
def OutA (K : PySem.W.Frag) (M : Mk) (H : Hp) (R : List D → Prop) (Q : List V → Hp → Prop) : Prop := ∀ vs ds M' H', R ds → Ext M H M' H' → DVs K M' H' vs ds → Q vs H'
def OutN (K : PySem.W.Frag) (M : Mk) (H : Hp) (R : DEnv → Prop) (Q : L2.St → Hp → Prop) : Prop := ∀ σ ρ M' H', R ρ → ExtS M H M' H' → EnvR K M' H' σ ρ → Q σ H'
def OutR (K : PySem.W.Frag) (M : Mk) (H : Hp) (R : D → Prop) (Q : VK) : Prop := ∀ v d M' H', R d → ExtS M H M' H' → DR K M' H' v d → Q v H'

def OutO (K : PySem.W.Frag) (M : Mk) (H : Hp) (R : List D → Prop) (Q : VK) : Prop := ∀ a vs ds M' H', R ds → ExtS M H M' H' → M' a = 2 → H' a = some (.lst vs) → DRs K M' H' vs ds → Q (.ref a) H'
structure OutS (K : PySem.W.Frag) (M : Mk) (H : Hp) (DD : DEnds) (E : Ends) : Prop where
  nx : OutN K M H DD.nx E.nx
  rt : OutR K M H DD.rt E.rt
  bk : OutN K M H DD.bk E.bk
  ct : OutN K M H DD.ct E.ct
  ro : OutO K M H DD.ro E.rt
def TD (K : PySem.W.Frag) (w : DTE) : TE := fun σ H Q => ∃ M ρ R, Wf M H ∧ EnvR K M H σ ρ ∧ w ρ R ∧ Out K M H R Q
def TDT (K : PySem.W.Frag) (w : DTT) : TT := fun σ H Q => ∃ M ρ R, Wf M H ∧ EnvR K M H σ ρ ∧ w ρ R ∧ OutB M H R Q
def TDA (K : PySem.W.Frag) (w : DTA) : TA := fun σ H Q => ∃ M ρ R, Wf M H ∧ EnvR K M H σ ρ ∧ w ρ R ∧ OutA K M H R Q
def TDS (K : PySem.W.Frag) (w : DTS) : TS := fun E σ H => ∃ M ρ DD, Wf M H ∧ EnvR K M H σ ρ ∧ w DD ρ ∧ OutS K M H DD E
abbrev DPE (X : Cx) (e : Expr) (w : DTE) : Prop := PE X e (TD X.K w)
abbrev DPT (X : Cx) (e : Expr) (w : DTT) : Prop := PT X e (TDT X.K w)
abbrev DPW (X : Cx) (e : Expr) (w : DTT) : Prop := PW X e (TDT X.K w)
abbrev DPA (X : Cx) (es : List Expr) (w : DTA) : Prop := PA X es (TDA X.K w)
abbrev DPS (X : Cx) (st : Stmt) (w : DTS) : Prop := PS X st (TDS X.K w)
abbrev DPSs (X : Cx) (st : List Stmt) (w : DTS) : Prop := PSs X st (TDS X.K w)
section
variable {X : Cx} {K : PySem.W.Frag} {M M1 : Mk} {H H1 : Hp}
theorem peC {e : Expr} {t t' : TE} (h : PE X e t) (c : ∀ σ H Q, t' σ H Q → t σ H Q) : PE X e t' := fun p s σ H Q I q => h p s σ H Q I (c σ H Q q)
theorem ptC {e : Expr} {t t' : TT} (h : PT X e t) (c : ∀ σ H Q, t' σ H Q → t σ H Q) : PT X e t' := fun p s σ H Q I q => h p s σ H Q I (c σ H Q q)
theorem pwC {e : Expr} {t t' : TT} (h : PW X e t) (c : ∀ σ H Q, t' σ H Q → t σ H Q) : PW X e t' := fun wh p s σ H Q I q => h wh p s σ H Q I (c σ H Q q)
theorem paC {e : List Expr} {t t' : TA} (h : PA X e t) (c : ∀ σ H Q, t' σ H Q → t σ H Q) : PA X e t' := fun po p s σ H Q I q => h po p s σ H Q I (c σ H Q q)
theorem psC {e : Stmt} {t t' : TS} (h : PS X e t) (c : ∀ D σ H, t' D σ H → t D σ H) : PS X e t' := fun p s σ H D I q => h p s σ H D I (c D σ H q)
theorem pssC {e : List Stmt} {t t' : TS} (h : PSs X e t) (c : ∀ D σ H, t' D σ H → t D σ H) : PSs X e t' := fun p s σ H D I q => h p s σ H D I (c D σ H q)
theorem Out.ext {R : D → Prop} {Q : VK} (o : Out K M H R Q) (e : Ext M H M1 H1) : Out K M1 H1 R Q := fun v d M' H' r x dv => o v d M' H' r (e.trans x) dv
theorem OutB.ext {R : Bool → Prop} {Q : Bool → Hp → Prop} (o : OutB M H R Q) (e : Ext M H M1 H1) : OutB M1 H1 R Q := fun v M' H' r x => o v M' H' r (e.trans x)
theorem OutA.ext {R : List D → Prop} {Q : List V → Hp → Prop} (o : OutA K M H R Q) (e : Ext M H M1 H1) : OutA K M1 H1 R Q := fun v d M' H' r x dv => o v d M' H' r (e.trans x) dv
theorem OutN.extS {R : DEnv → Prop} {Q : L2.St → Hp → Prop} (o : OutN K M H R Q) (e : ExtS M H M1 H1) : OutN K M1 H1 R Q := fun v d M' H' r x dv => o v d M' H' r (e.trans x) dv
theorem OutR.extS {R : D → Prop} {Q : VK} (o : OutR K M H R Q) (e : ExtS M H M1 H1) : OutR K M1 H1 R Q := fun v d M' H' r x dv => o v d M' H' r (e.trans x) dv
theorem OutS.extS {DD : DEnds} {E : Ends} (o : OutS K M H DD E) (e : ExtS M H M1 H1) : OutS K M1 H1 DD E := ⟨o.nx.extS e, o.rt.extS e, o.bk.extS e, o.ct.extS e, fun a vs ds M' H' q e' => o.ro a vs ds M' H' q (e.trans e')⟩

theorem Out.now {R : D → Prop} {Q : VK} (o : Out K M H R Q) (w : Wf M H) {v : V} {d : D} (r : R d) (h : DV K M H v d) : Q v H := o v d M H r (.refl w) h
theorem Out.nowR {R : D → Prop} {Q : VK} (o : Out K M H R Q) (w : Wf M H) {v : V} {d : D} (r : R d) (h : DR K M H v d) : Q v H := o v d M H r (.refl w) (.inl h)


def envP : Option (Option D) → (D → Prop) → Prop
  | some (some d), k => k d
  | _, _ => False
theorem envP_ex {o : Option (Option D)} {k : D → Prop} (h : envP o k) : ∃ d, o = some (some d) ∧ k d := by
  match o, h with
  | some (some d), h => exact ⟨d, rfl, h⟩
def wVar (i : Nat) : DTE := fun ρ R => envP ρ[i]? R
def wC (d : D) : DTE := fun _ R => R d
theorem td_var {σ : L2.St} {Q : VK} {i : Nat} (h : TD K (wVar i) σ H Q) : tVar i σ H Q := by
  obtain ⟨M, ρ, R, w, r, q, o⟩ := h
  obtain ⟨d, e, q⟩ := envP_ex q
  obtain ⟨v, h1, h2⟩ := r.get i d e
  exact ⟨v, h1, o.now w q h2⟩
theorem dv (i : Nat) {x : Str} {pos : Pos} (hN : X.N[i]? = some x := by rfl) (hv : Vis X.env.scope x := by first | exact Or.inl rfl | exact Or.inr (Or.inl rfl) | exact Or.inr (Or.inr rfl)) (hd : (x == ("__debug__" : Str)) = false := by decide)
    (hcd : (x == ("__classdict__" : Str)) = false := by decide) : DPE X (.Name x pos) (wVar i) := peC (pe_var hN hv hd hcd) fun _ _ _ h => td_var h
theorem td_c {σ : L2.St} {Q : VK} {v : V} {d : D} (e : ∀ M H, DR K M H v d) (h : TD K (wC d) σ H Q) : tC v σ H Q := by
  obtain ⟨M, ρ, R, w, r, q, o⟩ := h
  exact o.nowR w q (e M H)
theorem d_int {i j pos} : DPE X (.Constant (.int i) j pos) (wC (.int i)) := peC pe_int fun _ _ _ h => td_c (fun _ _ => .int i) h
theorem d_bl {i j pos} : DPE X (.Constant (.bool i) j pos) (wC (.bl i)) := peC pe_bl fun _ _ _ h => td_c (fun _ _ => .bl i) h
theorem d_non {j pos} : DPE X (.Constant .none j pos) (wC .non) := peC pe_non fun _ _ _ h => td_c (fun _ _ => .non) h
theorem d_str {i j pos} : DPE X (.Constant (.str i) j pos) (wC (.str i)) := peC pe_str fun _ _ _ h => td_c (fun _ _ => .str i) h
theorem d_globI {x : Str} {i : Int} {t : Tok} {pos : Pos} (hg : Gl X x) (hm : X.mg x = some (.int i t)) (hd : (x == ("__debug__" : Str)) = false := by decide) : DPE X (.Name x pos) (wC (.int i)) :=
  peC (pe_glob (v := .int i) hg hm ⟨t, rfl⟩ hd) fun _ _ _ h => td_c (fun _ _ => .int i) h
abbrev D2 := D → D → (D → Prop) → Prop
def wOp (r : D2) (wa wb : DTE) : DTE := fun ρ R => wa ρ fun x => wb ρ fun y => r x y R
def Cp2 (K : PySem.W.Frag) (r : R2) (rD : D2) : Prop := ∀ M H x y dx dy R Q, Wf M H → DV K M H x dx → DV K M H y dy → rD dx dy R → Out K M H R Q → r x y H Q
theorem td_op {r : R2} {rD : D2} {wa wb : DTE} (c : Cp2 K r rD) {σ : L2.St} {Q : VK} (h : TD K (wOp rD wa wb) σ H Q) : tOp r (TD K wa) (TD K wb) σ H Q := by
  obtain ⟨M, ρ, R, w, r, q, o⟩ := h
  refine ⟨M, ρ, _, w, r, q, fun v d M1 H1 q1 e1 dv => ?_⟩
  refine ⟨M1, ρ, _, e1.wf, r.ext e1, q1, fun v2 d2 M2 H2 q2 e2 dv2 => ?_⟩
  exact c M2 H2 v v2 d d2 R Q e2.wf (dv.ext e2) dv2 q2 (o.ext (e1.trans e2))
theorem d_op {op : Operator} {r : R2} {rD : D2} {a b : Expr} {wa wb : DTE} {pos : Pos} (ho : OpR X (binaryOp op) r) (c : Cp2 X.K r rD) (ha : DPE X a wa) (hb : DPE X b wb) : DPE X (.BinOp a op b pos) (wOp rD wa wb) :=
  peC (pe_op ho ha hb) fun _ _ _ h => td_op c h
def rdI (C : Int → Int → Prop) (g : Int → Int → D) : D2 := fun x y R => x.intP fun i => y.intP fun j => C i j ∧ R (g i j)
def rdI0 (g : Int → Int → D) : D2 := fun x y R => x.intP fun i => y.intP fun j => R (g i j)
theorem cp_I {C : Int → Int → Prop} {g : Int → Int → V} {g' : Int → Int → D} (hg : ∀ i j M H, DR K M H (g i j) (g' i j)) : Cp2 K (rI C g) (rdI C g') := by
  intro M H x y dx dy R Q w hx hy h o
  obtain ⟨i, rfl, hn1⟩ := D.intP_ex h
  obtain ⟨j, rfl, c, r⟩ := D.intP_ex hn1
  exact ⟨i, j, hx.int, hy.int, c, o.nowR w r (hg i j M H)⟩
theorem cp_I0 {g : Int → Int → V} {g' : Int → Int → D} (hg : ∀ i j M H, DR K M H (g i j) (g' i j)) : Cp2 K (rI0 g) (rdI0 g') := by
  intro M H x y dx dy R Q w hx hy h o
  obtain ⟨i, rfl, hn1⟩ := D.intP_ex h
  obtain ⟨j, rfl, r⟩ := D.intP_ex hn1
  exact ⟨i, j, hx.int, hy.int, o.nowR w r (hg i j M H)⟩
def rAddI : D2 := rdI0 fun i j => .int (i + j)
def rSubI : D2 := rdI0 fun i j => .int (i - j)
def rMulI : D2 := rdI CMul fun i j => .int (i * j)
def rModI : D2 := rdI (fun _ j => 0 < j) fun i j => .int (i % j)
def rDivI : D2 := rdI CDiv fun i j => .int (i / j)
def rPowI : D2 := rdI CPow fun i j => .int (i ^ j.toNat)
theorem d_add {a b : Expr} {wa wb : DTE} {pos : Pos} (ha : DPE X a wa) (hb : DPE X b wb) : DPE X (.BinOp a .Add b pos) (wOp rAddI wa wb) := d_op op_add (cp_I0 fun _ _ _ _ => .int _) ha hb
theorem d_sub {a b : Expr} {wa wb : DTE} {pos : Pos} (ha : DPE X a wa) (hb : DPE X b wb) : DPE X (.BinOp a .Sub b pos) (wOp rSubI wa wb) := d_op op_sub (cp_I0 fun _ _ _ _ => .int _) ha hb
theorem d_mul {a b : Expr} {wa wb : DTE} {pos : Pos} (ha : DPE X a wa) (hb : DPE X b wb) : DPE X (.BinOp a .Mult b pos) (wOp rMulI wa wb) := d_op op_mul (cp_I fun _ _ _ _ => .int _) ha hb
theorem d_mod {a b : Expr} {wa wb : DTE} {pos : Pos} (ha : DPE X a wa) (hb : DPE X b wb) : DPE X (.BinOp a .Mod b pos) (wOp rModI wa wb) := d_op op_mod (cp_I fun _ _ _ _ => .int _) ha hb
theorem d_fdiv {a b : Expr} {wa wb : DTE} {pos : Pos} (ha : DPE X a wa) (hb : DPE X b wb) : DPE X (.BinOp a .FloorDiv b pos) (wOp rDivI wa wb) := d_op op_fdiv (cp_I fun _ _ _ _ => .int _) ha hb
theorem d_pow {a b : Expr} {wa wb : DTE} {pos : Pos} (ha : DPE X a wa) (hb : DPE X b wb) : DPE X (.BinOp a .Pow b pos) (wOp rPowI wa wb) := d_op op_pow (cp_I fun _ _ _ _ => .int _) ha hb

theorem d_cmp {op : CmpOp} {r : R2} {rD : D2} {a b : Expr} {wa wb : DTE} {pos : Pos} (ho : OpR X (compareOp op) r) (c : Cp2 X.K r rD) (ha : DPE X a wa) (hb : DPE X b wb) (hm : behindInMarks op b = false) : DPE X (.Compare a [op] [b] pos) (wOp rD wa wb) :=
  peC (pe_cmpR ho ha hb hm) fun _ _ _ h => td_op c h
def rLtI : D2 := rdI0 fun i j => .bl (decide (i < j))
def rLeI : D2 := rdI0 fun i j => .bl (decide (i ≤ j))
def rGtI : D2 := rdI0 fun i j => .bl (decide (j < i))
def rGeI : D2 := rdI0 fun i j => .bl (decide (j ≤ i))
theorem d_lt {a b : Expr} {wa wb : DTE} {pos : Pos} (ha : DPE X a wa) (hb : DPE X b wb) : DPE X (.Compare a [.Lt] [b] pos) (wOp rLtI wa wb) := d_cmp op_lt (cp_I0 fun _ _ _ _ => .bl _) ha hb (nomark _)
theorem d_ge {a b : Expr} {wa wb : DTE} {pos : Pos} (ha : DPE X a wa) (hb : DPE X b wb) : DPE X (.Compare a [.GtE] [b] pos) (wOp rGeI wa wb) := d_cmp op_ge (cp_I0 fun _ _ _ _ => .bl _) ha hb (nomark _)
end
end DL

set_option Elab.async false
set_option linter.all false
set_option maxRecDepth 100000
set_option maxHeartbeats 4000000
namespace DL
open PySem PySem.Spec PyProof.Rows L2
section
variable {X : Cx} {K : PySem.W.Frag} {M M1 : Mk} {H H1 : Hp} {a b c e : Expr} {wa wb wc we : DTE} {va vb vc : DTT} {pos : Pos} {rest : List Expr}


def wT (w : DTE) : DTT := fun ρ R => w ρ fun d => d.blP R
theorem tdt_val {σ : L2.St} {Q : Bool → Hp → Prop} (h : TDT K (wT we) σ H Q) : tB (TD K we) σ H Q := by
  obtain ⟨M, ρ, R, w, r, q, o⟩ := h
  refine ⟨M, ρ, _, w, r, q, fun v d M1 H1 q1 e1 dv => ?_⟩
  obtain ⟨k, rfl, q1n1⟩ := D.blP_ex q1
  exact ⟨k, dv.bl, o k M1 H1 q1n1 e1⟩
theorem dt_val (h : DPE X e we) (he : ∀ whole, isTrue e X.env whole = (do let v ← whole; standAt e.pos; holding [v] (truthy v)) := by intro _; rfl) : DPT X e (wT we) := ptC (pt_val h he) fun _ _ _ q => tdt_val q
theorem dt_cmp {op : CmpOp} {r : R2} {rD : D2} (ho : OpR X (compareOp op) r) (cp : Cp2 X.K r rD) (ha : DPE X a wa) (hb : DPE X b wb) (hm : behindInMarks op b = false) : DPT X (.Compare a [op] [b] pos) (wT (wOp rD wa wb)) := by
  refine ptC (pt_cmpR ho ha hb hm) fun σ H Q q => ?_
  have q := tdt_val q
  obtain ⟨M, ρ, R, w, r, q, o⟩ := q
  exact td_op cp ⟨M, ρ, R, w, r, q, o⟩
theorem dt_lt (ha : DPE X a wa) (hb : DPE X b wb) : DPT X (.Compare a [.Lt] [b] pos) (wT (wOp rLtI wa wb)) := dt_cmp op_lt (cp_I0 fun _ _ _ _ => .bl _) ha hb (nomark _)
theorem dt_le (ha : DPE X a wa) (hb : DPE X b wb) : DPT X (.Compare a [.LtE] [b] pos) (wT (wOp rLeI wa wb)) := dt_cmp op_le (cp_I0 fun _ _ _ _ => .bl _) ha hb (nomark _)
theorem dt_gt (ha : DPE X a wa) (hb : DPE X b wb) : DPT X (.Compare a [.Gt] [b] pos) (wT (wOp rGtI wa wb)) := dt_cmp op_gt (cp_I0 fun _ _ _ _ => .bl _) ha hb (nomark _)
theorem dt_ge (ha : DPE X a wa) (hb : DPE X b wb) : DPT X (.Compare a [.GtE] [b] pos) (wT (wOp rGeI wa wb)) := dt_cmp op_ge (cp_I0 fun _ _ _ _ => .bl _) ha hb (nomark _)
def wNot (t : DTT) : DTT := fun ρ R => t ρ fun k => R (!k)
def wAnd (t u : DTT) : DTT := fun ρ R => t ρ fun k => if k = true then u ρ R else R false
def wOr (t u : DTT) : DTT := fun ρ R => t ρ fun k => if k = true then R true else u ρ R
theorem dt_not (ha : DPT X a va) : DPT X (.UnaryOp .Not a pos) (wNot va) := ptC (pt_not ha) fun σ H Q ⟨M, ρ, R, w, r, q, o⟩ => ⟨M, ρ, _, w, r, q, fun k M1 H1 q1 e1 => o _ M1 H1 q1 e1⟩
theorem dw_and1 (ha : DPT X a va) : DPW X (.BoolOp .And [a] pos) va := pw_and1 ha
theorem dw_or1 (ha : DPT X a va) : DPW X (.BoolOp .Or [a] pos) va := pw_or1 ha
theorem dw_and (ha : DPT X a va) (hb : DPW X (.BoolOp .And (b :: rest) pos) vb) : DPW X (.BoolOp .And (a :: b :: rest) pos) (wAnd va vb) := pwC (pw_and ha hb) fun σ H Q ⟨M, ρ, R, w, r, q, o⟩ => by
  refine ⟨M, ρ, _, w, r, q, fun k M1 H1 q1 e1 => ?_⟩
  cases k with
  | true => exact ⟨M1, ρ, R, e1.wf, r.ext e1, q1, o.ext e1⟩
  | false => exact o _ M1 H1 q1 e1
theorem dw_or (ha : DPT X a va) (hb : DPW X (.BoolOp .Or (b :: rest) pos) vb) : DPW X (.BoolOp .Or (a :: b :: rest) pos) (wOr va vb) := pwC (pw_or ha hb) fun σ H Q ⟨M, ρ, R, w, r, q, o⟩ => by
  refine ⟨M, ρ, _, w, r, q, fun k M1 H1 q1 e1 => ?_⟩
  cases k with
  | false => exact ⟨M1, ρ, R, e1.wf, r.ext e1, q1, o.ext e1⟩
  | true => exact o _ M1 H1 q1 e1

def wAndV (wa wb : DTE) : DTE := fun ρ R => wa ρ fun x => x.blP fun k => if k = true then wb ρ R else R (.bl false)
def wNotV (wa : DTE) : DTE := fun ρ R => wa ρ fun x => x.blP fun k => R (.bl (!k))
theorem d_one {op} (h : DPE X a wa) : DPE X (.BoolOp op [a] pos) wa := pe_one h
theorem d_and (ha : DPE X a wa) (hb : DPE X (.BoolOp .And (b :: rest) pos) wb) : DPE X (.BoolOp .And (a :: b :: rest) pos) (wAndV wa wb) := peC (pe_and ha hb) fun σ H Q ⟨M, ρ, R, w, r, q, o⟩ => by
  refine ⟨M, ρ, _, w, r, q, fun v d M1 H1 q1 e1 dv => ?_⟩
  obtain ⟨k, rfl, q1n1⟩ := D.blP_ex q1
  refine ⟨k, dv.bl, ?_⟩
  cases k with
  | true => exact ⟨M1, ρ, R, e1.wf, r.ext e1, q1n1, o.ext e1⟩
  | false => exact (o.ext e1).nowR e1.wf q1n1 (.bl _)
theorem d_not (ha : DPE X a wa) : DPE X (.UnaryOp .Not a pos) (wNotV wa) := peC (pe_not ha) fun σ H Q ⟨M, ρ, R, w, r, q, o⟩ => by
  refine ⟨M, ρ, _, w, r, q, fun v d M1 H1 q1 e1 dv => ?_⟩
  obtain ⟨k, rfl, q1n1⟩ := D.blP_ex q1
  exact ⟨k, dv.bl, (o.ext e1).nowR e1.wf q1n1 (.bl _)⟩
def wChain (r r' : D2) (wa wb wc : DTE) : DTE := fun ρ R => wa ρ fun x => wb ρ fun y => r x y fun z => z.blP fun k => if k = true then wc ρ fun u => r' y u R else R (.bl false)
theorem td_chain {r r' : R2} {rD rD' : D2} (cp : Cp2 K r rD) (cp' : Cp2 K r' rD') {σ : L2.St} {Q : VK} (h : TD K (wChain rD rD' wa wb wc) σ H Q) : tChain r r' (TD K wa) (TD K wb) (TD K wc) σ H Q := by
  obtain ⟨M, ρ, R, w, er, q, o⟩ := h
  refine ⟨M, ρ, _, w, er, q, fun v d M1 H1 q1 e1 dv => ?_⟩
  refine ⟨M1, ρ, _, e1.wf, er.ext e1, q1, fun v2 d2 M2 H2 q2 e2 dv2 => ?_⟩
  refine cp M2 H2 v v2 d d2 _ _ e2.wf (dv.ext e2) dv2 q2 fun v3 d3 M3 H3 q3 e3 dv3 => ?_
  obtain ⟨k, rfl, q3n1⟩ := D.blP_ex q3
  refine ⟨k, dv3.bl, ?_⟩
  have e13 := (e1.trans e2).trans e3
  cases k with
  | false => exact (o.ext e13).nowR e13.wf q3n1 (.bl _)
  | true =>
    refine ⟨M3, ρ, _, e13.wf, er.ext e13, q3n1, fun v4 d4 M4 H4 q4 e4 dv4 => ?_⟩
    exact cp' M4 H4 v2 v4 d2 d4 R Q e4.wf ((dv2.ext e3).ext e4) dv4 q4 (o.ext (e13.trans e4))
theorem d_chain {op op' : CmpOp} {r r' : R2} {rD rD' : D2} (ho : OpR X (compareOp op) r) (ho' : OpR X (compareOp op') r') (cp : Cp2 X.K r rD) (cp' : Cp2 X.K r' rD') (ha : DPE X a wa) (hb : DPE X b wb) (hc : DPE X c wc)
    (hm : lastMarks [op, op'] [b, c] = false := by with_unfolding_all rfl) : DPE X (.Compare a [op, op'] [b, c] pos) (wChain rD rD' wa wb wc) := peC (pe_chain ho ho' ha hb hc hm) fun _ _ _ q => td_chain cp cp' q
def wNil : DTA := fun _ R => R []
def wCons (w : DTE) (t : DTA) : DTA := fun ρ R => w ρ fun d => t ρ fun ds => R (d :: ds)
theorem da_nil : DPA X [] wNil := paC pa_nil fun σ H Q ⟨M, ρ, R, w, r, q, o⟩ => o [] [] M H q (.refl w) .nil
theorem da_cons {es : List Expr} {ta : DTA} (ha : DPE X e we) (hr : DPA X es ta) (hs : starEach (e :: es) X.env = (false, eval e X.env) :: starEach es X.env := by rfl) : DPA X (e :: es) (wCons we ta) := paC (pa_cons ha hr hs) fun σ H Q ⟨M, ρ, R, w, r, q, o⟩ => by
  refine ⟨M, ρ, _, w, r, q, fun v d M1 H1 q1 e1 dv => ?_⟩
  refine ⟨M1, ρ, _, e1.wf, r.ext e1, q1, fun vs ds M2 H2 q2 e2 dvs => ?_⟩
  exact o (v :: vs) (d :: ds) M2 H2 q2 (e1.trans e2) (.cons (dv.ext e2) dvs)
def wTup (t : DTA) : DTE := fun ρ R => t ρ fun ds => ds.length ≤ sizeLine ∧ ds.all D.nown = true ∧ R (.tup ds)
def wLst (t : DTA) : DTE := fun ρ R => t ρ fun ds => ds.length ≤ sizeLine ∧ ds.all D.nown = true ∧ R (.lst ds)
theorem d_tup {es : List Expr} {ta : DTA} {x1} (h : DPA X es ta) : DPE X (.Tuple es x1 pos) (wTup ta) := peC (pe_tup h) fun σ H Q ⟨M, ρ, R, w, r, q, o⟩ => by
  refine ⟨M, ρ, _, w, r, q, fun vs ds M1 H1 q1 e1 dvs => ?_⟩
  obtain ⟨hl, hn, q1⟩ := q1
  refine ⟨by rw [dvs.length]; exact hl, fun p hp => ?_⟩
  obtain ⟨e2, dr⟩ := newTup e1.wf hp (dvs.drs hn)
  exact o _ _ _ _ q1 (e1.trans e2) (.inl dr)
theorem d_lst {es : List Expr} {ta : DTA} (h : DPA X es ta) : DPE X (.List es pos) (wLst ta) := peC (pe_lst h) fun σ H Q ⟨M, ρ, R, w, r, q, o⟩ => by
  refine ⟨M, ρ, _, w, r, q, fun vs ds M1 H1 q1 e1 dvs => ?_⟩
  obtain ⟨hl, hn, q1⟩ := q1
  refine ⟨by rw [dvs.length]; exact hl, fun p hp => ?_⟩
  obtain ⟨e2, dr⟩ := newLst e1.wf hp (dvs.drs hn)
  exact o _ _ _ _ q1 (e1.trans e2) (.inl dr)

def wPenNew (t : DTA) : DTE := fun ρ R => t ρ fun ds => twoP ds fun a b => a.intP fun x => b.intP fun f => 0 ≤ x ∧ (f = 0 ∨ f = 1) ∧ R .pen
theorem d_penNew {es : List Expr} {ta : DTA} (h : DPA X es ta) : DPE X (.List es pos) (wPenNew ta) := peC (pe_lst h) fun σ H Q ⟨M, ρ, R, w, r, q, o⟩ => by
  refine ⟨M, ρ, _, w, r, q, fun vs ds M1 H1 q1 e1 dvs => ?_⟩
  obtain ⟨da, db, rfl, q1n1⟩ := twoP_ex q1
  obtain ⟨x, rfl, q1n2⟩ := D.intP_ex q1n1
  obtain ⟨f, rfl, hx, hf, q1n3⟩ := D.intP_ex q1n2
  obtain ⟨v1, v2, rfl, rfl, rfl⟩ : ∃ v1 v2, vs = [v1, v2] ∧ v1 = .int x ∧ v2 = .int f := by
    cases dvs with | cons a t => cases t with | cons b t => cases t; exact ⟨_, _, rfl, a.int, b.int⟩
  refine ⟨by show 2 ≤ sizeLine; rw [sizeLine_eq]; decide, fun p hp => ?_⟩
  have e2 := Ext.newPen e1.wf hp hx hf
  exact o _ _ _ _ q1n3 (e1.trans e2) (.inl (.pen setM_same))


abbrev DN := List D → (D → Prop) → Prop
def CpN (K : PySem.W.Frag) (r : List V → Hp → VK → Prop) (rD : DN) : Prop := ∀ M H xs ds R Q, Wf M H → DVs K M H xs ds → rD ds R → Out K M H R Q → r xs H Q
def wCB (r : DN) (t : DTA) : DTE := fun ρ R => t ρ fun ds => r ds R
theorem td_cb {r : List V → Hp → VK → Prop} {rD : DN} {ta : DTA} (cp : CpN K r rD) {σ : L2.St} {Q : VK} (h : TD K (wCB rD ta) σ H Q) : tCB r (TDA K ta) σ H Q := by
  obtain ⟨M, ρ, R, w, er, q, o⟩ := h
  refine ⟨M, ρ, _, w, er, q, fun vs ds M1 H1 q1 e1 dvs => ?_⟩
  exact cp M1 H1 vs ds R Q e1.wf dvs q1 (o.ext e1)
theorem d_callB {x : Str} {p : Pos} {es : List Expr} {id : String} {r : List V → Hp → VK → Prop} {rD : DN} {ta : DTA} (hc : CallR X (.builtin id) r) (cp : CpN X.K r rD) (hg : Gl X x) (hm : X.mg x = none) (hv : bootBuiltins x = some (.builtin id)) (ha : DPA X (e :: es) ta) (hn : x ≠ "__name__" := by decide) (hdb : (x == ("__debug__" : Str)) = false := by decide)
    (he : starEach (e :: es) X.env = (false, eval e X.env) :: starEach es X.env := by rfl) (hpl : (backTo pos (starEach es X.env)).any (·.1) = false := by rfl) : DPE X (.Call (.Name x p) (e :: es) [] pos) (wCB rD ta) := peC (pe_callB hc hg hm hv ha hn hdb he hpl) fun _ _ _ q => td_cb cp q
theorem d_callTy {x : Str} {p : Pos} {es : List Expr} {T : String} {r : List V → Hp → VK → Prop} {rD : DN} {ta : DTA} (hc : CallR X (.type T) r) (cp : CpN X.K r rD) (hg : Gl X x) (hm : X.mg x = none) (hv : bootBuiltins x = some (.type T)) (ha : DPA X (e :: es) ta) (hn : x ≠ "__name__" := by decide) (hdb : (x == ("__debug__" : Str)) = false := by decide)
    (he : starEach (e :: es) X.env = (false, eval e X.env) :: starEach es X.env := by rfl) (hpl : (backTo pos (starEach es X.env)).any (·.1) = false := by rfl) : DPE X (.Call (.Name x p) (e :: es) [] pos) (wCB rD ta) := peC (pe_callTy hc hg hm hv ha hn hdb he hpl) fun _ _ _ q => td_cb cp q
theorem DVs.one {vs : List V} {d : D} (h : DVs K M H vs [d]) : ∃ v, vs = [v] ∧ DV K M H v d := by
  cases h with | cons a t => cases t; exact ⟨_, rfl, a⟩
theorem DVs.two {vs : List V} {d d' : D} (h : DVs K M H vs [d, d']) : ∃ v v', vs = [v, v'] ∧ DV K M H v d ∧ DV K M H v' d' := by
  cases h with | cons a t => cases t with | cons b t => cases t; exact ⟨_, _, rfl, a, b⟩

def D.items : D → Option (List D)
  | .lst ds => some ds
  | .own ds => some ds
  | .tup ds => some ds
  | _ => none
theorem DV.seq {v : V} {d : D} {ds : List D} (h : DV K M H v d) (e : d.items = some ds) : ∃ a vs, v = .ref a ∧ (SqL K H a vs ∨ SqT K H a vs) ∧ DRs K M H vs ds := by
  cases d with
  | lst es => cases e; obtain ⟨a, vs, e1, e2, e3⟩ := DV.list (.inl h); exact ⟨a, vs, e1, .inl e2, e3⟩
  | own es => cases e; obtain ⟨a, vs, e1, e2, e3⟩ := DV.list (.inr h); exact ⟨a, vs, e1, .inl e2, e3⟩
  | tup es => cases e; obtain ⟨a, vs, e1, e2, e3⟩ := DV.tuple h; exact ⟨a, vs, e1, .inr e2, e3⟩
  | _ => cases e
theorem D.itemsP_ex {d : D} {k : List D → Prop} (h : d.itemsP k) : ∃ ds, d.items = some ds ∧ k ds := by cases d <;> first | exact ⟨_, rfl, h⟩ | exact h.elim
def rLen : DN := fun ds R => oneP ds fun d => d.itemsP fun xs => R (.int xs.length)
theorem cp_len : CpN K (fun xs H Q => ∃ p ys, xs = [.ref p] ∧ (SqL K H p ys ∨ SqT K H p ys) ∧ Q (.int ys.length) H) rLen := by
  intro M H xs ds R Q w dvs h0 o
  obtain ⟨d, rfl, h0n1⟩ := oneP_ex h0
  obtain ⟨ys, hi, q⟩ := D.itemsP_ex h0n1
  obtain ⟨v, rfl, h⟩ := dvs.one
  obtain ⟨a, vs, rfl, hs, hd⟩ := h.seq hi
  exact ⟨a, vs, rfl, hs, o.nowR w (by rw [hd.length]; exact q) (.int _)⟩
def rTupleOf : DN := fun ds R => oneP ds fun d => d.itemsP fun xs => R (.tup xs)
theorem cp_tupleOf : CpN K (fun xs H Q => ∃ p ys, xs = [.ref p] ∧ ((SqL K H p ys ∧ ∀ l, H l = none → Q (.ref l) (upd H l (.tup ys))) ∨ (SqT K H p ys ∧ Q (.ref p) H))) rTupleOf := by
  intro M H xs ds R Q w dvs h0 o
  obtain ⟨d, rfl, h0n1⟩ := oneP_ex h0
  obtain ⟨ys, hi, q⟩ := D.itemsP_ex h0n1
  obtain ⟨v, rfl, h⟩ := dvs.one
  have new : ∀ a vs, SqL K H a vs → DRs K M H vs ys → v = .ref a → ∃ p zs, ([v] : List V) = [.ref p] ∧ ((SqL K H p zs ∧ ∀ l, H l = none → Q (.ref l) (upd H l (.tup zs))) ∨ (SqT K H p zs ∧ Q (.ref p) H)) := by
    rintro a vs hs hd rfl
    refine ⟨a, vs, rfl, .inl ⟨hs, fun l hl => ?_⟩⟩
    obtain ⟨e2, dr⟩ := newTup w hl hd
    exact o _ _ _ _ q e2 (.inl dr)
  cases d with
  | lst es => cases hi; obtain ⟨a, vs, e1, e2, e3⟩ := DV.list (.inl h); exact new a vs e2 e3 e1
  | own es => cases hi; obtain ⟨a, vs, e1, e2, e3⟩ := DV.list (.inr h); exact new a vs e2 e3 e1
  | tup es => cases hi; obtain ⟨a, vs, rfl, e2, e3⟩ := DV.tuple h; exact ⟨a, vs, rfl, .inr ⟨e2, o.now w q h⟩⟩
  | _ => cases hi
def rListOf : DN := fun ds R => oneP ds fun d => d.itemsP fun xs => R (.lst xs)
theorem cp_listOf : CpN K (fun xs H Q => ∃ p ys, xs = [.ref p] ∧ (SqL K H p ys ∨ SqT K H p ys) ∧ ∀ l, H l = none → Q (.ref l) (upd H l (.lst ys))) rListOf := by
  intro M H xs ds R Q w dvs h0 o
  obtain ⟨d, rfl, h0n1⟩ := oneP_ex h0
  obtain ⟨ys, hi, q⟩ := D.itemsP_ex h0n1
  obtain ⟨v, rfl, h⟩ := dvs.one
  obtain ⟨a, vs, rfl, hs, hd⟩ := h.seq hi
  refine ⟨a, vs, rfl, hs, fun l hl => ?_⟩
  obtain ⟨e2, dr⟩ := newLst w hl hd
  exact o _ _ _ _ q e2 (.inl dr)
def rMax2 : DN := fun ds R => twoP ds fun a b => a.intP fun i => b.intP fun j => R (.int (if j > i then j else i))
theorem cp_max2 : CpN K (fun xs H Q => ∃ i j, xs = [.int i, .int j] ∧ Q (.int (if j > i then j else i)) H) rMax2 := by
  intro M H xs ds R Q w dvs h0 o
  obtain ⟨da, db, rfl, h0n1⟩ := twoP_ex h0
  obtain ⟨i, rfl, h0n2⟩ := D.intP_ex h0n1
  obtain ⟨j, rfl, q⟩ := D.intP_ex h0n2
  obtain ⟨v, v', rfl, h, h'⟩ := dvs.two
  cases h.int; cases h'.int
  exact ⟨i, j, rfl, o.nowR w q (.int _)⟩
def D.int1P : D → (D → Prop) → Prop
  | .int i, k => k (.int i)
  | .bl b, k => k (.int (if b then 1 else 0))
  | _, _ => False
def rInt1 : DN := fun ds R => oneP ds fun d => d.int1P R
theorem cp_int1 : CpN K (fun xs H Q => (∃ i, xs = [.int i] ∧ Q (.int i) H) ∨ ∃ k, xs = [.bl k] ∧ Q (.int (if k then 1 else 0)) H) rInt1 := by
  intro M H xs ds R Q w dvs h0 o
  obtain ⟨d, rfl, h0n1⟩ := oneP_ex h0
  obtain ⟨v, rfl, h⟩ := dvs.one
  cases d with
  | int i => cases h.int; exact .inl ⟨i, rfl, o.nowR w h0n1 (.int _)⟩
  | bl k => cases h.bl; exact .inr ⟨k, rfl, o.nowR w h0n1 (.int _)⟩
  | _ => exact h0.elim
def rDivmod : DN := fun ds R => twoP ds fun a b => a.intP fun i => b.intP fun j => CDiv i j ∧ R (.tup [.int (i / j), .int (i % j)])
theorem cp_divmod : CpN K (fun xs H Q => ∃ i j, xs = [.int i, .int j] ∧ CDiv i j ∧ ∀ p, H p = none → Q (.ref p) (upd H p (.tup [.int (i / j), .int (i % j)]))) rDivmod := by
  intro M H xs ds R Q w dvs h0 o
  obtain ⟨da, db, rfl, h0n1⟩ := twoP_ex h0
  obtain ⟨i, rfl, h0n2⟩ := D.intP_ex h0n1
  obtain ⟨j, rfl, c, q⟩ := D.intP_ex h0n2
  obtain ⟨v, v', rfl, h, h'⟩ := dvs.two
  cases h.int; cases h'.int
  refine ⟨i, j, rfl, c, fun p hp => ?_⟩
  obtain ⟨e2, dr⟩ := newTup (K := K) (vs := [.int (i / j), .int (i % j)]) (ds := [.int (i / j), .int (i % j)]) w hp (.cons (.int _) (.cons (.int _) .nil))
  exact o _ _ _ _ q e2 (.inl dr)

def optP : Option D → (D → Prop) → Prop
  | some d, k => k d
  | _, _ => False
theorem optP_ex {o : Option D} {k : D → Prop} (h : optP o k) : ∃ d, o = some d ∧ k d := by
  match o, h with
  | some d, h => exact ⟨d, rfl, h⟩
def rdIx : D2 := fun x y R => x.itemsP fun xs => y.intP fun i => optP (atI xs i) R
theorem atI_rel {vs : List V} {ds : List D} {i : Int} {d : D} (h : DRs K M H vs ds) (e : atI ds i = some d) : ∃ v, atI vs i = some v ∧ DR K M H v d := by
  unfold atI at e ⊢
  rw [h.length]
  cases q : ixN ds.length i with
  | none => rw [q] at e; cases e
  | some j =>
    rw [q] at e
    exact h.get e
theorem cp_ix : Cp2 K (rIx K) rdIx := by
  intro M H x y dx dy R Q w hx hy h0 o
  obtain ⟨xs, hi, h0n1⟩ := D.itemsP_ex h0
  obtain ⟨i, rfl, h0n2⟩ := D.intP_ex h0n1
  obtain ⟨d, e, r⟩ := optP_ex h0n2
  cases hy.int
  cases dx with
  | lst es =>
    cases hi; obtain ⟨a, vs, rfl, e2, e3⟩ := DV.list (.inl hx)
    obtain ⟨v, h1, h2⟩ := atI_rel e3 e
    exact .inl ⟨a, vs, i, v, rfl, rfl, e2, h1, o.nowR w r h2⟩
  | own es =>
    cases hi; obtain ⟨a, vs, rfl, e2, e3⟩ := DV.list (.inr hx)
    obtain ⟨v, h1, h2⟩ := atI_rel e3 e
    exact .inl ⟨a, vs, i, v, rfl, rfl, e2, h1, o.nowR w r h2⟩
  | tup es =>
    cases hi; obtain ⟨a, vs, rfl, e2, e3⟩ := DV.tuple hx
    obtain ⟨v, h1, h2⟩ := atI_rel e3 e
    exact .inr (.inl ⟨a, vs, i, v, rfl, rfl, e2, h1, o.nowR w r h2⟩)
  | _ => cases hi
theorem d_ix (ha : DPE X a wa) (hb : DPE X b wb) (hs : PlainIx b) : DPE X (.Subscript a b pos) (wOp rdIx wa wb) := peC (pe_ix ix_seq ha hb hs) fun _ _ _ q => td_op cp_ix q

def rdPen0 : D2 := fun x y R => x.penP (y = .int 0 ∧ ∀ i : Int, 0 ≤ i → R (.int i))
def rdPen1 : D2 := fun x y R => x.penP (y = .int 1 ∧ R (.int 0) ∧ R (.int 1))
theorem cp_pen0 : Cp2 K (rIx K) rdPen0 := by
  intro M H x y dx dy R Q w hx hy h0 o
  obtain ⟨rfl, rfl, r⟩ := D.penP_ex h0
  cases hy.int
  obtain ⟨a, rfl, h1⟩ := hx.pen
  obtain ⟨z, f, e, hz, hf⟩ := w.pen a h1
  exact .inl ⟨a, _, 0, .int z, rfl, rfl, SqL.of e, rfl, o.nowR w (r z hz) (.int _)⟩
theorem cp_pen1 : Cp2 K (rIx K) rdPen1 := by
  intro M H x y dx dy R Q w hx hy h0 o
  obtain ⟨rfl, rfl, r0, r1⟩ := D.penP_ex h0
  cases hy.int
  obtain ⟨a, rfl, h1⟩ := hx.pen
  obtain ⟨z, f, e, hz, hf⟩ := w.pen a h1
  refine .inl ⟨a, _, 1, .int f, rfl, rfl, SqL.of e, rfl, ?_⟩
  rcases hf with rfl | rfl
  · exact o.nowR w r0 (.int _)
  · exact o.nowR w r1 (.int _)
theorem d_pen0 (ha : DPE X a wa) (hb : DPE X b wb) (hs : PlainIx b) : DPE X (.Subscript a b pos) (wOp rdPen0 wa wb) := peC (pe_ix ix_seq ha hb hs) fun _ _ _ q => td_op cp_pen0 q
theorem d_pen1 (ha : DPE X a wa) (hb : DPE X b wb) (hs : PlainIx b) : DPE X (.Subscript a b pos) (wOp rdPen1 wa wb) := peC (pe_ix ix_seq ha hb hs) fun _ _ _ q => td_op cp_pen1 q
end
end DL

set_option Elab.async false
set_option linter.all false
set_option maxRecDepth 100000
set_option maxHeartbeats 4000000
namespace DL
open PySem PySem.Spec PyProof.Rows L2
section
variable {X : Cx} {K : PySem.W.Frag} {M M1 : Mk} {H H1 : Hp} {a b c e : Expr} {wa wb wc we : DTE} {va vb vc : DTT} {pos : Pos} {rest : List Expr}

theorem op_catS : OpR X (binaryOp .Add) (fun x y H Q => ∃ l b xs zs, x = .ref l ∧ y = .ref b ∧ SqL X.K H l xs ∧ SqL X.K H b zs ∧ xs.length + zs.length ≤ sizeLine ∧ ∀ p, H p = none → Q (.ref p) (upd H p (.lst (xs ++ zs)))) := by
  intro pins s σ H x y v u Q I rx ry h
  obtain ⟨l, b, xs, zs, rfl, rfl, hl, hb, hz, q⟩ := h
  cases rx
  cases ry
  obtain ⟨its, r, pl, z1⟩ := I.list hl
  obtain ⟨its2, r2, pl2, z2⟩ := I.list hb
  have e1 := r.length
  have e2 := r2.length
  obtain ⟨⟨cls, dd, data, sl⟩, ho, hc, n, hd⟩ := id pl.isList
  obtain ⟨⟨cls2, dd2, data2, sl2⟩, ho2, hc2, n2, hd2⟩ := id pl2.isList
  simp only at hc hd hc2 hd2
  subst hc hd hc2 hd2
  have e : its.toArray ++ its2.toArray = (its ++ its2).toArray := by simp
  refine concat_meets ⟨_, ho, rfl⟩ ⟨_, ho2, rfl⟩ noFill_list_add seq_list_add PySem.F.slot_list_add PySem.F.entry_list_add (PySem.F.args_list_add_2 _ _) (list_addW l b its.toArray its2.toArray n n2 dd dd2 sl sl2 (by rw [List.size_toArray, List.size_toArray]; omega)) ⟨ho, ho2, ?_⟩
  rw [e]
  exact ⟨.ref _, _, I.lnew (t' := s.toks) (r.append r2) (by rw [List.length_append]; omega), rfl, q _ I.fresh⟩
def rdCat : D2 := fun x y R => x.lstP fun xs => y.lstP fun zs => xs.length + zs.length ≤ sizeLine ∧ R (.lst (xs ++ zs))
theorem cp_cat : Cp2 K (fun x y H Q => ∃ l b xs zs, x = .ref l ∧ y = .ref b ∧ SqL K H l xs ∧ SqL K H b zs ∧ xs.length + zs.length ≤ sizeLine ∧ ∀ p, H p = none → Q (.ref p) (upd H p (.lst (xs ++ zs)))) rdCat := by
  intro M H x y dx dy R Q w hx hy g0 o
  obtain ⟨xs, ex, g1⟩ := D.lstP_ex g0
  obtain ⟨zs, ey, hz, r⟩ := D.lstP_ex g1
  obtain ⟨l, vs, rfl, h1, d1⟩ := DV.list (show DV K M H x (.lst xs) ∨ DV K M H x (.own xs) from ex.elim (fun e => .inl (e ▸ hx)) (fun e => .inr (e ▸ hx)))
  obtain ⟨b, us, rfl, h2, d2⟩ := DV.list (show DV K M H y (.lst zs) ∨ DV K M H y (.own zs) from ey.elim (fun e => .inl (e ▸ hy)) (fun e => .inr (e ▸ hy)))
  refine ⟨l, b, vs, us, rfl, rfl, h1, h2, by rw [d1.length, d2.length]; exact hz, fun p hp => ?_⟩
  obtain ⟨e2, dr⟩ := newLst w hp (d1.append d2)
  exact o _ _ _ _ r e2 (.inl dr)
theorem d_cat {a b : Expr} {wa wb : DTE} {pos : Pos} (ha : DPE X a wa) (hb : DPE X b wb) : DPE X (.BinOp a .Add b pos) (wOp rdCat wa wb) := d_op op_catS cp_cat ha hb

def cutD (xs : List D) (lo hi : Option Int) : List D := (xs.drop (HT.sIx xs.length 0 lo)).take (HT.sIx xs.length xs.length hi - HT.sIx xs.length 0 lo)
abbrev DTO := DEnv → (Option Int → Prop) → Prop
def wPart (w : DTE) : DTO := fun ρ R => w ρ fun d => d.intP fun i => R (some i)
def TDO (K : PySem.W.Frag) (w : DTO) : TO := fun σ H Q => ∃ M ρ R, Wf M H ∧ EnvR K M H σ ρ ∧ w ρ R ∧ ∀ o M' H', R o → Ext M H M' H' → Q o H'
theorem poC {e : Option Expr} {t t' : TO} (h : PO X e t) (c : ∀ σ H Q, t' σ H Q → t σ H Q) : PO X e t' := fun p s σ H Q I q => h p s σ H Q I (c σ H Q q)
theorem do_some (h : DPE X e we) : PO X (some e) (TDO X.K (wPart we)) := poC (po_some h) fun σ H Q ⟨M, ρ, R, w, r, q, o⟩ => by
  refine ⟨M, ρ, _, w, r, q, fun v d M1 H1 q1 e1 dv => ?_⟩
  obtain ⟨i, rfl, q2⟩ := D.intP_ex q1
  exact ⟨i, dv.int, o _ M1 H1 q2 e1⟩
def wSl (r : D → Option Int → Option Int → (D → Prop) → Prop) (we : DTE) (wl wh : DTO) : DTE := fun ρ R => we ρ fun x => wl ρ fun l => wh ρ fun u => r x l u R
theorem td_sl {r : V → Option Int → Option Int → Hp → VK → Prop} {rD : D → Option Int → Option Int → (D → Prop) → Prop} {wl wh : DTO} (cp : ∀ M H x dx l u R Q, Wf M H → DV K M H x dx → rD dx l u R → Out K M H R Q → r x l u H Q)
    {σ : L2.St} {Q : VK} (h : TD K (wSl rD we wl wh) σ H Q) : tSl r (TD K we) (TDO K wl) (TDO K wh) σ H Q := by
  obtain ⟨M, ρ, R, w, er, q, o⟩ := h
  refine ⟨M, ρ, _, w, er, q, fun v d M1 H1 q1 e1 dv => ?_⟩
  refine ⟨M1, ρ, _, e1.wf, er.ext e1, q1, fun l M2 H2 q2 e2 => ?_⟩
  refine ⟨M2, ρ, _, e2.wf, er.ext (e1.trans e2), q2, fun u M3 H3 q3 e3 => ?_⟩
  exact cp M3 H3 v d l u R Q e3.wf ((dv.ext e2).ext e3) q3 (o.ext ((e1.trans e2).trans e3))
def rdSlL : D → Option Int → Option Int → (D → Prop) → Prop := fun x lo hi R => x.lstP fun xs => R (.lst (cutD xs lo hi))
theorem d_sliceL {p2} {lo hi : Option Expr} {wl wh : DTO} (he : DPE X e we) (hl : PO X lo (TDO X.K wl)) (hu : PO X hi (TDO X.K wh)) : DPE X (.Subscript e (.Slice lo hi none p2) pos) (wSl rdSlL we wl wh) :=
  peC (pe_slice sl_list he hl hu) fun _ _ _ q => td_sl (by
    intro M H x dx l u R Q w hx g0 o
    obtain ⟨xs, ex, r⟩ := D.lstP_ex g0
    obtain ⟨l', vs, rfl, h1, d1⟩ := DV.list (show DV X.K M H x (.lst xs) ∨ DV X.K M H x (.own xs) from ex.elim (fun e => .inl (e ▸ hx)) (fun e => .inr (e ▸ hx)))
    refine ⟨l', vs, rfl, h1, fun p hp => ?_⟩
    have dc : DRs X.K M H (cutV vs l u) (cutD xs l u) := by
      unfold cutV cutD
      rw [d1.length]
      exact (d1.drop _).take _
    obtain ⟨e2, dr⟩ := newLst w hp dc
    exact o _ _ _ _ r e2 (.inl dr)) q

def D.flat : D → Option V
  | .non => some .non
  | .bl b => some (.bl b)
  | .int i => some (.int i)
  | .str x => some (.str x)
  | _ => none
theorem DV.flat {v u : V} {d : D} (h : DV K M H v d) (e : d.flat = some u) : v = u ∧ flatV v = true := by
  cases d with
  | non => cases e; cases h.non; exact ⟨rfl, rfl⟩
  | bl b => cases e; cases h.bl; exact ⟨rfl, rfl⟩
  | int i => cases e; cases h.int; exact ⟨rfl, rfl⟩
  | str x => cases e; cases h.str; exact ⟨rfl, rfl⟩
  | _ => cases e
def optV : Option V → (V → Prop) → Prop
  | some d, k => k d
  | _, _ => False
theorem optV_ex {o : Option V} {k : V → Prop} (h : optV o k) : ∃ d, o = some d ∧ k d := by
  match o, h with
  | some d, h => exact ⟨d, rfl, h⟩
def optVs : Option (List V) → (List V → Prop) → Prop
  | some d, k => k d
  | _, _ => False
theorem optVs_ex {o : Option (List V)} {k : List V → Prop} (h : optVs o k) : ∃ d, o = some d ∧ k d := by
  match o, h with
  | some d, h => exact ⟨d, rfl, h⟩
def rdIn (neg : Bool) : D2 := fun x y R => optV x.flat fun u => y.itemsP fun xs => optVs (xs.mapM D.flat) fun us => R (.bl (if neg then !inV u us else inV u us))
theorem flats : ∀ {vs : List V} {ds : List D} {us : List V}, DRs K M H vs ds → ds.mapM D.flat = some us → vs = us ∧ vs.all flatV = true
  | _, [], _, .nil, e => by simp at e; subst e; exact ⟨rfl, rfl⟩
  | _, d :: ds, us, .cons h t, e => by
    rw [List.mapM_cons] at e
    cases hd : d.flat with
    | none => rw [hd] at e; cases e
    | some u =>
      rw [hd] at e
      cases ht : ds.mapM D.flat with
      | none => rw [ht] at e; cases e
      | some ws =>
        rw [ht] at e
        cases e
        obtain ⟨rfl, f⟩ := DV.flat (.inl h) hd
        obtain ⟨rfl, g⟩ := flats t ht
        exact ⟨rfl, by simp [f, g]⟩
theorem cp_in (neg : Bool) : Cp2 K (rIn K neg) (rdIn neg) := by
  intro M H x y dx dy R Q w hx hy g0 o
  obtain ⟨u, e1, g1⟩ := optV_ex g0
  obtain ⟨xs, e2, g2⟩ := D.itemsP_ex g1
  obtain ⟨us, e3, r⟩ := optVs_ex g2
  obtain ⟨rfl, f⟩ := hx.flat e1
  obtain ⟨p, vs, rfl, hs, hd⟩ := hy.seq e2
  obtain ⟨rfl, g⟩ := flats hd e3
  exact ⟨p, vs, rfl, hs, f, g, o.nowR w r (.bl _)⟩
theorem dt_in (ha : DPE X a wa) (hb : DPE X b wb) (hm : behindInMarks .In b = false := by rfl) : DPT X (.Compare a [.In] [b] pos) (wT (wOp (rdIn false) wa wb)) := dt_cmp op_in_seq (cp_in false) ha hb hm
theorem dt_notIn (ha : DPE X a wa) (hb : DPE X b wb) (hm : behindInMarks .NotIn b = false := by rfl) : DPT X (.Compare a [.NotIn] [b] pos) (wT (wOp (rdIn true) wa wb)) := dt_cmp op_notIn_seq (cp_in true) ha hb hm

mutual
def D.toP : D → Option PyData
  | .non => some .none
  | .bl b => some (.bool b)
  | .int i => some (.int i)
  | .str x => some (.str x)
  | .ty _ => none
  | .tup ds => (D.toPs ds).map .tuple
  | .lst ds => (D.toPs ds).map .list
  | .own _ => none
  | .gh _ _ _ _ => none
  | .pen => none
  | .fn _ => none
  | .dic => none
  | .exc _ _ => none
def D.toPs : List D → Option (List PyData)
  | [] => some []
  | d :: ds => (D.toP d).bind fun p => (D.toPs ds).map (p :: ·)
end
mutual
theorem DR.dp : ∀ (d : D) (v : V) (p : PyData), DR K M H v d → d.toP = some p → Dp K H v p
  | .non, _, _, h, e => by cases h; unfold D.toP at e; cases e; exact .non
  | .bl _, _, _, h, e => by cases h; unfold D.toP at e; cases e; exact .bl _
  | .int _, _, _, h, e => by cases h; unfold D.toP at e; cases e; exact .int _
  | .str _, _, _, h, e => by cases h; unfold D.toP at e; cases e; exact .str _
  | .ty _, _, _, h, e => by unfold D.toP at e; cases e
  | .tup ds, _, _, h, e => by
    cases h with | tup h1 h2 =>
      unfold D.toP at e
      cases q : D.toPs ds with
      | none => rw [q] at e; cases e
      | some ps => rw [q] at e; cases e; exact .tup h1.sq (DRs.dp ds _ ps h2 q)
  | .lst ds, _, _, h, e => by
    cases h with | lst h1 h2 =>
      unfold D.toP at e
      cases q : D.toPs ds with
      | none => rw [q] at e; cases e
      | some ps => rw [q] at e; cases e; exact .lst h1.sq (DRs.dp ds _ ps h2 q)
  | .own _, _, _, h, e => by unfold D.toP at e; cases e
  | .gh _ _ _ _, _, _, h, e => by unfold D.toP at e; cases e
  | .pen, _, _, h, e => by unfold D.toP at e; cases e
  | .fn _, _, _, h, e => by unfold D.toP at e; cases e
  | .dic, _, _, h, e => by unfold D.toP at e; cases e
  | .exc _ _, _, _, h, e => by unfold D.toP at e; cases e
theorem DRs.dp : ∀ (ds : List D) (vs : List V) (ps : List PyData), DRs K M H vs ds → D.toPs ds = some ps → DpAll K H vs ps
  | [], _, _, h, e => by cases h; unfold D.toPs at e; cases e; exact .nil
  | d :: ds, _, _, h, e => by
    cases h with | cons h1 h2 =>
      unfold D.toPs at e
      cases q : d.toP with
      | none => rw [q] at e; cases e
      | some p =>
        rw [q] at e
        cases q2 : D.toPs ds with
        | none => rw [q2] at e; cases e
        | some ps => rw [q2] at e; cases e; exact .cons (DR.dp d _ p h1 q) (DRs.dp ds _ ps h2 q2)
end
theorem DV.dp {v : V} {d : D} {p : PyData} (h : DV K M H v d) (e : d.toP = some p) : Dp K H v p := by
  rcases h with h | ⟨_, _, _, _, od, _⟩
  · exact DR.dp d v p h e
  · cases od <;> (unfold D.toP at e; cases e)
def rdEq : D2 := fun x y R => ∃ p q, x.toP = some p ∧ y.toP = some q ∧ SeqAt.shaped p = true ∧ SeqAt.shaped q = true ∧ R (.bl (PyData.eqv p q))
def rdNe : D2 := fun x y R => ∃ p q, x.toP = some p ∧ y.toP = some q ∧ SeqAt.shaped p = true ∧ SeqAt.shaped q = true ∧ R (.bl (!PyData.eqv p q))
theorem cp_eq : Cp2 K (rEqD K) rdEq := by
  rintro M H x y dx dy R Q w hx hy ⟨p, q, e1, e2, s1, s2, r⟩ o
  exact ⟨p, q, hx.dp e1, hy.dp e2, s1, s2, o.nowR w r (.bl _)⟩
theorem cp_ne : Cp2 K (rNeD K) rdNe := by
  rintro M H x y dx dy R Q w hx hy ⟨p, q, e1, e2, s1, s2, r⟩ o
  exact ⟨p, q, hx.dp e1, hy.dp e2, s1, s2, o.nowR w r (.bl _)⟩
def rdEqA : D2
  | .int i, .int j, R => R (.bl (decide (i = j)))
  | .str a, .str b, R => R (.bl (decide (a = b)))
  | .bl a, .bl b, R => R (.bl (decide (a = b)))
  | x, y, R => rdEq x y R
def rdNeA : D2
  | .int i, .int j, R => R (.bl (!decide (i = j)))
  | .str a, .str b, R => R (.bl (!decide (a = b)))
  | .bl a, .bl b, R => R (.bl (!decide (a = b)))
  | x, y, R => rdNe x y R
theorem OpR.or {f : Value → Value → Sem Value} {r r' : R2} (h : OpR X f r) (h' : OpR X f r') : OpR X f (fun x y H Q => r x y H Q ∨ r' x y H Q) := by
  intro pins s σ H x y v u Q I rx ry q
  rcases q with q | q
  · exact h pins s σ H x y v u Q I rx ry q
  · exact h' pins s σ H x y v u Q I rx ry q
theorem cp_eqA : Cp2 K (fun x y H Q => rEqD K x y H Q ∨ rEq x y H Q) rdEqA := by
  intro M H x y dx dy R Q w hx hy g0 o
  unfold rdEqA at g0
  split at g0
  · cases hx.int; cases hy.int
    exact .inr ⟨rfl, o.nowR w (by simpa using g0) (.bl _)⟩
  · cases hx.str; cases hy.str
    exact .inr ⟨rfl, o.nowR w (by simpa using g0) (.bl _)⟩
  · cases hx.bl; cases hy.bl
    exact .inr ⟨rfl, o.nowR w (by simpa using g0) (.bl _)⟩
  · exact .inl (cp_eq M H x y dx dy R Q w hx hy g0 o)
theorem cp_neA : Cp2 K (fun x y H Q => rNeD K x y H Q ∨ rNe x y H Q) rdNeA := by
  intro M H x y dx dy R Q w hx hy g0 o
  unfold rdNeA at g0
  split at g0
  · cases hx.int; cases hy.int
    exact .inr ⟨rfl, o.nowR w (by simpa using g0) (.bl _)⟩
  · cases hx.str; cases hy.str
    exact .inr ⟨rfl, o.nowR w (by simpa using g0) (.bl _)⟩
  · cases hx.bl; cases hy.bl
    exact .inr ⟨rfl, o.nowR w (by simpa using g0) (.bl _)⟩
  · exact .inl (cp_ne M H x y dx dy R Q w hx hy g0 o)
theorem d_eq (hu : X.A.units + 64 < cLine) (ha : DPE X a wa) (hb : DPE X b wb) : DPE X (.Compare a [.Eq] [b] pos) (wOp rdEqA wa wb) := d_cmp (OpR.or (op_eqD hu) op_eq) cp_eqA ha hb (nomark _)
theorem dt_eq (hu : X.A.units + 64 < cLine) (ha : DPE X a wa) (hb : DPE X b wb) : DPT X (.Compare a [.Eq] [b] pos) (wT (wOp rdEqA wa wb)) := dt_cmp (OpR.or (op_eqD hu) op_eq) cp_eqA ha hb (nomark _)
theorem dt_ne (hu : X.A.units + 64 < cLine) (ha : DPE X a wa) (hb : DPE X b wb) : DPT X (.Compare a [.NotEq] [b] pos) (wT (wOp rdNeA wa wb)) := dt_cmp (OpR.or (op_neD hu) op_ne) cp_neA ha hb (nomark _)


variable {st : Stmt} {sts : List Stmt} {t u : DTS}
def wNext : DTS := fun DD ρ => DD.nx ρ
def wSeq (t u : DTS) : DTS := fun DD ρ => t { DD with nx := u DD } ρ
theorem dss_nil : DPSs X [] wNext := pssC pss_nil fun E σ H ⟨M, ρ, DD, w, r, q, o⟩ => o.nx σ ρ M H q (.refl w) r
theorem dss_cons (h1 : DPS X st t) (h2 : DPSs X sts u) : DPSs X (st :: sts) (wSeq t u) := pssC (pss_cons h1 h2) fun E σ H ⟨M, ρ, DD, w, r, q, o⟩ => by
  refine ⟨M, ρ, { DD with nx := u DD }, w, r, q, ⟨fun σ1 ρ1 M1 H1 q1 e1 r1 => ?_, o.rt, o.bk, o.ct, o.ro⟩⟩
  exact ⟨M1, ρ1, DD, e1.wf, r1, q1, o.extS e1⟩
theorem dss_one (h1 : DPS X st t) : DPSs X [st] t := pss_one h1
def wDrop (w : DTE) : DTS := fun DD ρ => w ρ fun _ => DD.nx ρ
theorem ds_expr (he : DPE X e we) (hs : swapsWith e none pos.line X.env = pure false := by rfl) : DPS X (.Expr e pos) (wDrop we) := psC (ps_expr he hs) fun E σ H ⟨M, ρ, DD, w, r, q, o⟩ =>
  ⟨M, ρ, _, w, r, q, fun v d M1 H1 q1 e1 dv => o.nx σ ρ M1 H1 q1 e1.toS (r.ext e1)⟩

def frz (M : Mk) : Mk := fun a => if M a = 2 then 0 else M a
theorem frz_ext {M' : Mk} {H' : Hp} (e : ExtS M H M' H') : ExtS M H (frz M') H' ∧ Keeps M' H' (frz M') H' := by
  have n1 : ∀ a, frz M' a ≠ 0 → M' a ≠ 0 := fun a h z => h (by unfold frz; rw [z]; rfl)
  have e1 : ∀ a, frz M' a = 1 ↔ M' a = 1 := fun a => by
    unfold frz
    by_cases z : M' a = 2
    · rw [if_pos z, z]; constructor <;> intro q <;> cases q
    · rw [if_neg z]
  have e2 : ∀ a, M' a ≠ 2 → frz M' a = M' a := fun a z => by unfold frz; rw [if_neg z]
  have zz : ∀ a o, H' a = some o → M' a = 0 → H' a = some o ∧ frz M' a = 0 := fun a o h z => ⟨h, by unfold frz; rw [z]; rfl⟩
  refine ⟨⟨⟨fun a ha => e.wf.here a (n1 a ha), fun a ha => e.wf.pen a ((e1 a).mp ha), e.wf.tab.step (fun a ha => e2 a fun z => by unfold frz at ha; rw [if_pos z] at ha; exact absurd ha (by decide)) (fun _ _ _ h => h) fun c o h z => ⟨h, by rw [e2 c (by rw [z]; decide)]; exact z⟩⟩, fun a o h x y => ?_, fun a h => ?_⟩, zz, fun a h => (e1 a).mpr h⟩
  case refine_2 => exact (e2 a (by rw [e.pen a h]; exact fun z => h (by rw [z]; decide))).trans (e.pen a h)
  obtain ⟨p, q⟩ := e.keep a o h x y
  refine ⟨p, ?_⟩
  unfold frz
  rw [if_neg (by rw [q]; exact y)]
  exact q
theorem DV.frz {v : V} {d : D} (h : DV K M H v d) : DR K (frz M) H v d.unown := by
  have kp : Keeps M H (DL.frz M) H := by
    refine ⟨fun a o h z => ⟨h, by unfold DL.frz; rw [z]; rfl⟩, fun a h => by unfold DL.frz; rw [h]; rfl⟩
  rcases h with h | ⟨a, vs, ds, rfl, od, h2, ha, hd⟩
  · have e : d.unown = d := by cases d <;> first | rfl | (cases h)
    rw [e]
    exact DR.keeps kp d v h
  · cases od with
    | own ds => exact .lst (.inl ⟨by unfold DL.frz; rw [h2]; rfl, .inl ha⟩) (DRs.keeps kp _ vs hd)
    | gh b k ns ds => cases ha.1; exact .fn _
def wRet (w : DTE) : DTS := fun DD ρ => w ρ fun d => DD.rt d.unown
theorem ds_ret (he : DPE X e we) : DPS X (.Return (some e) pos) (wRet we) := psC (ps_ret he) fun E σ H ⟨M, ρ, DD, w, r, q, o⟩ => by
  refine ⟨M, ρ, _, w, r, q, fun v d M1 H1 q1 e1 dv => ?_⟩
  exact o.rt v d.unown (frz M1) H1 q1 (frz_ext e1.toS).1 dv.frz
def wIfS (c : DTT) (t u : DTS) : DTS := fun DD ρ => c ρ fun k => if k = true then t DD ρ else u DD ρ
theorem ds_if {sa sb : List Stmt} (hc : DPT X c vc) (ha : DPSs X sa t) (hb : DPSs X sb u) : DPS X (.If c sa sb pos) (wIfS vc t u) := psC (ps_if hc ha hb) fun E σ H ⟨M, ρ, DD, w, r, q, o⟩ => by
  refine ⟨M, ρ, _, w, r, q, fun k M1 H1 q1 e1 => ?_⟩
  cases k with
  | true => exact ⟨M1, ρ, DD, e1.wf, r.ext e1, q1, o.extS e1.toS⟩
  | false => exact ⟨M1, ρ, DD, e1.wf, r.ext e1, q1, o.extS e1.toS⟩
def wNever : DTS := fun _ _ => False
theorem ds_never : DPS X st wNever := psC ps_never fun E σ H ⟨M, ρ, DD, w, r, q, o⟩ => q.elim
abbrev DTG := D → DEnv → (DEnv → Prop) → Prop
def TDG (K : PySem.W.Frag) (g : DTG) : TG := fun v σ H Q => ∃ M ρ d R, Wf M H ∧ EnvR K M H σ ρ ∧ DR K M H v d ∧ g d ρ R ∧ ∀ σ' ρ' M' H', R ρ' → Ext M H M' H' → EnvR K M' H' σ' ρ' → Q σ' H'
abbrev DPG (X : Cx) (tg : Expr) (g : DTG) : Prop := PG X tg (TDG X.K g)
theorem pgC {tg : Expr} {t t' : TG} (h : PG X tg t) (c : ∀ v σ H Q, t' v σ H Q → t v σ H Q) : PG X tg t' := fun p s σ H v u Q I r q => h p s σ H v u Q I r (c v σ H Q q)
def wgName (i : Nat) : DTG := fun d ρ R => R (ρ.set i (some d))
theorem dg_name {i : Nat} {x : Str} (hN : X.N.Nodup) (hi : X.N[i]? = some x) (hx : Loc X.env.scope x) (hf : X.fn x = true ∨ X.env.scope.names.lookup x = some .local := by first | exact .inl rfl | exact .inr rfl | assumption) : DPG X (.Name x pos) (wgName i) :=
  pgC (pg_name hN hi hx hf) fun v σ H Q ⟨M, ρ, d, R, w, r, h, q, o⟩ => o _ _ M H q (.refl w) (r.set h)
abbrev DTGs := List D → DEnv → (DEnv → Prop) → Prop
def TDGs (K : PySem.W.Frag) (g : DTGs) : TGs := fun vs σ H Q => ∃ M ρ ds R, Wf M H ∧ EnvR K M H σ ρ ∧ DRs K M H vs ds ∧ g ds ρ R ∧ ∀ σ' ρ' M' H', R ρ' → Ext M H M' H' → EnvR K M' H' σ' ρ' → Q σ' H'
abbrev DPGs (X : Cx) (tg : List Expr) (g : DTGs) : Prop := PGs X tg (TDGs X.K g)
theorem pgsC {tg : List Expr} {t t' : TGs} (h : PGs X tg t) (c : ∀ v σ H Q, t' v σ H Q → t v σ H Q) : PGs X tg t' := fun p s σ H v u Q I r q => h p s σ H v u Q I r (c v σ H Q q)
def wgNil : DTGs
  | [], ρ, R => R ρ
  | _, _, _ => False
def wgCons (g : DTG) (h : DTGs) : DTGs
  | d :: r, ρ, R => g d ρ fun ρ' => h r ρ' R
  | _, _, _ => False
theorem dgs_nil : DPGs X [] wgNil := pgsC pgs_nil fun v σ H Q ⟨M, ρ, ds, R, w, r, h, q, o⟩ => by
  cases ds with | cons _ _ => exact q.elim | nil =>
  cases h
  exact ⟨rfl, o σ ρ M H q (.refl w) r⟩
theorem dgs_cons {es : List Expr} {g : DTG} {h : DTGs} (h1 : DPG X e g) (h2 : DPGs X es h)
    (hs : (assignEach (e :: es) X.env).map (·.2) = assign e X.env :: (assignEach es X.env).map (·.2) := by rfl) : DPGs X (e :: es) (wgCons g h) := pgsC (pgs_cons h1 h2 hs) fun v σ H Q ⟨M, ρ, ds, R, w, r, hd, q, o⟩ => by
  cases ds with | nil => exact q.elim | cons d dr =>
  cases hd with | cons a t =>
    refine ⟨_, _, rfl, M, ρ, d, _, w, r, a, q, fun σ1 ρ1 M1 H1 q1 e1 r1 => ?_⟩
    exact ⟨M1, ρ1, dr, R, e1.wf, r1, t.ext e1, q1, fun σ2 ρ2 M2 H2 q2 e2 r2 => o σ2 ρ2 M2 H2 q2 (e1.trans e2) r2⟩
def wgTup (n : Nat) (g : DTGs) : DTG := fun d ρ R => d.tupP fun ds => ds.length = n ∧ g ds ρ R
theorem dg_tup {es : List Expr} {k : Nat} {g : DTGs} {n : Nat} (hc : X.calm = true) (h : DPGs X es g)
    (hn : (assignEach es X.env).length = n := by rfl) (hst : (assignEach es X.env).findIdx? (·.1) = none := by rfl) : DPG X (.Tuple es k pos) (wgTup n g) := pgC (pg_tup hc h hn hst) fun v σ H Q ⟨M, ρ, d, R, w, r, hd, q0, o⟩ => by
  obtain ⟨ds, rfl, hl, q⟩ := D.tupP_ex q0
  obtain ⟨a, vs, rfl, h1, h2⟩ := DV.tuple (.inl hd)
  exact ⟨a, vs, rfl, h1, by rw [h2.length]; exact hl, M, ρ, ds, R, w, r, h2, q, o⟩
def wAsg (w : DTE) (g : DTG) : DTS := fun DD ρ => w ρ fun d => d.nown = true ∧ g d ρ DD.nx
theorem ds_asg {tg : Expr} {g : DTG} (he : DPE X e we) (hg : DPG X tg g) (hs : swapsWithSole [tg] e pos.line X.env = pure false := by rfl) (hw : swappedStores [tg] e X.env = pure none := by rfl)
    (h1 : (assignEach [tg] X.env).map (·.2) = [assign tg X.env] := by rfl) : DPS X (.Assign [tg] e pos) (wAsg we g) := psC (ps_asg he hg hs hw h1) fun E σ H ⟨M, ρ, DD, w, r, q, o⟩ => by
  refine ⟨M, ρ, _, w, r, q, fun v d M1 H1 q1 e1 dv => ?_⟩
  obtain ⟨n, q1⟩ := q1
  exact ⟨M1, ρ, d, _, e1.wf, r.ext e1, dv.dr n, q1, fun σ2 ρ2 M2 H2 q2 e2 r2 => o.nx σ2 ρ2 M2 H2 q2 (e1.trans e2).toS r2⟩
theorem ds_set {i : Nat} {x : Str} {pos' : Pos} (hN : X.N.Nodup) (hi : X.N[i]? = some x) (hx : Loc X.env.scope x) (he : DPE X e we) (hs : swapsWith e (some (.Name x pos')) pos.line X.env = pure false := by rfl) (hf : X.fn x = true ∨ X.env.scope.names.lookup x = some .local := by first | exact .inl rfl | exact .inr rfl | assumption) :
    DPS X (.Assign [.Name x pos'] e pos) (wAsg we (wgName i)) := psC (ps_set hN hi hx he hs hf) fun E σ H ⟨M, ρ, DD, w, r, q, o⟩ => by
  refine ⟨M, ρ, _, w, r, q, fun v d M1 H1 q1 e1 dv => ?_⟩
  obtain ⟨n, q1⟩ := q1
  exact o.nx _ _ M1 H1 q1 e1.toS ((r.ext e1).set (dv.dr n))

def wPenSet (we wo wi : DTE) : DTS := fun DD ρ => we ρ fun d => wo ρ fun p => wi ρ fun i => d.intP fun x => 0 ≤ x ∧ p.penP (i = .int 0 ∧ DD.nx ρ)
theorem ds_penSet {po} {wo wi : DTE} (he : DPE X e we) (ho : DPE X a wo) (hi : DPE X b wi)
    (hs : swapsWithSole [.Subscript a b po] e pos.line X.env = pure false := by rfl) (hw : swappedStores [.Subscript a b po] e X.env = pure none := by rfl)
    (h1 : (assignEach [.Subscript a b po] X.env).map (·.2) = [assign (.Subscript a b po) X.env] := by rfl)
    (ha : ∀ v, assign (.Subscript a b po) X.env v = (do
      let ov ← holding [v] (eval a X.env)
      let iv ← holding [v, ov] (eval b X.env)
      standAt po
      holding [v, ov, iv] (setItem ov iv v)
      release [v, ov, iv] []) := by intro _; rfl) : DPS X (.Assign [.Subscript a b po] e pos) (wPenSet we wo wi) := psC (ps_asg he (pg_sub ho hi set_list ha) hs hw h1) fun E σ H ⟨M, ρ, DD, w, r, q, o⟩ => by
  refine ⟨M, ρ, _, w, r, q, fun v d M1 H1 q1 e1 dv => ?_⟩
  refine ⟨M1, ρ, _, e1.wf, r.ext e1, q1, fun v2 d2 M2 H2 q2 e2 dv2 => ?_⟩
  refine ⟨M2, ρ, _, e2.wf, r.ext (e1.trans e2), q2, fun v3 d3 M3 H3 q3 e3 dv3 => ?_⟩
  obtain ⟨x, rfl, hx, q4⟩ := D.intP_ex q3
  obtain ⟨rfl, rfl, q5⟩ := D.penP_ex q4
  cases dv3.int
  cases ((dv.ext e2).ext e3).int
  obtain ⟨p, rfl, h1⟩ := (dv2.ext e3).pen
  obtain ⟨z, f, e, hz, hf⟩ := e3.wf.pen p h1
  refine ⟨p, _, 0, 0, rfl, rfl, e, rfl, ?_⟩
  have e4 := Ext.penSet e3.wf h1 hx hf
  have e14 := ((e1.trans e2).trans e3).trans e4
  exact o.nx σ ρ M3 _ q5 e14.toS (r.ext e14)
end
end DL

set_option Elab.async false
set_option linter.all false
set_option maxRecDepth 100000
set_option maxHeartbeats 4000000
namespace DL
open PySem PySem.Spec PyProof.Rows L2
section
variable {X : Cx} {K : PySem.W.Frag} {M M1 : Mk} {H H1 : Hp} {a b c e tg : Expr} {wa wb wc we : DTE} {va vb vc : DTT} {pos : Pos} {rest : List Expr}

theorem ExtS.transE {M M1 M2 : Mk} {H H1 H2 : Hp} (x : ExtS M H M1 H1) (y : Ext M1 H1 M2 H2) : ExtS M H M2 H2 := x.trans y.toS
def Walk (K : PySem.W.Frag) (J : It) (M : Mk) (H : Hp) (ds : List D) : Prop := ∀ M' H', ExtS M H M' H' →
  (∀ i d, ds[i]? = some d → J.go i H' ∧ ∀ x H'', J.yld i H' x H'' → ∃ M'', Ext M' H' M'' H'' ∧ DR K M'' H'' x d) ∧ J.stop ds.length H'
abbrev DTI := DEnv → (List D → Prop) → Prop
def TDI (K : PySem.W.Frag) (w : DTI) : TI := fun σ H R => ∃ M ρ S, Wf M H ∧ EnvR K M H σ ρ ∧ w ρ S ∧ ∀ ds J M' H', S ds → Ext M H M' H' → Walk K J M' H' ds → R J H'
abbrev DPI (X : Cx) (tg e : Expr) (w : DTI) : Prop := PI X tg e (TDI X.K w)
theorem piC {l : Expr} {t t' : TI} (h : PI X tg l t) (c : ∀ σ H Q, t' σ H Q → t σ H Q) : PI X tg l t' := fun p s σ H Q I q => h p s σ H Q I (c σ H Q q)
def iSeq (K : PySem.W.Frag) (tl : TE) : TI := fun σ H R => tl σ H fun x H1 => ∃ a, x = .ref a ∧ (((∃ xs, SqL K H1 a xs) ∧ R (Itl K a) H1) ∨ ((∃ xs, SqT K H1 a xs) ∧ R (Itt K a) H1))
theorem pi_seq {l : Expr} {tl : TE} (hl : PE X l tl) : PI X tg l (iSeq X.K tl) := by
  intro pins s σ H R I h
  refine thn (hl pins s σ H _ I h) fun v s1 ⟨x, H1, I1, r1, q1⟩ => ?_
  obtain ⟨a, e, q1⟩ := q1
  subst e
  cases r1
  rcases q1 with ⟨⟨xs, hq⟩, q⟩ | ⟨⟨xs, hq⟩, q⟩
  · obtain ⟨its, rv, p, hz⟩ := I1.list hq
    refine wpAny_pyIter_list p.isList ?_
    refine ⟨s1.heap.objs.size, [s1.heap.objs.size], _, _, H1, rfl, I1.kept (t' := s1.toks) fun b o e => Heap.get?_push_of_some _ e, turn_list a _, ⟨_, Heap.get?_push_size _ rfl, rfl, rfl⟩, fun b hb => ?_, q⟩
    have e : b = s1.heap.objs.size := by simpa using hb
    subst e
    exact I1.fpOk (Nat.le_refl _) (I1.hok.fresh (Nat.le_refl _))
  · obtain ⟨its, rv, p, hz⟩ := I1.tuple hq
    refine wpAny_pyIter_tuple (show s1.heap.IsTuple a its.toArray from p) ?_
    refine ⟨s1.heap.objs.size, [s1.heap.objs.size], _, _, H1, rfl, I1.kept (t' := s1.toks) fun b o e => Heap.get?_push_of_some _ e, turn_tuple a _, ⟨_, Heap.get?_push_size _ rfl, rfl, rfl⟩, fun b hb => ?_, q⟩
    have e : b = s1.heap.objs.size := by simpa using hb
    subst e
    exact I1.fpOk (Nat.le_refl _) (I1.hok.fresh (Nat.le_refl _))
theorem walk_list {p : Addr} {vs : List V} {ds : List D} (hl : LsR K M H p vs) (hd : DRs K M H vs ds) : Walk K (Itl K p) M H ds := by
  intro M' H' e
  have hl' := (hl.keeps e.keeps).sq
  have hd' := DRs.keeps e.keeps ds vs hd
  refine ⟨fun i d hi => ?_, ⟨vs, hl', Nat.le_of_eq hd.length⟩⟩
  obtain ⟨v, hv, dr⟩ := hd'.get hi
  refine ⟨⟨vs, v, hl', hv⟩, fun x H'' ⟨e1, y⟩ => ?_⟩
  subst e1
  have := y vs hl'
  rw [hv] at this
  cases this
  exact ⟨M', .refl e.wf, dr⟩
theorem walk_tup {p : Addr} {vs : List V} {ds : List D} (hl : TpR K M H p vs) (hd : DRs K M H vs ds) : Walk K (Itt K p) M H ds := by
  intro M' H' e
  have hl' := (hl.keeps e.keeps).sq
  have hd' := DRs.keeps e.keeps ds vs hd
  refine ⟨fun i d hi => ?_, ⟨vs, hl', Nat.le_of_eq hd.length⟩⟩
  obtain ⟨v, hv, dr⟩ := hd'.get hi
  refine ⟨⟨vs, v, hl', hv⟩, fun x H'' ⟨e1, y⟩ => ?_⟩
  subst e1
  have := y vs hl'
  rw [hv] at this
  cases this
  exact ⟨M', .refl e.wf, dr⟩
def wSeqI (w : DTE) : DTI := fun ρ S => w ρ fun d => d.seqP S
theorem di_seq (h : DPE X e we) : DPI X tg e (wSeqI we) := piC (pi_seq h) fun σ H R ⟨M, ρ, S, w, r, q, o⟩ => by
  refine ⟨M, ρ, _, w, r, q, fun v d M1 H1 q1 e1 dv => ?_⟩
  obtain ⟨ds, hd | hd, q1⟩ := D.seqP_ex q1
  · subst hd
    have dr := dv.dr rfl
    cases dr with | lst h1 h2 => exact ⟨_, rfl, .inl ⟨⟨_, h1.sq⟩, o ds _ M1 H1 q1 e1 (walk_list h1 h2)⟩⟩
  · subst hd
    have dr := dv.dr rfl
    cases dr with | tup h1 h2 => exact ⟨_, rfl, .inr ⟨⟨_, h1.sq⟩, o ds _ M1 H1 q1 e1 (walk_tup h1 h2)⟩⟩
def rngD (lo : Int) (n : Nat) : List D := (List.range n).map fun (i : Nat) => D.int (lo + i)
theorem walk_range {lo : Int} {n : Nat} : Walk K (Itr lo n) M H (rngD lo n) := by
  intro M' H' e
  refine ⟨fun i d hi => ?_, by show n ≤ (rngD lo n).length; simp [rngD]⟩
  unfold rngD at hi
  rw [List.getElem?_map] at hi
  cases q : (List.range n)[i]? with
  | none => rw [q] at hi; cases hi
  | some k =>
    rw [q] at hi
    cases hi
    obtain ⟨h1, h2⟩ := List.getElem?_eq_some_iff.mp q
    rw [List.getElem_range] at h2
    subst h2
    refine ⟨(by have h1 : i < n := by simpa using h1
                exact h1), fun x H'' ⟨e1, y⟩ => ?_⟩
    subst e1
    subst y
    exact ⟨M', .refl e.wf, .int _⟩
def wRng1 (ta : DTA) : DTI := fun ρ S => ta ρ fun ds => oneP ds fun a => a.intP fun j => (-(2 ^ 62) ≤ j ∧ j < 2 ^ 62) ∧ S (rngD 0 j.toNat)
def wRng2 (ta : DTA) : DTI := fun ρ S => ta ρ fun ds => twoP ds fun a b => a.intP fun i => b.intP fun j => (-(2 ^ 62) ≤ i ∧ i < 2 ^ 62 ∧ -(2 ^ 62) ≤ j ∧ j < 2 ^ 62) ∧ S (rngD i (j - i).toNat)
theorem di_range1 {ta : DTA} {p : Pos} (hg : Gl X "range") (hm : X.mg "range" = none) (ha : DPA X [a] ta) (hs : starEach [a] X.env = [(false, eval a X.env)] := by rfl) : DPI X tg (.Call (.Name "range" p) [a] [] pos) (wRng1 ta) := piC (pi_range1 hg hm ha hs) fun σ H R ⟨M, ρ, S, w, r, q, o⟩ => by
  refine ⟨M, ρ, _, w, r, q, fun vs ds M1 H1 q1 e1 dvs => ?_⟩
  obtain ⟨da, rfl, q0⟩ := oneP_ex q1
  obtain ⟨j, rfl, ⟨q1, q2⟩, q3⟩ := D.intP_ex q0
  obtain ⟨v, rfl, h⟩ := dvs.one
  cases h.int
  exact ⟨j, rfl, q1, q2, o _ _ M1 H1 q3 e1 walk_range⟩
theorem di_range2 {ta : DTA} {p : Pos} (hg : Gl X "range") (hm : X.mg "range" = none) (ha : DPA X [a, b] ta) (hs : starEach [a, b] X.env = [(false, eval a X.env), (false, eval b X.env)] := by rfl) (hs2 : starEach [b] X.env = [(false, eval b X.env)] := by rfl) :
    DPI X tg (.Call (.Name "range" p) [a, b] [] pos) (wRng2 ta) := piC (pi_range2 hg hm ha hs hs2) fun σ H R ⟨M, ρ, S, w, r, q, o⟩ => by
  refine ⟨M, ρ, _, w, r, q, fun vs ds M1 H1 q1 e1 dvs => ?_⟩
  obtain ⟨da, db, rfl, q0⟩ := twoP_ex q1
  obtain ⟨i, rfl, qa⟩ := D.intP_ex q0
  obtain ⟨j, rfl, q1, q3⟩ := D.intP_ex qa
  obtain ⟨v, v', rfl, h, h'⟩ := dvs.two
  cases h.int; cases h'.int
  exact ⟨i, j, rfl, q1, o _ _ M1 H1 q3 e1 walk_range⟩


def forI (g : DTG) (tb : DTS) (DD : DEnds) (ds : List D) (ρ : DEnv) : Prop := ∃ Iv : List D → DEnv → Prop, Iv ds ρ ∧ (∀ ρ, Iv [] ρ → DD.nx ρ) ∧ ∀ d ds ρ, Iv (d :: ds) ρ → g d ρ fun ρ' => tb { DD with nx := Iv ds, ct := Iv ds, bk := DD.nx } ρ'
def wFor (wi : DTI) (g : DTG) (tb : DTS) : DTS := fun DD ρ => wi ρ fun ds => forI g tb DD ds ρ
theorem drop_get {ds : List D} {i : Nat} (h : i < ds.length) : ∃ d, ds[i]? = some d ∧ ds.drop i = d :: ds.drop (i + 1) := by
  refine ⟨ds[i], by simp [h], ?_⟩
  rw [List.drop_eq_getElem_cons h]
theorem ds_for {iter : Expr} {body : List Stmt} {wi : DTI} {g : DTG} {tb : DTS} (hp : PassesOwn (model X.prog X.w) X.A X.env X.xe) (hc : X.calm = true) (hi : DPI X tg iter wi) (hg : DPG X tg g) (hb : DPSs X body tb)
    (hs : ∀ x, foldedSetIterable iter X.env x = pure x := by intro _; rfl) : DPS X (.For tg iter body [] pos) (wFor wi g tb) := psC (ps_for hp hc hi hg hb hs) fun E σ H ⟨M, ρ, DD, w, r, q, o⟩ => by
  refine ⟨M, ρ, _, w, r, q, fun ds J M1 H1 q1 e1 wk => ?_⟩
  obtain ⟨Iv, i0, iN, iS⟩ := q1
  refine ⟨fun i m σ' H' => m = ds.length - i ∧ i ≤ ds.length ∧ ∃ M' ρ', ExtS M1 H1 M' H' ∧ EnvR X.K M' H' σ' ρ' ∧ Iv (ds.drop i) ρ', ⟨_, rfl, Nat.zero_le _, M1, ρ, .refl e1.wf, r.ext e1, i0⟩, ?_⟩
  rintro i m σ' H' ⟨rfl, hi, M', ρ', e', r', f⟩
  obtain ⟨wk1, wk2⟩ := wk M' H' e'
  by_cases hlt : i < ds.length
  · obtain ⟨d, hd, hdr⟩ := drop_get hlt
    obtain ⟨go, yl⟩ := wk1 i d hd
    refine .inr ⟨go, fun σ2 H2 => ∃ M2 ρ2, ExtS M1 H1 M2 H2 ∧ EnvR X.K M2 H2 σ2 ρ2 ∧ Iv (ds.drop (i + 1)) ρ2, fun σ2 H2 ⟨M2, ρ2, x⟩ => ⟨ds.length - (i + 1), by omega, rfl, hlt, M2, ρ2, x⟩, fun x H2 y => ?_⟩
    obtain ⟨M2, e2, dr⟩ := yl x H2 y
    rw [hdr] at f
    refine ⟨M2, ρ', d, _, e2.wf, r'.ext e2, dr, iS _ _ _ f, fun σ3 ρ3 M3 H3 q3 e3 r3 => ?_⟩
    have s3 : ExtS M1 H1 M3 H3 := (e'.transE e2).transE e3
    have oo := o.extS (e1.toS.trans s3)
    refine ⟨M3, ρ3, _, e3.wf, r3, q3, ⟨fun σ4 ρ4 M4 H4 q4 e4 r4 => ⟨M4, ρ4, s3.trans e4, r4, q4⟩, oo.rt, oo.nx, fun σ4 ρ4 M4 H4 q4 e4 r4 => ⟨M4, ρ4, s3.trans e4, r4, q4⟩, oo.ro⟩⟩
  · have e2 : i = ds.length := by omega
    subst e2
    rw [List.drop_length] at f
    exact .inl ⟨wk2, o.nx σ' ρ' M' H' (iN _ f) (e1.toS.trans e') r'⟩
def wipeD (ρ : DEnv) : List Nat → DEnv
  | [] => ρ
  | v :: vs => (wipeD ρ vs).set v none
theorem wipeD_length (ρ : DEnv) : ∀ vs : List Nat, (wipeD ρ vs).length = ρ.length
  | [] => rfl
  | v :: vs => by unfold wipeD; rw [List.length_set, wipeD_length ρ vs]
theorem wipeD_some {ρ : DEnv} {i : Nat} {d : D} : ∀ {vs : List Nat}, (wipeD ρ vs)[i]? = some (some d) → ρ[i]? = some (some d) ∧ i ∉ vs
  | [], h => ⟨h, by simp⟩
  | v :: vs, h => by
    unfold wipeD at h
    by_cases hi : v = i
    · subst hi
      by_cases hv : v < (wipeD ρ vs).length
      · rw [List.getElem?_set_self hv] at h; cases h
      · rw [List.getElem?_eq_none (by simpa using hv)] at h; cases h
    · rw [List.getElem?_set_ne hi] at h
      obtain ⟨h1, h2⟩ := wipeD_some h
      exact ⟨h1, by simp only [List.mem_cons, not_or]; exact ⟨fun e => hi e.symm, h2⟩⟩
theorem EnvR.wipe {σ : L2.St} {ρ : DEnv} (r : EnvR K M H σ ρ) (vs : List Nat) : EnvR K M H (L2.wipe σ vs) (wipeD ρ vs) :=
  r.sub (wipe_length σ vs) (wipeD_length ρ vs) fun i d h => by
    obtain ⟨h1, h2⟩ := wipeD_some h
    exact ⟨h1, fun v e => by rw [wipe_out h2]; exact e⟩
theorem wipe_get (σ : L2.St) (vs : List Nat) (i : Nat) : (L2.wipe σ vs)[i]? = if i ∈ vs then (if i < σ.length then some none else none) else σ[i]? := by
  induction vs with
  | nil => simp [L2.wipe]
  | cons v vs ih =>
    unfold L2.wipe
    by_cases e : v = i
    · subst e
      rw [List.getElem?_set_self', if_pos List.mem_cons_self]
      by_cases hl : v < σ.length
      · rw [if_pos hl, List.getElem?_eq_getElem (by rw [wipe_length]; exact hl)]; rfl
      · rw [if_neg hl, List.getElem?_eq_none (by rw [wipe_length]; omega)]; rfl
    · rw [List.getElem?_set_ne e, ih]
      have : i ∈ v :: vs ↔ i ∈ vs := by simp [Ne.symm e]
      simp only [this]
theorem wipe_set (σ : L2.St) {vs : List Nat} {i : Nat} (h : i ∈ vs) (v : Option V) : L2.wipe ((L2.wipe σ vs).set i v) vs = L2.wipe σ vs := by
  apply List.ext_getElem?
  intro j
  rw [wipe_get, wipe_get, List.length_set, wipe_length]
  by_cases hj : j ∈ vs
  · rw [if_pos hj, if_pos hj]
  · rw [if_neg hj, if_neg hj]
    have : i ≠ j := fun e => hj (e ▸ h)
    rw [List.getElem?_set_ne this, wipe_get, if_neg hj]

theorem Ext.fill {D : Addr} (x : Ext M H M1 H1) (hD : H D = none) (h2 : M1 D = 2) (o : HO) : Ext M H M1 (upd H1 D o) := by
  have ne1 : ∀ a, M1 a = 1 → a ≠ D := fun a h e => by subst e; rw [h2] at h; cases h
  refine ⟨⟨fun a ha => ?_, fun a ha => ?_, x.wf.tab.step (fun _ _ => rfl) (fun a o m h => by rw [upd_ne (fun e => by subst e; rw [h2] at m; exact absurd m (by decide))]; exact h) fun c o h z => ⟨by rw [upd_ne (fun e => by subst e; rw [h2] at z; cases z)]; exact h, z⟩⟩, fun a u h n => ?_, x.pen⟩
  · by_cases e : a = D
    · subst e; exact ⟨o, upd_same⟩
    · obtain ⟨u, q⟩ := x.wf.here a ha
      exact ⟨u, by rw [upd_ne e]; exact q⟩
  · obtain ⟨z, f, q, r⟩ := x.wf.pen a ha
    exact ⟨z, f, by rw [upd_ne (ne1 a ha)]; exact q, r⟩
  · obtain ⟨p, q⟩ := x.keep a u h n
    have : a ≠ D := fun e => by subst e; rw [hD] at h; cases h
    exact ⟨by rw [upd_ne this]; exact p, q⟩
theorem keeps_fill {D : Addr} (h2 : M D = 2) (o : HO) : Keeps M H M (upd H D o) := ⟨fun a u h h0 => ⟨by
  have : a ≠ D := fun e => by subst e; rw [h2] at h0; cases h0
  rw [upd_ne this]; exact h, h0⟩, fun _ h => h⟩
theorem keeps_unown {D : Addr} (h2 : M D = 2) : Keeps M H (setM M D 0) H := ⟨fun a u h h0 => ⟨h, by unfold setM; split <;> simp_all⟩, fun a h => by
  have : a ≠ D := fun e => by subst e; rw [h2] at h; cases h
  rw [setM_ne this]; exact h⟩
theorem Ext.unown {D : Addr} (x : Ext M H M1 H1) (hD : H D = none) (h2 : M1 D = 2) : Ext M H (setM M1 D 0) H1 := by
  refine ⟨⟨fun a ha => ?_, fun a ha => ?_, x.wf.tab.step (fun a ha => setM_ne fun e => by subst e; rw [setM_same] at ha; exact absurd ha (by decide)) (fun _ _ _ h => h) fun c o h z => ⟨h, by rw [setM_ne (fun e => by subst e; rw [h2] at z; cases z)]; exact z⟩⟩, fun a u h n => ?_, fun a h => ?_⟩
  · by_cases e : a = D
    · subst e; rw [setM_same] at ha; exact absurd rfl ha
    · rw [setM_ne e] at ha; exact x.wf.here a ha
  · by_cases e : a = D
    · subst e; rw [setM_same] at ha; cases ha
    · rw [setM_ne e] at ha; exact x.wf.pen a ha
  · have : a ≠ D := fun e => by subst e; rw [hD] at h; cases h
    rw [setM_ne this]; exact x.keep a u h n
  · have q := x.pen a h
    have : a ≠ D := fun e => by subst e; rw [h2] at q; rw [← q] at h; exact h (by decide)
    rw [setM_ne this]; exact q
def compI (i : Nat) (tt : DTT) (te : DTE) (ρw : DEnv) (fin : List D → Prop) (ds acc : List D) : Prop := ∃ Iv : List D → List D → Prop, Iv ds acc ∧ (∀ acc, Iv [] acc → fin acc) ∧
  ∀ d ds acc, Iv (d :: ds) acc → tt (ρw.set i (some d)) fun k => if k = true then te (ρw.set i (some d)) fun y => y.nown = true ∧ acc.length < sizeLine ∧ Iv ds (acc ++ [y]) else Iv ds acc
def wLc (wi : DTI) (i : Nat) (tt : DTT) (te : DTE) (vs : List Nat) : DTE := fun ρ R => wi ρ fun ds => compI i tt te (wipeD ρ vs) (fun acc => R (.lst acc)) ds []
def wYes : DTT := fun _ R => R true
theorem dts_nil : PTs X [] (TDT X.K wYes) := fun pins s σ H Q I ⟨M, ρ, R, w, r, q, o⟩ => pts_nil pins s σ H Q I (o true M H q (.refl w))
theorem dts_one (h : DPT X c vc) : PTs X [c] (TDT X.K vc) := pts_one h

def Acc (K : PySem.W.Frag) (M1 : Mk) (H1 : Hp) (D : Addr) (acc : List DL.D) (M' : Mk) (H' : Hp) : Prop := Ext M1 H1 M' H' ∧ M' D = 2 ∧ ∃ av, H' D = some (.lst av) ∧ DRs K M' H' av acc
theorem Acc.ext {D : Addr} {acc : List DL.D} {M' M2 : Mk} {H' H2 : Hp} (x : Acc K M H D acc M' H') (e : Ext M' H' M2 H2) : Acc K M H D acc M2 H2 := by
  obtain ⟨x1, x2, av, x3, x4⟩ := x
  obtain ⟨p, q⟩ := e.keep D _ x3 (by rw [x2]; decide)
  exact ⟨x1.trans e, q.trans x2, av, p, x4.ext e⟩
theorem Acc.start {D : Addr} (w : Wf M H) (hD : H D = none) : Acc K M H D [] (setM M D 2) (upd H D (.lst [])) := ⟨Ext.newM w hD _ (by decide), setM_same, [], upd_same, .nil⟩
theorem Acc.push {D : Addr} {acc : List DL.D} {M' : Mk} {H' : Hp} {y : V} {d : DL.D} (x : Acc K M H D acc M' H') (hD : H D = none) (h : DR K M' H' y d) :
    ∃ av, H' D = some (.lst av) ∧ av.length = acc.length ∧ Acc K M H D (acc ++ [d]) M' (upd H' D (.lst (av ++ [y]))) := by
  obtain ⟨x1, x2, av, x3, x4⟩ := x
  refine ⟨av, x3, x4.length, x1.fill hD x2 _, x2, _, upd_same, ?_⟩
  exact DRs.keeps (keeps_fill x2 _) _ _ (x4.append (.cons h .nil))
theorem Acc.done {D : Addr} {acc : List DL.D} {M' : Mk} {H' : Hp} (x : Acc K M H D acc M' H') (hD : H D = none) : Ext M H (setM M' D 0) H' ∧ DR K (setM M' D 0) H' (.ref D) (.lst acc) := by
  obtain ⟨x1, x2, av, x3, x4⟩ := x
  exact ⟨x1.unown hD x2, .lst (.inl ⟨setM_same, .inl x3⟩) (DRs.keeps (keeps_unown x2) _ _ x4)⟩
theorem td_lc {wi : DTI} {i : Nat} {tt : DTT} {te : DTE} {vs : List Nat} (hi : i ∈ vs) {σ : L2.St} {Q : VK} (h : TD K (wLc wi i tt te vs) σ H Q) : tLc (TDI K wi) (gName i) (TDT K tt) (TD K te) vs σ H Q := by
  obtain ⟨M, ρ, R, w, r, q, o⟩ := h
  refine ⟨M, ρ, _, w, r, q, fun ds J M1 H1 q1 e1 wk D hD => ?_⟩
  obtain ⟨Iv, i0, iN, iS⟩ := q1
  refine ⟨fun j m H' => m = ds.length - j ∧ j ≤ ds.length ∧ ∃ M' acc, Acc K M1 H1 D acc M' H' ∧ Iv (ds.drop j) acc, ⟨_, rfl, Nat.zero_le _, _, [], Acc.start e1.wf hD, i0⟩, ?_⟩
  rintro j m H' ⟨rfl, hj, M', acc, ac, f⟩
  obtain ⟨wk1, wk2⟩ := wk M' H' ac.1.toS
  by_cases hlt : j < ds.length
  · obtain ⟨d, hd, hdr⟩ := drop_get hlt
    obtain ⟨go, yl⟩ := wk1 j d hd
    refine .inr ⟨go, fun H2 => ∃ M2 acc2, Acc K M1 H1 D acc2 M2 H2 ∧ Iv (ds.drop (j + 1)) acc2, fun H2 ⟨M2, a2, x⟩ => ⟨ds.length - (j + 1), by omega, rfl, hlt, M2, a2, x⟩, fun x H2 y => ?_⟩
    obtain ⟨M2, e2, dr⟩ := yl x H2 y
    rw [hdr] at f
    have ac2 := ac.ext e2
    refine ⟨wipe_set σ hi _, M2, _, _, e2.wf, (((r.ext e1).ext ac2.1).wipe vs).set dr, iS _ _ _ f, fun k M3 H3 q3 e3 => ?_⟩
    have ac3 := ac2.ext e3
    cases k with
    | false => exact ⟨M3, acc, ac3, q3⟩
    | true =>
      simp only [if_true] at q3 ⊢
      refine ⟨M3, _, _, e3.wf, ((((r.ext e1).ext ac2.1).wipe vs).set dr).ext e3, q3, fun v4 d4 M4 H4 q4 e4 dv4 => ?_⟩
      obtain ⟨n4, l4, q4⟩ := q4
      obtain ⟨av, h1, h2, h3⟩ := (ac3.ext e4).push hD (dv4.dr n4)
      exact ⟨av, h1, by rw [h2]; exact l4, M4, _, h3, q4⟩
  · have e2 : j = ds.length := by omega
    subst e2
    rw [List.drop_length] at f
    obtain ⟨x1, x2⟩ := ac.done hD
    exact .inl ⟨wk2, o _ _ _ _ (iN _ f) (e1.trans x1) (.inl x2)⟩
theorem d_lc {elt iter : Expr} {x : Str} {px : Pos} {ifs : List Expr} {scope : Scope} {own : List (Str × Nat)} {wi : DTI} {i : Nat} {tt : DTT} {te : DTE} (hc : X.calm = true) (hN : X.N.Nodup) (hii : i ∈ own.map (·.2)) (hi : DPI X (.Name x px) iter wi) (ok : BlkOk X.N X.env.scope scope own)
    (hg : ∀ (s : Shared) (H : Hp) (C : Addr) (cl : List (Str × Addr)) (fp : List Addr), PG (X.blk s H scope (compEnvC scope cl C X.env) fp) (.Name x px) (gName i)) (ht : ∀ (s : Shared) (H : Hp) (C : Addr) (cl : List (Str × Addr)) (fp : List Addr), PTs (X.blk s H scope (compEnvC scope cl C X.env) fp) ifs (TDT X.K tt))
    (he : ∀ (s : Shared) (H : Hp) (C : Addr) (cl : List (Str × Addr)) (fp : List Addr), DPE (X.blk s H scope (compEnvC scope cl C X.env) fp) elt te) (hs : ∀ x, foldedSetIterable iter X.env x = pure x := by intro _; rfl) :
    DPE X (.ListComp elt [⟨.Name x px, iter, ifs, 0⟩] scope pos) (wLc wi i tt te (own.map (·.2))) := peC (pe_lc hc hN hi ok hg ht he hs) fun _ _ _ q => td_lc hii q
def compO (i : Nat) (tt : DTT) (wi1 : DTI) (i1 : Nat) (tt1 : DTT) (te : DTE) (vs1 : List Nat) (ρw : DEnv) (fin : List D → Prop) (ds acc : List D) : Prop := ∃ Iv : List D → List D → Prop, Iv ds acc ∧ (∀ acc, Iv [] acc → fin acc) ∧
  ∀ d ds acc, Iv (d :: ds) acc → tt (ρw.set i (some d)) fun k => if k = true then wi1 (ρw.set i (some d)) fun es => compI i1 tt1 te (wipeD (ρw.set i (some d)) vs1) (Iv ds) es acc else Iv ds acc
def wLc2 (wi : DTI) (i : Nat) (tt : DTT) (wi1 : DTI) (i1 : Nat) (tt1 : DTT) (te : DTE) (vs vs1 : List Nat) : DTE := fun ρ R => wi ρ fun ds => compO i tt wi1 i1 tt1 te vs1 (wipeD ρ vs) (fun acc => R (.lst acc)) ds []
theorem td_lc2 {wi wi1 : DTI} {i i1 : Nat} {tt tt1 : DTT} {te : DTE} {vs vs1 : List Nat} (hi : i ∈ vs) (hi1 : i1 ∈ vs1) {σ : L2.St} {Q : VK} (h : TD K (wLc2 wi i tt wi1 i1 tt1 te vs vs1) σ H Q) :
    tLc2 (TDI K wi) (gName i) (TDT K tt) (TDI K wi1) (gName i1) (TDT K tt1) (TD K te) vs vs1 σ H Q := by
  obtain ⟨M, ρ, R, w, r, q, o⟩ := h
  refine ⟨M, ρ, _, w, r, q, fun ds J M1 H1 q1 e1 wk D hD => ?_⟩
  obtain ⟨Iv, i0, iN, iS⟩ := q1
  refine ⟨fun j m H' => m = ds.length - j ∧ j ≤ ds.length ∧ ∃ M' acc, Acc K M1 H1 D acc M' H' ∧ Iv (ds.drop j) acc, ⟨_, rfl, Nat.zero_le _, _, [], Acc.start e1.wf hD, i0⟩, ?_⟩
  rintro j m H' ⟨rfl, hj, M', acc, ac, f⟩
  obtain ⟨wk1, wk2⟩ := wk M' H' ac.1.toS
  by_cases hlt : j < ds.length
  · obtain ⟨d, hd, hdr⟩ := drop_get hlt
    obtain ⟨go, yl⟩ := wk1 j d hd
    refine .inr ⟨go, fun H2 => ∃ M2 acc2, Acc K M1 H1 D acc2 M2 H2 ∧ Iv (ds.drop (j + 1)) acc2, fun H2 ⟨M2, a2, x⟩ => ⟨ds.length - (j + 1), by omega, rfl, hlt, M2, a2, x⟩, fun x H2 y => ?_⟩
    obtain ⟨M2, e2, dr⟩ := yl x H2 y
    rw [hdr] at f
    have ac2 := ac.ext e2
    have r2 := (((r.ext e1).ext ac2.1).wipe vs).set (i := i) dr
    refine ⟨wipe_set σ hi _, M2, _, _, e2.wf, r2, iS _ _ _ f, fun k M3 H3 q3 e3 => ?_⟩
    have ac3 := ac2.ext e3
    have r3 := r2.ext e3
    cases k with
    | false => exact ⟨M3, acc, ac3, q3⟩
    | true =>
      simp only [if_true] at q3 ⊢
      refine ⟨M3, _, _, e3.wf, r3, q3, fun es J1 M4 H4 q4 e4 wk4 => ?_⟩
      obtain ⟨Jv, j0, jN, jS⟩ := q4
      have ac4 := ac3.ext e4
      have r4 := r3.ext e4
      refine ⟨fun l n H' => n = es.length - l ∧ l ≤ es.length ∧ ∃ M' acc', Acc K M1 H1 D acc' M' H' ∧ ExtS M4 H4 M' H' ∧ Jv (es.drop l) acc', ⟨_, rfl, Nat.zero_le _, M4, acc, ac4, .refl e4.wf, j0⟩, ?_⟩
      rintro l n H5 ⟨rfl, hl, M5, acc5, ac5, s5, f5⟩
      obtain ⟨wk51, wk52⟩ := wk4 M5 H5 s5
      have r5 : EnvR K M5 H5 ((wipe σ vs).set i (some x)) ((wipeD ρ vs).set i (some d)) := by
        have dr5 : DR K M5 H5 x d := DR.keeps s5.keeps d x ((dr.ext e3).ext e4)
        exact (((r.ext e1).ext ac5.1).wipe vs).set dr5
      by_cases hlt1 : l < es.length
      · obtain ⟨d6, hd6, hdr6⟩ := drop_get hlt1
        obtain ⟨go6, yl6⟩ := wk51 l d6 hd6
        refine .inr ⟨go6, fun H2 => ∃ M2 acc2, Acc K M1 H1 D acc2 M2 H2 ∧ ExtS M4 H4 M2 H2 ∧ Jv (es.drop (l + 1)) acc2, fun H2 ⟨M2, a2, x⟩ => ⟨es.length - (l + 1), by omega, rfl, hlt1, M2, a2, x⟩, fun x6 H6 y6 => ?_⟩
        obtain ⟨M6, e6, dr6⟩ := yl6 x6 H6 y6
        rw [hdr6] at f5
        have ac6 := ac5.ext e6
        have r6 := ((r5.ext e6).wipe vs1).set (i := i1) dr6
        have s6 := s5.transE e6
        refine ⟨wipe_set _ hi1 _, M6, _, _, e6.wf, r6, jS _ _ _ f5, fun k M7 H7 q7 e7 => ?_⟩
        have ac7 := ac6.ext e7
        have s7 := s6.transE e7
        cases k with
        | false => exact ⟨M7, acc5, ac7, s7, q7⟩
        | true =>
          simp only [if_true] at q7 ⊢
          refine ⟨M7, _, _, e7.wf, r6.ext e7, q7, fun v8 d8 M8 H8 q8 e8 dv8 => ?_⟩
          obtain ⟨n8, l8, q8⟩ := q8
          have ac8 := ac7.ext e8
          obtain ⟨av, h1, h2, h3⟩ := ac8.push hD (dv8.dr n8)
          refine ⟨av, h1, by rw [h2]; exact l8, M8, _, h3, ?_, q8⟩
          have s8 := s7.transE e8
          refine ⟨h3.1.wf, fun a u h n1 n2 => ?_, s8.pen⟩
          obtain ⟨p, q⟩ := s8.keep a u h n1 n2
          have : a ≠ D := fun e => by
            subst e
            obtain ⟨_, m2, _⟩ := ac4
            exact n2 m2
          exact ⟨by rw [upd_ne this]; exact p, q⟩
      · have e2 : l = es.length := by omega
        subst e2
        rw [List.drop_length] at f5
        exact .inl ⟨wk52, M5, acc5, ac5, jN _ f5⟩
  · have e2 : j = ds.length := by omega
    subst e2
    rw [List.drop_length] at f
    obtain ⟨x1, x2⟩ := ac.done hD
    exact .inl ⟨wk2, o _ _ _ _ (iN _ f) (e1.trans x1) (.inl x2)⟩
theorem d_lc2 {elt iter iter1 : Expr} {x x1 : Str} {px px1 : Pos} {ifs ifs1 : List Expr} {scope : Scope} {own : List (Str × Nat)} {vs1 : List Nat} {wi wi1 : DTI} {i i1 : Nat} {tt tt1 : DTT} {te : DTE} (hc : X.calm = true) (hN : X.N.Nodup) (hii : i ∈ own.map (·.2)) (hii1 : i1 ∈ vs1) (hi : DPI X (.Name x px) iter wi) (ok : BlkOk X.N X.env.scope scope own) (hv : ∀ i ∈ vs1, i ∈ own.map (·.2))
    (hg : ∀ (s : Shared) (H : Hp) (C : Addr) (cl : List (Str × Addr)) (fp : List Addr), PG (X.blk s H scope (compEnvC scope cl C X.env) fp) (.Name x px) (gName i)) (ht : ∀ (s : Shared) (H : Hp) (C : Addr) (cl : List (Str × Addr)) (fp : List Addr), PTs (X.blk s H scope (compEnvC scope cl C X.env) fp) ifs (TDT X.K tt))
    (hi1 : ∀ (s : Shared) (H : Hp) (C : Addr) (cl : List (Str × Addr)) (fp : List Addr), DPI (X.blk s H scope (compEnvC scope cl C X.env) fp) (.Name x1 px1) iter1 wi1)
    (hg1 : ∀ (s : Shared) (H : Hp) (C : Addr) (cl : List (Str × Addr)) (fp : List Addr), PG (X.blk s H scope (compEnvC scope cl C X.env) fp) (.Name x1 px1) (gName i1)) (ht1 : ∀ (s : Shared) (H : Hp) (C : Addr) (cl : List (Str × Addr)) (fp : List Addr), PTs (X.blk s H scope (compEnvC scope cl C X.env) fp) ifs1 (TDT X.K tt1))
    (he : ∀ (s : Shared) (H : Hp) (C : Addr) (cl : List (Str × Addr)) (fp : List Addr), DPE (X.blk s H scope (compEnvC scope cl C X.env) fp) elt te) (hs : ∀ x, foldedSetIterable iter X.env x = pure x := by intro _; rfl) (hs1 : ∀ env x, foldedSetIterable iter1 env x = pure x := by intro _ _; rfl) :
    DPE X (.ListComp elt [⟨.Name x px, iter, ifs, 0⟩, ⟨.Name x1 px1, iter1, ifs1, 0⟩] scope pos) (wLc2 wi i tt wi1 i1 tt1 te (own.map (·.2)) vs1) := peC (pe_lc2 hc hN hi ok hv hg ht hi1 hg1 ht1 he hs hs1) fun _ _ _ q => td_lc2 hii hii1 q

abbrev DSp := List D → (D → Prop) → Prop
def spD (K : PySem.W.Frag) (n : Nat) (S : DSp) : Sp := fun vs H Q _ => vs.length = n ∧ ∃ M ds R, (Wf M H ∧ TabsIn K M) ∧ DRs K M H vs ds ∧ S ds R ∧ Out K M H R Q
def wCall (S : DSp) (ta : DTA) : DTE := fun ρ R => ta ρ fun ds => ds.all D.nown = true ∧ S ds R
theorem td_call {S : DSp} {ta : DTA} {n : Nat} (hn : ∀ ds R, S ds R → ds.length = n) {σ : L2.St} {Q : VK} (h : TD K (wCall S ta) σ H Q) : tCall (spD K n S) [] E0 (TDA K ta) σ H Q := by
  obtain ⟨M, ρ, R, w, r, q, o⟩ := h
  refine ⟨M, ρ, _, w, r, q, fun vs ds M1 H1 q1 e1 dvs => ?_⟩
  obtain ⟨hno, q1⟩ := q1
  have d := dvs.drs hno
  rw [List.append_nil]
  exact ⟨by rw [d.length]; exact hn ds R q1, M1, ds, R, ⟨e1.wf, r.tabs.pen e1.pen⟩, d, q1, o.ext e1⟩

structure Def (P : Program) (w : World) (K : PySem.W.Frag) (mg : Str → Option Value) (base : Heap) (k : Nat) (x : Str) (ps : List Str) (S : DSp) : Prop where
  ex : ∃ (f : Addr) (fd : FuncData), mg x = some (.ref f) ∧ PySem.W.keepIn K (.ref f) = true ∧ Binds K fd ps [] ∧ FnOk P w K mg base CX0 k f fd ps (spD K ps.length S)
  len : ∀ ds R, S ds R → ds.length = ps.length
theorem d_call {k : Nat} {x : Str} {ps : List Str} {S : DSp} {p : Pos} {es : List Expr} {ta : DTA} (F : Def X.prog X.w X.K X.mg X.base k x ps S) (hr : Room k X.A) (hg : Gl X x) (ha : DPA X (e :: es) ta)
    (hdb : (x == ("__debug__" : Str)) = false := by decide) (he : starEach (e :: es) X.env = (false, eval e X.env) :: starEach es X.env := by rfl) (hpl : (backTo pos (starEach es X.env)).any (·.1) = false := by rfl) : DPE X (.Call (.Name x p) (e :: es) [] pos) (wCall S ta) := by
  obtain ⟨f, fd, hm, hk, hb, G⟩ := F.ex
  exact peC (pe_call G hr hg hm hk hb .nil pass0 ha hdb he hpl) fun _ _ _ q => td_call F.len q
def startD (N : List Str) (ds : List D) : DEnv := ds.map some ++ List.replicate (N.length - ds.length) none
def lockM (M : Mk) : Mk := fun a => if M a = 2 then 3 else M a
def unlockM (M M' : Mk) : Mk := fun a => if M a = 2 then 2 else M' a
theorem DRs.length_eq {vs : List V} {ds : List D} (h : DRs K M H vs ds) : vs.length = ds.length := h.length
theorem start_env {N : List Str} {vs : List V} {ds : List D} (tb : TabsIn K M) (hd : DRs K M H vs ds) (hl : vs.length ≤ N.length) : EnvR K M H (L2.start N vs) (startD N ds) := by
  have hlen := hd.length
  have nown : ∀ (i : Nat) (es : D), (startD N ds)[i]? = some (some es) → es.nown = false → False := fun i es q n => by
    unfold startD at q
    by_cases hi : i < ds.length
    · rw [List.getElem?_append_left (by rw [List.length_map]; exact hi), List.getElem?_map] at q
      cases e : ds[i]? with
      | none => rw [e] at q; cases q
      | some d =>
        rw [e] at q
        cases q
        obtain ⟨v, _, dr⟩ := hd.get e
        rw [dr.nown] at n; cases n
    · rw [List.getElem?_append_right (by rw [List.length_map]; omega)] at q
      have := List.mem_of_getElem? q
      rw [List.mem_replicate] at this
      cases this.2
  refine ⟨?_, fun i d q => ?_, fun i j a ds' es q1 _ n1 _ _ _ => (nown i ds' q1 n1).elim, tb⟩
  · unfold L2.start startD
    simp only [List.length_append, List.length_map, List.length_replicate]
    omega
  · unfold startD at q
    unfold L2.start
    by_cases hi : i < ds.length
    · rw [List.getElem?_append_left (by rw [List.length_map]; exact hi), List.getElem?_map] at q
      cases e : ds[i]? with
      | none => rw [e] at q; cases q
      | some d' =>
        rw [e] at q
        cases q
        obtain ⟨v, hv, dr⟩ := hd.get e
        refine ⟨v, ?_, .inl dr⟩
        rw [List.getElem?_append_left (by rw [List.length_map]; omega), List.getElem?_map, hv]
        rfl
    · rw [List.getElem?_append_right (by rw [List.length_map]; omega)] at q
      have := List.mem_of_getElem? q
      rw [List.mem_replicate] at this
      cases this.2
theorem TabsIn.lock {K : PySem.W.Frag} (t : TabsIn K M) : TabsIn K (lockM M) := t.step fun a z => by
  unfold lockM; rw [if_neg (fun e => by rw [e] at z; exact absurd z (by decide))]
theorem lock_wf (w : Wf M H) : Wf (lockM M) H ∧ Keeps M H (lockM M) H := by
  have e1 : ∀ a, lockM M a = 1 ↔ M a = 1 := fun a => by
    unfold lockM
    by_cases z : M a = 2
    · rw [if_pos z, z]; constructor <;> intro q <;> cases q
    · rw [if_neg z]
  have e0 : ∀ a, lockM M a = 0 ↔ M a = 0 := fun a => by
    unfold lockM
    by_cases z : M a = 2
    · rw [if_pos z, z]; constructor <;> intro q <;> cases q
    · rw [if_neg z]
  exact ⟨⟨fun a ha => w.here a fun z => ha ((e0 a).mpr z), fun a ha => w.pen a ((e1 a).mp ha), w.tab.step (fun a ha => by unfold lockM at ha ⊢; split at ha <;> simp_all) (fun _ _ _ h => h) fun c o h z => ⟨h, by unfold lockM; rw [if_neg (by rw [z]; decide)]; exact z⟩⟩, fun a o h z => ⟨h, (e0 a).mpr z⟩, fun a h => (e1 a).mpr h⟩
theorem unlock_ext {M' : Mk} {H' : Hp} (w : Wf M H) (e : ExtS (lockM M) H M' H') : Ext M H (unlockM M M') H' ∧ Keeps M' H' (unlockM M M') H' := by
  have lk : ∀ a, M a = 2 → M' a = 3 ∧ ∃ o, H' a = some o := fun a h => by
    obtain ⟨o, ho⟩ := w.here a (by rw [h]; decide)
    have l3 : lockM M a = 3 := by unfold lockM; rw [if_pos h]
    obtain ⟨p, q⟩ := e.keep a o ho (by rw [l3]; decide) (by rw [l3]; decide)
    exact ⟨q.trans l3, o, p⟩
  have zz : ∀ a, M' a = 4 → unlockM M M' a = 4 := fun a z => by
    by_cases q : M a = 2
    · rw [(lk a q).1] at z; cases z
    · unfold unlockM; rw [if_neg q]; exact z
  refine ⟨⟨⟨fun a ha => ?_, fun a ha => ?_, e.wf.tab.step (fun a ha => by unfold unlockM at ha ⊢; split at ha <;> simp_all) (fun _ _ _ h => h) fun c o h z => ⟨h, zz c z⟩⟩, fun a o h n => ?_, fun a h => ?_⟩, fun a o h z => ⟨h, ?_⟩, fun a h => ?_⟩
  · by_cases z : M a = 2
    · exact (lk a z).2
    · unfold unlockM at ha; rw [if_neg z] at ha; exact e.wf.here a ha
  · by_cases z : M a = 2
    · unfold unlockM at ha; rw [if_pos z] at ha; cases ha
    · unfold unlockM at ha; rw [if_neg z] at ha; exact e.wf.pen a ha
  · by_cases z : M a = 2
    · have l3 : lockM M a = 3 := by unfold lockM; rw [if_pos z]
      obtain ⟨p, q⟩ := e.keep a o h (by rw [l3]; decide) (by rw [l3]; decide)
      exact ⟨p, by unfold unlockM; rw [if_pos z, z]⟩
    · have l3 : lockM M a = M a := by unfold lockM; rw [if_neg z]
      obtain ⟨p, q⟩ := e.keep a o h (by rw [l3]; exact n) (by rw [l3]; exact z)
      exact ⟨p, by unfold unlockM; rw [if_neg z, q, l3]⟩
  · have z : M a ≠ 2 := fun z => h (by rw [z]; decide)
    have l1 : lockM M a = M a := by unfold lockM; rw [if_neg z]
    unfold unlockM; rw [if_neg z, e.pen a (by rw [l1]; exact h), l1]
  · by_cases q : M a = 2
    · rw [(lk a q).1] at z; cases z
    · unfold unlockM; rw [if_neg q]; exact z
  · by_cases q : M a = 2
    · rw [(lk a q).1] at h; cases h
    · unfold unlockM; rw [if_neg q]; exact h
end

theorem mkDef {P : Program} {w : World} {K : PySem.W.Frag} {mg : Str → Option Value} {base : Heap} {x qual : Str} {st : Stmt} {f : Addr} {fd : FuncData} {N ps : List Str} {k : Nat} {S : DSp} (F : Fun K x qual st f fd) (hm : mg x = some (.ref f)) (hb : Binds K fd ps []) (sc : FnScope N ps (defScope st)) (hN : ps.length ≤ N.length)
    (len : ∀ ds R, S ds R → ds.length = ps.length)
    (body : ∀ (cdv : Value) (A : Around) (outer : List Env) (s : Shared) (H : Hp) (E : XK), Room k (A.deeper (envOfC qual (defScope st) s.heap.objs.size f cdv)) →
      ∃ wb, DPSs (cxOf CX0 P w K mg base N qual (defScope st) f cdv A outer s H E).nox (defBody st) wb ∧ ∀ ds R, S ds R → wb { nx := fun _ => R .non, rt := R } (startD N ds)) : Def P w K mg base (k + 1) x ps S := by
  refine ⟨⟨f, fd, hm, F.kp, hb, F.ok sc (fun vs H Q E h => h.1) fun cdv A outer s H vs Q E hr h => ?_⟩, len⟩
  obtain ⟨wb, pb, hw⟩ := body cdv A outer s H E hr
  obtain ⟨hl, M, ds, R, ⟨wf, tb⟩, dr, hs, o⟩ := h
  obtain ⟨wl, kl⟩ := lock_wf wf
  refine ⟨_, pb, lockM M, startD N ds, _, wl, start_env tb.lock (DRs.keeps kl _ _ dr) (by omega), hw ds R hs, ⟨fun σ ρ M' H' q e r => ?_, fun v d M' H' q e dr' => ?_, fun σ ρ M' H' q => q.elim, fun σ ρ M' H' q => q.elim, fun _ _ _ _ _ q => q.elim⟩⟩
  · obtain ⟨e1, k1⟩ := unlock_ext wf e
    exact o .non .non _ H' q e1 (.inl .non)
  · obtain ⟨e1, k1⟩ := unlock_ext wf e
    exact o v d _ H' q e1 (.inl (DR.keeps k1 d v dr'))
end DL

set_option Elab.async false
set_option linter.all false
set_option maxRecDepth 100000
set_option maxHeartbeats 4000000
namespace DS
open PySem PySem.Spec PyProof.Rows


def Rise (xs : Array Nat) : Prop := ∀ i k : Nat, i < k → k < xs.size → xs.getD i 0 < xs.getD k 0
theorem getD_any {xs : Array Nat} {i a b : Nat} (h : i < xs.size) : xs.getD i a = xs.getD i b := by simp [Array.getD, h]
theorem Rise.le {xs : Array Nat} (r : Rise xs) {i k : Nat} (h : i ≤ k) (hk : k < xs.size) : xs.getD i 0 ≤ xs.getD k 0 := by
  rcases Nat.lt_or_eq_of_le h with h | h
  · exact Nat.le_of_lt (r i k h hk)
  · subst h; exact Nat.le_refl _
theorem below_go {xs : Array Nat} (r : Rise xs) (j : Nat) : ∀ (fuel lo hi : Nat), lo ≤ hi → hi ≤ xs.size → hi - lo ≤ fuel → (∀ i, i < lo → xs.getD i 0 < j) → (∀ i, hi ≤ i → i < xs.size → j ≤ xs.getD i 0) →
    SetTable.below.go xs j fuel lo hi ≤ xs.size ∧ (∀ i, i < SetTable.below.go xs j fuel lo hi → xs.getD i 0 < j) ∧ (∀ i, SetTable.below.go xs j fuel lo hi ≤ i → i < xs.size → j ≤ xs.getD i 0) := by
  intro fuel
  induction fuel with
  | zero =>
    intro lo hi h1 h2 h3 h4 h5
    have e : lo = hi := by omega
    subst e
    unfold SetTable.below.go
    exact ⟨h2, h4, h5⟩
  | succ n ih =>
    intro lo hi h1 h2 h3 h4 h5
    unfold SetTable.below.go
    by_cases hlt : lo < hi
    · rw [if_pos hlt]
      have hm1 : lo ≤ (lo + hi) / 2 := by omega
      have hm2 : (lo + hi) / 2 < hi := by omega
      dsimp only
      split
      · rename_i hj
        rw [getD_any (b := 0) (by omega)] at hj
        exact ih ((lo + hi) / 2 + 1) hi (by omega) h2 (by omega) (fun i hi' => Nat.lt_of_le_of_lt (r.le (by omega) (by omega)) hj) h5
      · rename_i hj
        rw [getD_any (b := 0) (by omega)] at hj
        exact ih lo ((lo + hi) / 2) (by omega) (by omega) (by omega) h4 fun i hi1 hi2 => Nat.le_trans (Nat.le_of_not_lt hj) (r.le hi1 hi2)
    · rw [if_neg hlt]
      have e : lo = hi := by omega
      subst e
      exact ⟨h2, h4, h5⟩
theorem below_spec {xs : Array Nat} (r : Rise xs) (j : Nat) : SetTable.below xs j ≤ xs.size ∧ (∀ i, i < SetTable.below xs j → xs.getD i 0 < j) ∧ (∀ i, SetTable.below xs j ≤ i → i < xs.size → j ≤ xs.getD i 0) :=
  below_go r j xs.size 0 xs.size (Nat.zero_le _) (Nat.le_refl _) (by omega) (fun i h => absurd h (Nat.not_lt_zero _)) fun i h1 h2 => absurd h2 (by omega)
theorem below_at {xs : Array Nat} (r : Rise xs) {i : Nat} (h : i ≤ xs.size) : SetTable.below xs (if i = 0 then 0 else xs.getD (i - 1) 0 + 1) = i := by
  obtain ⟨h1, h2, h3⟩ := below_spec r (if i = 0 then 0 else xs.getD (i - 1) 0 + 1)
  generalize hb : SetTable.below xs (if i = 0 then 0 else xs.getD (i - 1) 0 + 1) = b at h1 h2 h3
  rcases Nat.lt_trichotomy b i with hlt | e | hgt
  · have hi : i ≠ 0 := by omega
    rw [if_neg hi] at h3
    have := h3 (i - 1) (by omega) (by omega)
    omega
  · exact e
  · have := h2 i hgt
    by_cases hi : i = 0
    · rw [if_pos hi] at this; omega
    · rw [if_neg hi] at this
      have q := r (i - 1) i (by omega) (by omega)
      omega
theorem rise_insert {xs : Array Nat} (r : Rise xs) {j : Nat} (hj : xs[SetTable.below xs j]? ≠ some j) : Rise (SetTable.insertAt xs (SetTable.below xs j) j) := by
  obtain ⟨h1, h2, h3⟩ := below_spec r j
  generalize hb : SetTable.below xs j = b at *
  have hs : (SetTable.insertAt xs b j).size = xs.size + 1 := by
    have := congrArg List.length (SetTable.toList_insertAt xs b j)
    simp only [Array.length_toList] at this
    rw [this]
    simp
    omega
  have hg : ∀ i, (SetTable.insertAt xs b j).getD i 0 = if i < b then xs.getD i 0 else if i = b then j else xs.getD (i - 1) 0 := fun i => by
    have e : (SetTable.insertAt xs b j).getD i 0 = (SetTable.insertAt xs b j).toList.getD i 0 := by simp [Array.getD_eq_getD_getElem?, List.getD_eq_getElem?_getD]
    have e' : ∀ k, xs.getD k 0 = xs.toList.getD k 0 := fun k => by simp [Array.getD_eq_getD_getElem?, List.getD_eq_getElem?_getD]
    rw [e, SetTable.toList_insertAt, e', e']
    have hlen : (xs.toList.take b).length = b := by simp; omega
    simp only [List.getD_eq_getElem?_getD]
    by_cases hi : i < b
    · rw [if_pos hi]
      first
        | (rw [List.getElem?_append_left (by rw [hlen]; exact hi), List.getElem?_take_of_lt hi])
        | simp [List.getElem?_append, List.getElem?_take, hi, hlen]
    · rw [if_neg hi]
      by_cases hi2 : i = b
      · subst hi2
        simp [List.getElem?_append, hlen]
      · rw [if_neg hi2]
        have : i - b = (i - 1 - b) + 1 := by omega
        rw [List.getElem?_append_right (by rw [hlen]; omega), hlen, this]
        simp only [List.getElem?_cons_succ, List.getElem?_drop]
        congr 2
        omega
  have ne : ∀ i, b ≤ i → i < xs.size → j < xs.getD i 0 := fun i hi hlt => by
    have h0 := h3 b (Nat.le_refl _) (by omega)
    have hb0 : xs.getD b 0 ≠ j := fun e => hj (by
      have : b < xs.size := by omega
      simp only [Array.getD, this, dif_pos] at e
      rw [Array.getElem?_eq_getElem this]
      exact congrArg some e)
    have := r.le hi hlt
    omega
  intro i k hik hk
  rw [hs] at hk
  rw [hg i, hg k]
  by_cases c1 : i < b
  · rw [if_pos c1]
    by_cases c2 : k < b
    · rw [if_pos c2]; exact r i k hik (by omega)
    · rw [if_neg c2]
      by_cases c3 : k = b
      · rw [if_pos c3]; exact h2 i c1
      · rw [if_neg c3]; exact r i (k - 1) (by omega) (by omega)
  · rw [if_neg c1, if_neg (by omega : ¬ k < b), if_neg (by omega : ¬ k = b)]
    by_cases c2 : i = b
    · rw [if_pos c2]; exact ne (k - 1) (by omega) (by omega)
    · rw [if_neg c2]; exact r (i - 1) (k - 1) (by omega) (by omega)
structure TInv (t : SetTable) : Prop where
  rise : Rise t.place
  dum : t.dummies = #[]
theorem rise_range (n : Nat) : Rise (Array.range n) := by
  intro i k h hk
  have hk' : k < n := by simpa using hk
  simp [Array.getD_eq_getD_getElem?, hk', Nat.lt_trans h hk']
  exact h
theorem standIn_inv (t : SetTable) (n : Nat) : TInv (t.standIn n) := ⟨rise_range n, rfl⟩
theorem has_none (j : Nat) : SetTable.has #[] j = false := by simp [SetTable.has]
theorem probe_go {t : SetTable} (d : t.dummies = #[]) (h : Int) : ∀ (fuel : Nat) (p : SetTable.Probe) (m : SetTable.Met), p.dummy = none → SetTable.probe.go t (fun _ => h + 1) h fuel p = some m → ∃ j, m = .empty j none ∧ t.slot j = .empty := by
  intro fuel
  induction fuel with
  | zero => intro p m _ e; unfold SetTable.probe.go at e; cases e
  | succ n ih =>
    intro p m hd e
    unfold SetTable.probe.go at e
    cases hs : t.slot p.j with
    | empty =>
      rw [hs] at e
      simp only [Option.some.injEq] at e
      exact ⟨p.j, by rw [← e, hd], hs⟩
    | dummy =>
      exfalso
      unfold SetTable.slot at hs
      rw [d] at hs
      dsimp only at hs
      rw [has_none] at hs
      split at hs
      · cases hs
      · simp at hs
    | live i =>
      rw [hs] at e
      have hne : ¬ ((h + 1 == h) = true) := by simp; omega
      simp only [hne, if_false] at e
      refine ih _ m ?_ e
      unfold SetTable.advance
      split
      · exact hd
      · exact hd
theorem freeSlot_some {t : SetTable} (d : t.dummies = #[]) {h : Int} {j : Nat} {b : Bool} (e : t.freeSlot h = some (j, b)) : t.slot j = .empty := by
  unfold SetTable.freeSlot SetTable.probe at e
  cases q : SetTable.probe.go t (fun _ => h + 1) h (10 * SetTable.turns t.mask) (t.probeStart h) with
  | none => rw [q] at e; cases e
  | some m =>
    obtain ⟨j', rfl, hs⟩ := probe_go d h _ _ m rfl q
    rw [q] at e
    simp at e
    rw [← e.1]
    exact hs
theorem put_inv {t : SetTable} (v : TInv t) {j : Nat} (h : t.slot j = .empty) : TInv (t.put j).1 := by
  have hj : t.place[SetTable.below t.place j]? ≠ some j := fun e => by
    unfold SetTable.slot at h
    dsimp only at h
    rw [if_pos (by rw [e]; simp)] at h
    cases h
  refine ⟨rise_insert v.rise hj, ?_⟩
  show (if SetTable.has t.dummies j then _ else t.dummies) = #[]
  rw [v.dum, has_none]
  rfl
theorem layNew_inv {t : SetTable} (v : TInv t) (es : Array (Int × Value)) (h : Int) (x : Value) : TInv (layNew t es h x).2.1 ∧ (layNew t es h x).2.1.led = t.led := by
  unfold layNew
  cases q : t.freeSlot h with
  | none => exact ⟨standIn_inv _ _, rfl⟩
  | some jb =>
    obtain ⟨j, b⟩ := jb
    have hs := freeSlot_some v.dum q
    have hp := put_inv v hs
    dsimp only
    unfold SetTable.orStandIn
    split
    · exact ⟨hp, rfl⟩
    · exact ⟨standIn_inv _ _, rfl⟩
theorem rise_of_sorted {l : List Nat} (h : l.Pairwise (· < ·)) : Rise l.toArray := by
  intro i k hik hk
  have hk' : k < l.length := by simpa using hk
  have := List.pairwise_iff_getElem.mp h i k (Nat.lt_trans hik hk') hk' hik
  simpa [Array.getD_eq_getD_getElem?, hk', Nat.lt_trans hik hk'] using this
theorem laid_inv {mask finger moves : Nat} {led plain : Bool} {hs : Array Int} {t : SetTable} {o : Array Nat} (e : SetTable.laid mask finger moves led plain hs = some (t, o)) : TInv t ∧ t.led = led := by
  unfold SetTable.laid at e
  cases q : SetTable.layClean mask hs with
  | none => rw [q] at e; cases e
  | some owner =>
    rw [q] at e
    simp only [Option.bind_eq_bind, Option.bind_some, Option.pure_def, Option.some.injEq, Prod.mk.injEq] at e
    obtain ⟨e1, _⟩ := e
    subst e1
    refine ⟨⟨rise_of_sorted ?_, rfl⟩, rfl⟩
    rw [List.pairwise_map]
    refine List.Pairwise.filterMap (R := (· < ·)) _ (fun a a' hlt b hb b' hb' => ?_) List.pairwise_lt_range
    cases ha : owner.getD a none with
    | none => rw [ha] at hb; simp at hb
    | some z =>
      cases ha' : owner.getD a' none with
      | none => rw [ha'] at hb'; simp at hb'
      | some z' =>
        rw [ha] at hb
        rw [ha'] at hb'
        simp at hb hb'
        subst hb; subst hb'
        exact hlt
theorem relayAll_inv {t : SetTable} (v : TInv t) (es : Array (Int × Value)) (n : Nat) : TInv (relayAll t es n).2.1 ∧ (relayAll t es n).2.1.led = t.led := by
  unfold relayAll
  cases q : t.relaid (es.map (·.1)) n with
  | none => exact ⟨standIn_inv _ _, rfl⟩
  | some to =>
    obtain ⟨t', o⟩ := to
    dsimp only
    split
    · exact laid_inv q
    · exact ⟨standIn_inv _ _, rfl⟩
theorem fresh_inv (f m : Nat) (led : Bool) : TInv (.fresh f m led) := ⟨fun i k _ hk => absurd hk (by simp [SetTable.fresh]), rfl⟩
end DS

set_option Elab.async false
set_option linter.all false
set_option maxRecDepth 100000
set_option maxHeartbeats 4000000
namespace DS
open PySem PySem.Spec PyProof.Rows

def keyV : Value → Int
  | .int k _ => k
  | _ => 0
def keysE (es : Array (Int × Value)) : List Int := es.toList.map fun e => keyV e.2

def SetR (P : Program) (w : World) (h : Heap) (a : Addr) (xs : List Int) : Prop :=
  ∃ o es ep t, h.get? a = some o ∧ o.ExactSet ∧ o.data = .set es ep t ∧ ElemsOf (intKind P w) es.toList ∧ (∀ k, k ∈ xs ↔ k ∈ keysE es) ∧ (keysE es).Nodup ∧ es.size < scanBound ∧ t.fits es.size = true ∧ TInv t ∧ (t.led = true ∨ w.params.followText "set-order" = true)
section
variable {P : Program} {w : World} {h h' : Heap} {a : Addr} {xs : List Int}
theorem SetR.at (x : SetR P w h a xs) (k : ∀ o, h.get? a = some o → h'.get? a = some o) : SetR P w h' a xs := let ⟨o, es, ep, t, ho, r⟩ := x; ⟨o, es, ep, t, k o ho, r⟩
theorem SetR.some (x : SetR P w h a xs) : ∃ o, h.get? a = Option.some o := let ⟨o, _, _, _, ho, _⟩ := x; ⟨o, ho⟩
theorem SetR.typeIs {s : Shared} (x : SetR P w s.heap a xs) : s.TypeIs (.ref a) "set" := let ⟨o, _, _, _, ho, hx, _⟩ := x; ⟨o, ho, hx.1⟩
theorem is_key {k : Int} {v : Value} (h : (intKind P w).is k v = true) : keyV v = k ∧ ∃ t, v = .int k t := by
  obtain ⟨t, rfl⟩ := Value.isInt_shape (k := k) (v := v) h
  exact ⟨rfl, t, rfl⟩
theorem key_is {es : List (Int × Value)} (he : ElemsOf (intKind P w) es) {k : Int} : (∃ e ∈ es, (intKind P w).is k e.2 = true) ↔ k ∈ es.map fun e => keyV e.2 := by
  constructor
  · rintro ⟨e, m, q⟩
    exact List.mem_map.mpr ⟨e, m, (is_key q).1⟩
  · intro m
    obtain ⟨e, me, rfl⟩ := List.mem_map.mp m
    obtain ⟨⟨k', q, _⟩, _⟩ := he e me
    exact ⟨e, me, by rw [(is_key q).1]; exact q⟩
end
section
variable {P : Program} {w : World} {A : Around} {E : Value → Shared → Prop} {s : Shared}
theorem newSetR {Q : Value → Shared → Prop} (h : ∀ o, SetR P w (s.heap.push o) s.heap.objs.size [] → Q (.ref s.heap.objs.size) { s with heap := s.heap.push o }) : wpAny (model P w) A (newSet (.type "set")) Q E s := by
  unfold newSet setsByText
  refine wpAny_bind (wpAny_bind (wpAny_askSetting (wpAny_pure ?_)))
  dsimp only
  simp only [newObj]
  refine wpAny_bind (wpAny_alloc (wpAny_pure (h _ ⟨_, #[], 0, _, Heap.get?_push_size _ rfl, ⟨rfl, rfl, rfl⟩, rfl, fun e he => by simp at he, fun k => by simp [keysE], by simp [keysE], by decide, by rfl, fresh_inv _ _ _, ?_⟩)))
  show (!(w.params.followText "set-order")) = true ∨ _
  cases w.params.followText "set-order" <;> simp
theorem store_R {a : Addr} {o : Obj} {es : Array (Int × Value)} {ep : Nat} {t : SetTable} (ho : s.heap.get? a = some o) (hex : o.ExactSet) (hd : o.data = .set es ep t) {es' : Array (Int × Value)} {t' : SetTable} {xs : List Int} (hel : ElemsOf (intKind P w) es'.toList)
    (hm : ∀ k, k ∈ xs ↔ k ∈ keysE es') (hn : (keysE es').Nodup) (hb : es'.size < scanBound) (hf : t'.fits es'.size = true) (hv : TInv t') (hl : t'.led = true ∨ w.params.followText "set-order" = true) :
    (s.heap.update a (Obj.putSet es' t')).get? a = some { o with data := .set es' (ep + 1) t' } ∧ SetR P w (s.heap.update a (Obj.putSet es' t')) a xs := by
  have hg : (s.heap.update a (Obj.putSet es' t')).get? a = some { o with data := .set es' (ep + 1) t' } := by
    have := Heap.get?_update_self (Obj.putSet es' t') ho (by rw [putSet_of es' t' hd]; rfl)
    rw [putSet_of es' t' hd] at this; exact this
  exact ⟨hg, _, es', ep + 1, t', hg, hex, rfl, hel, hm, hn, hb, hf, hv, hl⟩
theorem addTailR {g : Bool → Sem Unit} (hg : ∀ (b : Bool) (s₁ : Shared) (Q' : Unit → Shared → Prop), Q' () s₁ → wpAny (model P w) A (g b) Q' E s₁)
    {a : Addr} {o : Obj} {es : Array (Int × Value)} {ep : Nat} {t : SetTable} (ho : s.heap.get? a = some o) (hex : o.ExactSet) (hd : o.data = .set es ep t)
    {es1 : Array (Int × Value)} {t2 : SetTable} {xs : List Int} (hel1 : ElemsOf (intKind P w) es1.toList) (hm : ∀ k, k ∈ xs ↔ k ∈ keysE es1) (hn : (keysE es1).Nodup)
    (hb1 : es1.size < scanBound) (hf2 : t2.fits es1.size = true) (hv : TInv t2) (hl : t2.led = true ∨ w.params.followText "set-order" = true) {wasDummy : Bool} {R : Option Bool → Shared → Prop}
    (h : ∀ h', Heap.SameBut a s.heap h' → SetR P w h' a xs → R (some true) { s with heap := h' }) :
    wpAny (model P w) A (do
        storeSet a es1 t2
        if (!wasDummy && t2.tooFull) = true then do
            g (relayAll t2 es1 (SetTable.grown es1.size)).2.2
            storeSet a (relayAll t2 es1 (SetTable.grown es1.size)).1 (relayAll t2 es1 (SetTable.grown es1.size)).2.1
            pure (some true)
          else pure (some true)) R E s := by
  refine wpAny_bind (wpAny_storeSet_of ho hd ?_ (fits_of_scanBound hb1))
  obtain ⟨ho1, hS1⟩ := store_R (P := P) (w := w) ho hex hd hel1 hm hn hb1 hf2 hv hl
  have hsb1 := Heap.SameBut.update s.heap a (Obj.putSet es1 t2)
  split
  · have hp := relayAll_perm t2 es1 (SetTable.grown es1.size)
    have hfr := relayAll_fits t2 es1 (SetTable.grown es1.size)
    obtain ⟨hv2, hl2⟩ := relayAll_inv hv es1 (SetTable.grown es1.size)
    generalize hRl : relayAll t2 es1 (SetTable.grown es1.size) = Rl at hp hfr hv2 hl2 ⊢
    obtain ⟨es2, t3, gave2⟩ := Rl
    dsimp only at hp hfr hv2 hl2 ⊢
    have hel2 : ElemsOf (intKind P w) es2.toList := hel1.perm hp
    have hpk : (keysE es2).Perm (keysE es1) := hp.map _
    have hsz : es2.size = es1.size := by rw [← Array.length_toList, hp.length_eq, Array.length_toList]
    have hb2 : es2.size < scanBound := by rw [hsz]; exact hb1
    refine wpAny_bind (hg _ _ _ ?_)
    refine wpAny_bind (wpAny_storeSet_of ho1 rfl ?_ (fits_of_scanBound hb2))
    obtain ⟨_, hS2⟩ := store_R (s := { s with heap := s.heap.update a (Obj.putSet es1 t2) }) (P := P) (w := w) (xs := xs) ho1 hex rfl hel2 (fun k => (hm k).trans hpk.mem_iff.symm) (hpk.nodup_iff.mpr hn) hb2 hfr hv2 (by rw [hl2]; exact hl)
    exact wpAny_pure (h _ (hsb1.trans (Heap.SameBut.update _ a _)) hS2)
  · exact wpAny_pure (h _ hsb1 hS1)
theorem addR {a : Addr} {xs : List Int} {k : Int} {tk : Tok} {Q : Bool → Shared → Prop} (hS : SetR P w s.heap a xs) (hroom : ∀ es : List Int, es.Nodup → (∀ j, j ∈ es → j ∈ xs) → es.length + 1 < scanBound)
    (h : ∀ h' b, Heap.SameBut a s.heap h' → SetR P w h' a (xs ++ [k]) → Q b { s with heap := h' }) :
    wpAny (model P w) A (setAddHashed a (.int k tk) ((intKind P w).hash k)) Q E s := by
  obtain ⟨o, es, ep, t, ho, hex, hd, hel, hmem, hnd, hb, hf, hv, hl⟩ := hS
  have hkey : (intKind P w).is k (.int k tk) = true := by show Value.isInt k (.int k tk) = true; simp [Value.isInt]
  have hsc : (Value.int k tk).scannable = true := rfl
  have hb1 : es.size + 1 < scanBound := by
    have := hroom (keysE es) hnd fun j hj => (hmem j).mpr hj
    simpa [keysE] using this
  unfold setAddHashed setAddHashedIn
  refine wpAny_holding (wpAny_bind (wpAny_setState_of ho hd hf ?_))
  dsimp only
  rw [byScan_of hsc hb hel]
  simp only [↓reduceIte]
  unfold setAddByScan
  refine wpAny_bind ?_
  refine wpAny_bind (wpAny_rule ?_)
  refine wpAny_bind (wpAny_setScan_of hkey ho hd hf hel ?_)
  cases hr : List.findIdx? (fun e => (intKind P w).is k e.2) es.toList with
  | some j =>
    dsimp only
    obtain ⟨hj, hpj, _⟩ := List.findIdx?_eq_some_iff_getElem.mp hr
    have hk : k ∈ keysE es := (key_is hel).mp ⟨_, List.getElem_mem hj, hpj⟩
    refine wpAny_pure (wpAny_pure ?_)
    have e : s = { s with heap := s.heap } := by cases s; rfl
    rw [e]
    refine h s.heap _ (Heap.SameBut.refl a s.heap) ⟨o, es, ep, t, ho, hex, hd, hel, fun j => ?_, hnd, hb, hf, hv, hl⟩
    rw [List.mem_append, List.mem_singleton, hmem j]
    exact ⟨fun q => q.elim id fun e => e ▸ hk, .inl⟩
  | none =>
    dsimp only
    have hk : k ∉ keysE es := fun hk => by
      obtain ⟨e, he, hp⟩ := (key_is hel).mpr hk
      have := List.findIdx?_eq_none_iff.mp hr e he
      rw [hp] at this; cases this
    have hgw : ∀ (b : Bool) {s₁ : Shared} {Q' : Unit → Shared → Prop}, Q' () s₁ → wpAny (model P w) A (match b with | true => rule "set.scan.the-table-gave-way" | false => pure ()) Q' E s₁ :=
      fun b s₁ Q' hq => by cases b <;> first | exact wpAny_pure hq | exact wpAny_rule hq
    have hperm := layNew_perm t es ((intKind P w).hash k) (.int k tk)
    have hfits := layNew_fits t es ((intKind P w).hash k) (.int k tk)
    obtain ⟨hv1, hl1⟩ := layNew_inv hv es ((intKind P w).hash k) (.int k tk)
    generalize hL : layNew t es ((intKind P w).hash k) (.int k tk) = L at hperm hfits hv1 hl1 ⊢
    obtain ⟨es1, t1, wasDummy, gave⟩ := L
    dsimp only at hperm hfits hv1 hl1 ⊢
    rw [Array.toList_push] at hperm
    have hel1 : ElemsOf (intKind P w) es1.toList := (hel.push hkey hsc).perm hperm
    have hpk : (keysE es1).Perm (keysE es ++ [k]) := by
      have := hperm.map fun e : Int × Value => keyV e.2
      rw [List.map_append] at this
      exact this
    have hm1 : ∀ j, j ∈ xs ++ [k] ↔ j ∈ keysE es1 := fun j => by
      rw [hpk.mem_iff, List.mem_append, List.mem_append, hmem j]
    have hn1 : (keysE es1).Nodup := by
      rw [hpk.nodup_iff, List.nodup_append]
      exact ⟨hnd, by simp, fun x hx y hy e => by
        rw [List.mem_singleton] at hy
        subst hy; subst e
        exact hk hx⟩
    have hb1' : es1.size < scanBound := by rw [← Array.length_toList, hperm.length_eq, List.length_append, Array.length_toList]; simpa using hb1
    refine wpAny_bind (hgw _ ?_)
    have hend : ∀ h', Heap.SameBut a s.heap h' → SetR P w h' a (xs ++ [k]) → Q true { s with heap := h' } := fun h' hsb hS' => h h' true hsb hS'
    split
    · refine wpAny_bind ?_
      rw [hashByValue_scannable 8 hsc]
      refine wpAny_pure ?_
      refine addTailR ?_ ho hex hd hel1 hm1 hn1 hb1' ?_ ?_ ?_ ?_
      · intro b s₁ Q' hq; cases b <;> first | exact wpAny_pure hq | exact wpAny_rule hq
      · split
        · exact hfits
        · exact SetTable.fits_plain_off hfits
      · split
        · exact hv1
        · exact ⟨hv1.rise, hv1.dum⟩
      · split
        · rw [hl1]; exact hl
        · show t1.led = true ∨ _
          rw [hl1]; exact hl
      · intro h' hsb hS'; dsimp only; exact wpAny_pure (hend h' hsb hS')
    · refine wpAny_bind (wpAny_pure ?_)
      simp only [↓reduceIte]
      refine addTailR ?_ ho hex hd hel1 hm1 hn1 hb1' hfits hv1 (by rw [hl1]; exact hl) ?_
      · intro b s₁ Q' hq; cases b <;> first | exact wpAny_pure hq | exact wpAny_rule hq
      · intro h' hsb hS'; dsimp only; exact wpAny_pure (hend h' hsb hS')
end
end DS

set_option Elab.async false
set_option linter.all false
set_option maxRecDepth 100000
set_option maxHeartbeats 4000000
namespace DS
open PySem PySem.Spec PyProof.Rows
theorem nodup_len : ∀ {es xs : List Int}, es.Nodup → (∀ j, j ∈ es → j ∈ xs) → es.length ≤ xs.length
  | [], _, _, _ => Nat.zero_le _
  | e :: es, xs, hn, hs => by
    obtain ⟨h1, h2⟩ := List.nodup_cons.mp hn
    have hm : e ∈ xs := hs e List.mem_cons_self
    have := nodup_len (es := es) (xs := xs.erase e) h2 fun j hj => by
      have hne : j ≠ e := fun z => h1 (z ▸ hj)
      exact (List.mem_erase_of_ne hne).mpr (hs j (List.mem_cons_of_mem _ hj))
    rw [List.length_erase_of_mem hm] at this
    have : 0 < xs.length := List.length_pos_of_mem hm
    simp only [List.length_cons]
    omega
section
variable {prog : Program} {w : World} {A : Around} {E : Value → Shared → Prop} {s : Shared}
theorem addR' {a : Addr} {xs : List Int} {k : Int} {tk : Tok} {Q : Bool → Shared → Prop} (hS : SetR prog w s.heap a xs) (hroom : xs.length + 1 < scanBound)
    (h : ∀ h' b, Heap.SameBut a s.heap h' → SetR prog w h' a (xs ++ [k]) → Q b { s with heap := h' }) :
    wpAny (model prog w) A (setAddHashed a (.int k tk) ((intKind prog w).hash k)) Q E s :=
  addR hS (fun es hn hs => by have := nodup_len hn hs; omega) h

theorem call_addR {a : Addr} {xs : List Int} {k : Int} {tk : Tok} {Q : Value → Shared → Prop} (hS : SetR prog w s.heap a xs) (hroom : xs.length + 1 < scanBound)
    (h : ∀ h', Heap.SameBut a s.heap h' → SetR prog w h' a (xs ++ [k]) → Q .none { s with heap := h', toks := s.toks + 1 }) :
    wpAny (model prog w) A (call (.builtin "set.add") [.ref a, .int k tk]) Q E s := by
  refine wpAny_call_entry PySem.F.slot_set_add hS.typeIs PySem.F.entry_set_add ?_ (PySem.F.args_set_add_2 _ _)
  unfold Builtin.«set.add» Builtin.Frozenset.oneOther
  simp only [List.isEmpty_nil, bind_assoc]
  unfold Builtin.Frozenset.addrOf setAdd
  refine wpAny_bind (wpAny_pure ?_)
  try dsimp only
  refine wpAny_bind (wpAny_pure ?_)
  try dsimp only
  refine wpAny_bind ?_
  refine wpAny_holding ?_
  refine wpAny_bind ((intKind prog w).pyHash (k := k) (intKind_is _ _ _ _) ?_)
  refine addR' (s := { s with toks := s.toks + 1 }) hS hroom fun h' b hsb hS' => ?_
  show wpAny _ _ (ret Value.none) _ _ _
  exact wpAny_pure ⟨_, rfl, h h' hsb hS'⟩
theorem code_newR (a : Value) {Q₁ : Value → Shared → Prop}
    (h : ∀ led : Bool, (led = true ∨ w.params.followText "set-order" = true) → Q₁ (.ref s.heap.objs.size) { s with heap := s.heap.push { cls := .type "set", dict := none, data := .set #[] 0 (.fresh 0 0 led) } }) :
    codeAny (model prog w) A (.call (.builtin "set.__new__") ⟨[.type "set", a], []⟩) (wants Q₁ E) s := by
  refine codeAny_of_tree ?_
  show wpAny _ A.in1 (do checkBuiltinCall "set.__new__" ⟨[.type "set", a], []⟩; again (.builtin "set.__new__" ⟨[.type "set", a], []⟩)) _ _ s
  refine wpAny_bind (wpAny_of_eq (PySem.F.newCall_set_1 a) (wpAny_pure ⟨plainId_quiet PySem.F.plain_set_new _, codeAny_builtin PySem.F.entry_set_new ?_⟩))
  rw [Around.under_plainId PySem.F.plain_set_new _]
  unfold Builtin.«set.__new__» Builtin.Frozenset.newClass
  have hsub := sub_set_self
  obtain ⟨hp, g, d, tk, os⟩ := s
  dsimp only
  wp_walk
  refine wpAny_askSetting (wpAny_pure ?_)
  dsimp only
  simp only [newObj]
  refine wpAny_bind (wpAny_alloc (wpAny_pure ?_))
  refine wpAny_pure (h _ ?_)
  show (!(w.params.followText "set-order")) = true ∨ _
  cases w.params.followText "set-order" <;> simp
end
section
variable {prog : Program} {w : World} {A : Around} {R : Result → Shared → Prop} {I : Addr} {fp wr : List Addr} {G : Array GenState → Array GenState → Prop} {n : Nat} {P : Nat → Value → Prop} {St : Nat → Shared → Prop}
theorem take_snoc {ns : List Int} {i : Nat} (h : i < ns.length) : ns.take i ++ [ns.getD i 0] = ns.take (i + 1) := by
  rw [List.take_succ]
  simp [List.getD_eq_getElem?_getD, h]
theorem update_loopR (W : WalksS prog w A.in1 I fp wr G n P St) (S : Addr) (hSf : S ∉ fp)
    (ns : List Int) (hlen : ns.length = n) (hval : ∀ i v, P i v → ∃ t, v = .int (ns.getD i 0) t) (hb : n + 1 < scanBound) :
    ∀ (k i : Nat) (s : Shared), n - i = k → i ≤ n → St i s → SetR prog w s.heap S (ns.take i) →
      (∀ s', Moved (S :: wr) G s s' → SetR prog w s'.heap S ns → R (.ok (.ret .none)) s') →
      codeAny (model prog w) A (.builtin "set.update.loop" ⟨[.ref S, .ref I], []⟩) R s := by
  have hSw : S ∉ wr := fun h => hSf (W.sub _ h)
  have hsub : ∀ b ∈ wr, b ∈ S :: wr := fun b hb => List.mem_cons_of_mem _ hb
  intro k
  induction k with
  | zero =>
    intro i s hk hi hst hS hR
    have hin : i = n := by omega
    subst hin
    refine codeAny_builtin PyProof.Rows.F.entry_set_update_loop ?_
    rw [Around.under_plainId PyProof.Rows.F.plain_set_update_loop _]
    show wpAny _ A.in1 (pyNext (.ref I) >>= _) _ _ s
    refine wpAny_bind (W.done s _ _ hst fun s' hm => ?_)
    show wpAny _ A.in1 (ret Value.none) _ _ s'
    rw [← hlen, List.take_length] at hS
    exact wpAny_pure (hR s' (hm.mono hsub) (hS.at fun o e => hm.heap S _ hSw e))
  | succ k ih =>
    intro i s hk hi hst hS hR
    have hlt : i < n := by omega
    refine codeAny_builtin PyProof.Rows.F.entry_set_update_loop ?_
    rw [Around.under_plainId PyProof.Rows.F.plain_set_update_loop _]
    show wpAny _ A.in1 (pyNext (.ref I) >>= _) _ _ s
    refine wpAny_bind (W.item i s _ _ hlt hst fun v s' hP hst' hm => ?_)
    obtain ⟨t, rfl⟩ := hval i v hP
    have hS' := hS.at fun o e => hm.heap S _ hSw e
    show wpAny _ A.in1 (holding [Value.int (ns.getD i 0) t] (setAdd S (.int (ns.getD i 0) t)) >>= _) _ _ s'
    refine wpAny_bind (wpAny_holding ?_)
    unfold setAdd
    refine wpAny_holding ?_
    refine wpAny_bind ((intKind prog w).pyHash (k := ns.getD i 0) (intKind_is _ _ _ _) ?_)
    refine addR' (s := { s' with toks := s'.toks + 1 }) hS' (by rw [List.length_take]; omega) fun h' b hsb hS2 => ?_
    rw [take_snoc (by rw [hlen]; exact hlt)] at hS2
    refine wpAny_pure ⟨plainId_quiet PyProof.Rows.F.plain_set_update_loop _, ih (i + 1) _ (by omega) hlt (W.frame _ s' _ _ hst' (Nat.le_succ _) fun b hb o e => ?_) hS2 fun s'' hm'' hS'' => ?_⟩
    · rw [hsb.2 b (fun h : b = S => hSf (by rw [← h]; exact hb))]; exact e
    · refine hR s'' (Moved.trans W.gtrans ((hm.mono hsub).then_heap (Nat.le_succ _) fun b o hb e => ?_) hm'') hS''
      rw [hsb.2 b (fun h : b = S => hb (by rw [h]; exact List.mem_cons_self))]; exact e
end
section
variable {prog : Program} {w : World} {A : Around} {E : Value → Shared → Prop} {s : Shared}
set_option maxHeartbeats 6400000 in
theorem call_setR {l : Addr} {items : Array Value} {ns : List Int} {Q : Value → Shared → Prop}
    (hh : A.handled = none) (hl : s.heap.IsList l items) (hi : PyProof.Rows.IntsAre items.toList ns) (hb : items.size + 1 < scanBound)
    (h : ∀ (h' : Heap) (tk : Nat), SetR prog w h' s.heap.objs.size ns →
      (∀ b o, b < s.heap.objs.size → s.heap.get? b = some o → h'.get? b = some o) → Q (.ref s.heap.objs.size) { s with heap := h', toks := tk }) :
    wpAny (model prog w) A (call (.type "set") [.ref l]) Q E s := by
  obtain ⟨c, tl, hmro⟩ := PySem.F.called_set.mro
  have hmade := PySem.F.called_set.made
  have hsub := PySem.F.called_set.sub
  refine wpAny_call (codeAny_of_tree ?_)
  show wpAny _ _ (callAny (.type "set") _) _ _ _
  refine wpAny_pure ⟨Code.quiet_builtin _ (by decide +kernel), codeAny_builtin PySem.F.entry_type_call ?_⟩
  rw [Around.under_plain (weight_type_call_type "set" [.ref l] []) rfl]
  have h1 := PySem.F.called_set.notType
  have h2 := PySem.F.called_set.canCreate
  have hct := PySem.F.typeCall_set_1 (.ref l)
  repeat (any_goals (first | assumption | wp_step))
  refine codeAny_mono (code_newR (.ref l) (E := E) (Q₁ := fun obj s₁ => ∃ led : Bool, (led = true ∨ w.params.followText "set-order" = true) ∧ obj = .ref s.heap.objs.size ∧ s₁ = { s with heap := s.heap.push { cls := .type "set", dict := none, data := .set #[] 0 (.fresh 0 0 led) } }) fun led hled => ⟨led, hled, rfl, rfl⟩) fun r s₁ hr => ?_
  cases r with
  | error e => exact hr
  | ok fl =>
    cases fl with
    | ret obj =>
      obtain ⟨led, hled, rfl, rfl⟩ := hr
      have hS : (s.heap.push { cls := .type "set", dict := none, data := .set #[] 0 (.fresh 0 0 led) }).get? s.heap.objs.size = some { cls := .type "set", dict := none, data := .set #[] 0 (.fresh 0 0 led) } := Heap.get?_push_size _ rfl
      have hT : Shared.TypeIs { s with heap := s.heap.push { cls := .type "set", dict := none, data := .set #[] 0 (.fresh 0 0 led) } } (.ref s.heap.objs.size) "set" := ⟨_, hS, rfl⟩
      have hli := PySem.F.called_set.init.lookup
      have hbi := PySem.F.called_set.init.bind (.ref s.heap.objs.size)
      repeat (any_goals (first | assumption | wp_step))
      refine codeAny_mono (codeAny_call_builtin (R := wants (fun r s₂ => r = .none ∧ ∃ h' tk, s₂ = { s with heap := h', toks := tk } ∧
          SetR prog w h' s.heap.objs.size ns ∧
          (∀ b o, b < s.heap.objs.size → s.heap.get? b = some o → h'.get? b = some o)) E) PySem.F.called_set.init.plain PySem.F.entry_set_init (check_set_init_1 hT ?_)) fun r₂ s₂ hr₂ => ?_
      · obtain ⟨ol, hol, hcl, nl, hdl⟩ := hl
        obtain ⟨ocls, odict, odata, oslots⟩ := ol
        simp only at hcl hdl
        subst hcl; subst hdl
        have hol' : (s.heap.push { cls := .type "set", dict := none, data := .set #[] 0 (.fresh 0 0 led) }).get? l = some { cls := .type "list", dict := odict, data := .seq items nl, slots := oslots } := Heap.get?_push_of_some _ hol
        have hsls := PySem.F.sub_list_set
        have hslf := PySem.F.sub_list_frozenset
        have hne : (Value.type "list" == Value.type "dict") = false := by decide
        have hl1 : (s.heap.push { cls := .type "set", dict := none, data := .set #[] 0 (.fresh 0 0 led) }).IsList l items := ⟨_, hol', rfl, nl, rfl⟩
        unfold Builtin.«set.__init__» noKeywords Builtin.Frozenset.updateFrom
        generalize hPI : pyIter = PI
        wp_walk
        subst hPI
        refine wpAny_pyIter_list hl1 ?_
        refine wpAny_bind (wpAny_runValue ?_)
        have hlS : l < s.heap.objs.size := Heap.lt_size hol
        have hh3 : A.in1.in1.in1.handled = none := by simp [hh]
        have hneI : l ≠ (s.heap.push { cls := .type "set", dict := none, data := .set #[] 0 (.fresh 0 0 led) }).objs.size := by
          rw [Heap.size_push]; exact Nat.ne_of_lt (Nat.lt_succ_of_lt hlS)
        have hSf : s.heap.objs.size ∉ [(s.heap.push { cls := .type "set", dict := none, data := .set #[] 0 (.fresh 0 0 led) }).objs.size, l] := by
          rw [Heap.size_push]; simp only [List.mem_cons, List.mem_singleton, List.not_mem_nil, or_false, not_or]
          exact ⟨Nat.ne_of_lt (Nat.lt_succ_self _), Nat.ne_of_gt hlS⟩
        have hval : ∀ (i : Nat) (v : Value), items[i]? = some v → ∃ t, v = .int (ns.getD i 0) t := fun i v hv =>
          PyProof.Rows.IntsAre.int_at hi i v (by rw [Array.getElem?_toList]; exact hv)
        refine update_loopR ((Walks.list hh3 _ l hneI items).toS) s.heap.objs.size
          hSf ns (by rw [← hi.length, Array.length_toList]) hval hb (items.size - 0) 0 _ (by omega) (Nat.zero_le _)
          ⟨⟨_, Heap.get?_push_size _ rfl, rfl, rfl⟩, (hl1.push _)⟩ ?hS0 ?hR
        case hS0 =>
          have hget : ((s.heap.push { cls := .type "set", dict := none, data := .set #[] 0 (.fresh 0 0 led) }).push { cls := .type "list_iterator", data := .fields #[.ref l, .int 0 0] }).get? s.heap.objs.size
              = some { cls := .type "set", dict := none, data := .set #[] 0 (.fresh 0 0 led) } := Heap.get?_push_of_some _ hS
          exact ⟨_, #[], 0, _, hget, ⟨rfl, rfl, rfl⟩, rfl, fun e he => by simp at he, fun k => by simp [keysE], by simp [keysE], by decide, by rfl, fresh_inv _ _ _, hled⟩
        case hR =>
          intro s' hm hS'
          obtain ⟨h', g', d', tk', os'⟩ := s'
          have eg : g' = s.gens := hm.gens
          have ed : d' = s.drawn := hm.drawn
          have eo : os' = s.os := hm.os
          subst eg; subst ed; subst eo
          show wpAny _ _ _ _ _ _
          refine wpAny_pure ?_
          show wpAny _ _ (ret Value.none) _ _ _
          refine wpAny_pure ⟨rfl, h', tk', rfl, hS', fun b o hb e => ?_⟩
          have hb1 : b ≠ s.heap.objs.size := Nat.ne_of_lt hb
          have hb2 : b ≠ (s.heap.push { cls := .type "set", dict := none, data := .set #[] 0 (.fresh 0 0 led) }).objs.size := by
            rw [Heap.size_push]; exact Nat.ne_of_lt (Nat.lt_succ_of_lt hb)
          exact hm.heap b o (by simp only [List.mem_cons, List.mem_singleton, List.not_mem_nil, or_false, not_or]; exact ⟨hb1, hb2⟩) (Heap.get?_push_of_some _ (Heap.get?_push_of_some _ e))
      · cases r₂ with
        | error e => exact hr₂
        | ok fl₂ =>
          cases fl₂ with
          | ret r =>
            obtain ⟨rfl, h', tk, rfl, hS', hk'⟩ := hr₂
            repeat (any_goals (first | assumption | wp_step))
            exact h _ _ hS' hk'
          | _ => exact hr₂.elim
    | _ => exact hr.elim
end
end DS

set_option Elab.async false
set_option linter.all false
set_option maxRecDepth 100000
set_option maxHeartbeats 4000000
namespace DS
open PySem PySem.Spec PyProof.Rows PySem.W

theorem erase_perm {α : Type} : ∀ {l : List α} {i : Nat} (h : i < l.length), (l[i] :: l.eraseIdx i).Perm l
  | a :: r, 0, h => .refl _
  | a :: r, i + 1, h => by
    have hi : i < r.length := by simpa using h
    have ih := erase_perm (l := r) (i := i) hi
    show (r[i] :: a :: r.eraseIdx i).Perm (a :: r)
    exact (List.Perm.swap a (r[i]) (r.eraseIdx i)).trans (ih.cons a)
theorem pick_go {α : Type} (next : Nat → Nat) : ∀ (fuel k : Nat) (left : List α) (out : Array α), fuel = left.length → (pickOrder.go next fuel k left out).toList.Perm (out.toList ++ left) := by
  intro fuel
  induction fuel with
  | zero =>
    intro k left out e
    have : left = [] := List.length_eq_zero_iff.mp e.symm
    subst this
    unfold pickOrder.go
    simp
  | succ n ih =>
    intro k left out e
    unfold pickOrder.go
    have hlt : next k % left.length < left.length := Nat.mod_lt _ (by omega)
    rw [List.getElem?_eq_getElem hlt]
    dsimp only
    refine (ih (k + 1) _ _ (by rw [List.length_eraseIdx_of_lt hlt]; omega)).trans ?_
    rw [Array.toList_push, List.append_assoc]
    refine List.Perm.append_left _ ?_
    show (left[next k % left.length] :: left.eraseIdx (next k % left.length)).Perm left
    exact erase_perm hlt
theorem pickOrder_perm {α : Type} (next : Nat → Nat) (xs : Array α) : (pickOrder next xs).toList.Perm xs.toList := by
  unfold pickOrder
  simpa using pick_go next xs.size 0 xs.toList #[] (by simp)
section
variable {prog : Program} {w : World} {A : Around} {E : Value → Shared → Prop} {s : Shared}
theorem choose_any {src : Source} {n : Nat} {Q : Nat → Shared → Prop} (hn : n ≠ 0) (h : ∀ i d, i < n → Q i { s with drawn := d }) : wpAny (model prog w) A (choose src n) Q E s := fun Γ p _ => ⟨hn, h _ _ (Nat.mod_lt _ (Nat.pos_of_ne_zero hn))⟩
theorem drawOrder_any {α : Type} : ∀ (n : Nat) (xs : List α) (s : Shared) (Q : List α → Shared → Prop), n = xs.length → (∀ ys d, ys.Perm xs → Q ys { s with drawn := d }) → wpAny (model prog w) A (drawOrder n xs) Q E s := by
  intro n
  induction n with
  | zero =>
    intro xs s Q e h
    have : xs = [] := List.length_eq_zero_iff.mp e.symm
    subst this
    unfold drawOrder
    exact wpAny_pure (h [] s.drawn .nil)
  | succ n ih =>
    intro xs s Q e h
    cases xs with
    | nil => simp at e
    | cons x r =>
      unfold drawOrder
      refine wpAny_bind (choose_any (by simp) fun i d hi => ?_)
      rw [List.getElem?_eq_getElem hi]
      dsimp only
      refine wpAny_bind (ih _ _ _ (by rw [List.length_eraseIdx_of_lt hi]; omega) fun ys d' hp => ?_)
      exact wpAny_pure (h _ d' ((hp.cons _).trans (erase_perm hi)))
end

theorem slot_next : Slot "set_iterator" "__next__" "set_iterator.__next__" :=
  .of (owner := "set_iterator") (n := "__next__") (by rw [typeLookup_type, builtinLookup_eq_fast]; kernel_rfl) (by decide +kernel) (by decide +kernel) (by decide +kernel)
    (by first | exact .inl (by decide +kernel) | exact .inr (by decide +kernel)) (by rw [isSubtype_type]; kernel_rfl)
theorem entry_next : entryFor table "set_iterator.__next__" = some Builtin.«set_iterator.__next__» := entryFor_of_tree (by kernel_rfl)
theorem args_next (a : Value) : argsOk "set_iterator.__next__" ⟨[a], []⟩ := by
  unfold argsOk; kernel_rfl

theorem entry_iter : entryFor table "set.__iter__" = some Builtin.«frozenset.__iter__» :=
  entryFor_alias (id' := "frozenset.__iter__") (by kernel_rfl) rfl (by decide +kernel) (by kernel_rfl)

def IsSI (h : Heap) (I a : Addr) (first : Value) (i n ep : Nat) : Prop := ∃ o, h.get? I = some o ∧ o.cls = .type "set_iterator" ∧ o.data = .fields #[first, .int i 0, .ref a, .int n 0, .int ep 0]
theorem IsSI.typeIs {s : Shared} {I a : Addr} {f : Value} {i n ep : Nat} (x : IsSI s.heap I a f i n ep) : s.TypeIs (.ref I) "set_iterator" := let ⟨o, ho, hc, _⟩ := x; ⟨o, ho, hc⟩
theorem IsSI.at {h h' : Heap} {I a : Addr} {f : Value} {i n ep : Nat} (x : IsSI h I a f i n ep) (k : ∀ o, h.get? I = some o → h'.get? I = some o) : IsSI h' I a f i n ep := let ⟨o, ho, r⟩ := x; ⟨o, k o ho, r⟩

def IsSet (h : Heap) (a : Addr) (es : Array (Int × Value)) (ep : Nat) (t : SetTable) : Prop := ∃ o, h.get? a = some o ∧ o.ExactSet ∧ o.data = .set es ep t ∧ t.fits es.size = true
theorem IsSet.at {h h' : Heap} {a : Addr} {es : Array (Int × Value)} {ep : Nat} {t : SetTable} (x : IsSet h a es ep t) (k : ∀ o, h.get? a = some o → h'.get? a = some o) : IsSet h' a es ep t := let ⟨o, ho, r⟩ := x; ⟨o, k o ho, r⟩
section
variable {prog : Program} {w : World} {A : Around} {E : Value → Shared → Prop} {s : Shared} {I a : Addr} {es : Array (Int × Value)} {ep : Nat} {t : SetTable}

theorem setNext_text {slot i : Nat} {Q : Option (Value × Nat) → Shared → Prop} (hb : w.params.followText "set-order" = true) (hs : IsSet s.heap a es ep t) (h : Q (((pickOrder (w.params.setOrder a ep) es)[i]?).map fun e => (e.2, slot)) s) :
    wpAny (model prog w) A (setNext a slot i ep) Q E s := by
  obtain ⟨o, ho, hx, hd, hf⟩ := hs
  unfold setNext
  refine wpAny_bind (wpAny_setState_of ho hd hf ?_)
  dsimp only
  unfold setsByText
  refine wpAny_bind (wpAny_bind (wpAny_askSetting (wpAny_pure ?_)))
  show wpAny _ _ (if (w.params.followText "set-order") = true then _ else _) _ _ _
  rw [if_pos hb]
  rw [if_neg (by simp)]
  refine wpAny_bind ?_
  unfold setWalk
  refine wpAny_bind (wpAny_setState_of ho hd hf ?_)
  dsimp only
  unfold setsByText
  refine wpAny_bind (wpAny_bind (wpAny_askSetting (wpAny_pure ?_)))
  show wpAny _ _ (if (w.params.followText "set-order") = true then _ else _) _ _ _
  rw [if_pos hb]
  refine wpAny_bind (wpAny_askSetting (wpAny_pure ?_))
  exact wpAny_pure h
theorem setNext_place {slot i : Nat} {Q : Option (Value × Nat) → Shared → Prop} (hb : w.params.followText "set-order" = false) (hl : t.led = true) (hp : (!t.plain && decide (es.size > 1)) = false) (hs : IsSet s.heap a es ep t)
    (h : Q (match es[SetTable.below t.place slot]?, t.place[SetTable.below t.place slot]? with | some (_, x), some j => some (x, j + 1) | _, _ => none) s) : wpAny (model prog w) A (setNext a slot i ep) Q E s := by
  obtain ⟨o, ho, hx, hd, hf⟩ := hs
  unfold setNext
  refine wpAny_bind (wpAny_setState_of ho hd hf ?_)
  dsimp only
  unfold setsByText
  refine wpAny_bind (wpAny_bind (wpAny_askSetting (wpAny_pure ?_)))
  show wpAny _ _ (if (w.params.followText "set-order") = true then _ else _) _ _ _
  rw [if_neg (by rw [hb]; exact Bool.false_ne_true)]
  refine wpAny_ite_split (fun z => absurd (show (!t.plain && decide (es.size > 1)) = true from z) (by rw [hp]; exact Bool.false_ne_true)) (fun _ => ?_)
  refine wpAny_bind ?_
  show wpAny _ _ (if (!t.led && !es.isEmpty) = true then _ else _) _ _ _
  rw [if_neg (by rw [hl]; exact Bool.false_ne_true)]
  exact wpAny_pure (wpAny_pure h)
theorem mapF {o : Obj} {vs : Array Value} {i : Nat} {x : Value} (hd : o.data = .fields vs) : (Obj.mapFields (·.setIfInBounds i x) o).data = .fields (vs.setIfInBounds i x) := Obj.data_mapFields hd _

theorem next_slot {slot slot' i n : Nat} {x : Value} {Q : Option Value → Shared → Prop} (hit : IsSI s.heap I a (.int slot 0) i n ep) (hs : IsSet s.heap a es ep t) (hn : es.size = n)
    (hx : ∀ (A : Around) (E : Value → Shared → Prop) (s : Shared) (Q : Option (Value × Nat) → Shared → Prop), IsSet s.heap a es ep t → Q (some (x, slot')) s → wpAny (model prog w) A (setNext a slot i ep) Q E s)
    (hQ : ∀ h', IsSI h' I a (.int slot' 0) (i + 1) n ep → Heap.ExtBut I s.heap h' → Q (some x) { s with heap := h' }) : wpAny (model prog w) A (pyNext (.ref I)) Q E s := by
  obtain ⟨o, ho, hc, hd⟩ := id hit
  obtain ⟨os, hos, hxs, hds, hfs⟩ := id hs
  unfold pyNext
  refine wpAny_bind (wpAny_attempt (wpAny_callSpecial?_slot (name := Str.ofString "__next__") hit.typeIs slot_next (wpAny_call_entry slot_next hit.typeIs entry_next ?_ (args_next _))))
  unfold Builtin.«set_iterator.__next__»
  refine wpAny_bind (wpAny_pure ?_)
  dsimp only
  refine wpAny_bind (wpAny_fieldsOf ho hd ?_)
  dsimp only
  refine wpAny_bind (wpAny_setEntries_of hos hds hfs ?_)
  rw [hn]
  rw [if_neg (by simp)]
  simp only [Int.toNat_natCast]
  refine wpAny_bind (hx _ _ _ _ (by simpa using hs) ?_)
  dsimp only
  refine wpAny_bind (wpAny_setField ho hd (by simp) ?_)
  have e1 := Heap.get?_update_self (Obj.mapFields (·.setIfInBounds 0 (rawInt slot'))) ho (Obj.isFreed_of_fields (mapF hd))
  refine wpAny_bind (wpAny_setField e1 (mapF hd) (by simp) ?_)
  have e2 := Heap.get?_update_self (Obj.mapFields (·.setIfInBounds 1 (rawInt ((i : Int) + 1)))) e1 (Obj.isFreed_of_fields (mapF (mapF hd)))
  refine wpAny_pure ⟨x, rfl, wpAny_pure (hQ _ ⟨_, e2, ?_, ?_⟩ ?_)⟩
  · rw [Obj.cls_mapFields, Obj.cls_mapFields]; exact hc
  · rw [mapF (mapF hd)]
    simp [rawInt]
  · exact ((Heap.SameBut.update ..).trans (Heap.SameBut.update ..)).extBut
theorem next_end {slot i n : Nat} {Q : Option Value → Shared → Prop} (hh : A.handled = none) (hit : IsSI s.heap I a (.int slot 0) i n ep) (hs : IsSet s.heap a es ep t) (hn : es.size = n)
    (hx : ∀ (A : Around) (E : Value → Shared → Prop) (s : Shared) (Q : Option (Value × Nat) → Shared → Prop), IsSet s.heap a es ep t → Q none s → wpAny (model prog w) A (setNext a slot i ep) Q E s)
    (hQ : ∀ h', Heap.ExtBut I s.heap h' → Q none { s with heap := h' }) : wpAny (model prog w) A (pyNext (.ref I)) Q E s := by
  obtain ⟨o, ho, hc, hd⟩ := id hit
  obtain ⟨os, hos, hxs, hds, hfs⟩ := id hs
  unfold pyNext
  refine wpAny_bind (wpAny_attempt (wpAny_callSpecial?_slot (name := Str.ofString "__next__") hit.typeIs slot_next (wpAny_call_entry slot_next hit.typeIs entry_next ?_ (args_next _))))
  unfold Builtin.«set_iterator.__next__»
  refine wpAny_bind (wpAny_pure ?_)
  dsimp only
  refine wpAny_bind (wpAny_fieldsOf ho hd ?_)
  dsimp only
  refine wpAny_bind (wpAny_setEntries_of hos hds hfs ?_)
  rw [hn]
  rw [if_neg (by simp)]
  simp only [Int.toNat_natCast]
  refine wpAny_bind (hx _ _ _ _ (by simpa using hs) ?_)
  dsimp only
  refine wpAny_bind (wpAny_setField ho hd (by simp) ?_)
  show wpAny _ _ (newExc (.type "StopIteration") [] >>= _) _ _ _
  refine wpAny_bind ?_
  simp only [newExc, newTuple]
  refine wpAny_bind (wpAny_newObj_type ?_ (by size_fits))
  refine wpAny_bind (m := firstArgMember _ _) (wpAny_of_eq (a := Value.none) (by first | rfl | (simp only [firstArgMember]; rfl)) ?_)
  refine wpAny_newObj_type ?_ (by size_fits)
  simp only [raiseNew]
  refine wpAny_bind (wpAny_handled ?_)
  first | rw [show A.in1.handled = none from hh] | rw [hh]
  refine wpAny_bind (wpAny_pure (wpAny_throw ?_))
  refine wpAny_bind (wpAny_isInstance (T := "StopIteration") (b := true) ⟨_, Heap.get?_push_size _ rfl, rfl⟩ isSubtype_stop ?_)
  exact wpAny_pure (hQ _ (((Heap.SameBut.update ..).extBut.push _).push _))
end
end DS

set_option Elab.async false
set_option linter.all false
set_option maxRecDepth 100000
set_option maxHeartbeats 4000000
namespace DS
open PySem PySem.Spec PyProof.Rows PySem.W
section
variable {prog : Program} {w : World} {A : Around} {E : Value → Shared → Prop} {s : Shared} {I a T : Addr} {es : Array (Int × Value)} {ep : Nat} {t : SetTable}

theorem next_drawn {i n p : Nat} {ps : Array Value} {x : Int × Value} {Q : Option Value → Shared → Prop} (hit : IsSI s.heap I a (.ref T) i n ep) (hs : IsSet s.heap a es ep t) (hn : es.size = n) (hT : s.heap.IsTuple T ps) (hp : ps[i]? = some (.int p 0)) (hx : es[p]? = some x)
    (hQ : ∀ h', IsSI h' I a (.ref T) (i + 1) n ep → Heap.ExtBut I s.heap h' → Q (some x.2) { s with heap := h' }) : wpAny (model prog w) A (pyNext (.ref I)) Q E s := by
  obtain ⟨o, ho, hc, hd⟩ := id hit
  obtain ⟨os, hos, hxs, hds, hfs⟩ := id hs
  obtain ⟨oT, hoT, hcT, nT, hdT⟩ := id hT
  unfold pyNext
  refine wpAny_bind (wpAny_attempt (wpAny_callSpecial?_slot (name := Str.ofString "__next__") hit.typeIs slot_next (wpAny_call_entry slot_next hit.typeIs entry_next ?_ (args_next _))))
  unfold Builtin.«set_iterator.__next__»
  refine wpAny_bind (wpAny_pure ?_)
  dsimp only
  refine wpAny_bind (wpAny_fieldsOf ho hd ?_)
  dsimp only
  refine wpAny_bind (wpAny_setEntries_of hos hds hfs ?_)
  rw [hn]
  rw [if_neg (by simp)]
  try dsimp only
  refine wpAny_bind (wpAny_seqItems hoT hdT ?_)
  simp only [Int.toNat_natCast, hp]
  refine wpAny_bind ?_
  unfold setNextDrawn
  refine wpAny_bind (wpAny_setState_of hos hds hfs ?_)
  dsimp only
  rw [if_neg (by simp)]
  rw [hx]
  dsimp only
  refine wpAny_pure ?_
  refine wpAny_bind (wpAny_setField ho hd (by simp) ?_)
  have e1 := Heap.get?_update_self (Obj.mapFields (·.setIfInBounds 1 (rawInt ((i : Int) + 1)))) ho (Obj.isFreed_of_fields (mapF hd))
  refine wpAny_pure ⟨x.2, rfl, wpAny_pure (hQ _ ⟨_, e1, ?_, ?_⟩ ?_)⟩
  · rw [Obj.cls_mapFields]; exact hc
  · rw [mapF hd]
    simp [rawInt]
  · exact (Heap.SameBut.update ..).extBut
theorem next_drawn_end {i n : Nat} {ps : Array Value} {Q : Option Value → Shared → Prop} (hh : A.handled = none) (hit : IsSI s.heap I a (.ref T) i n ep) (hs : IsSet s.heap a es ep t) (hn : es.size = n) (hT : s.heap.IsTuple T ps) (hp : ps[i]? = none)
    (hQ : ∀ h', Heap.ExtBut I s.heap h' → Q none { s with heap := h' }) : wpAny (model prog w) A (pyNext (.ref I)) Q E s := by
  obtain ⟨o, ho, hc, hd⟩ := id hit
  obtain ⟨os, hos, hxs, hds, hfs⟩ := id hs
  obtain ⟨oT, hoT, hcT, nT, hdT⟩ := id hT
  unfold pyNext
  refine wpAny_bind (wpAny_attempt (wpAny_callSpecial?_slot (name := Str.ofString "__next__") hit.typeIs slot_next (wpAny_call_entry slot_next hit.typeIs entry_next ?_ (args_next _))))
  unfold Builtin.«set_iterator.__next__»
  refine wpAny_bind (wpAny_pure ?_)
  dsimp only
  refine wpAny_bind (wpAny_fieldsOf ho hd ?_)
  dsimp only
  refine wpAny_bind (wpAny_setEntries_of hos hds hfs ?_)
  rw [hn]
  rw [if_neg (by simp)]
  try dsimp only
  refine wpAny_bind (wpAny_seqItems hoT hdT ?_)
  simp only [Int.toNat_natCast, hp]
  refine wpAny_bind (wpAny_setField ho hd (by simp) ?_)
  have e1 := Heap.get?_update_self (Obj.mapFields (·.setIfInBounds 0 (rawInt 0))) ho (Obj.isFreed_of_fields (mapF hd))
  refine wpAny_bind (wpAny_setField e1 (mapF hd) (by simp) ?_)
  show wpAny _ _ (newExc (.type "StopIteration") [] >>= _) _ _ _
  refine wpAny_bind ?_
  simp only [newExc, newTuple]
  refine wpAny_bind (wpAny_newObj_type ?_ (by size_fits))
  refine wpAny_bind (m := firstArgMember _ _) (wpAny_of_eq (a := Value.none) (by first | rfl | (simp only [firstArgMember]; rfl)) ?_)
  refine wpAny_newObj_type ?_ (by size_fits)
  simp only [raiseNew]
  refine wpAny_bind (wpAny_handled ?_)
  first | rw [show A.in1.handled = none from hh] | rw [hh]
  refine wpAny_bind (wpAny_pure (wpAny_throw ?_))
  refine wpAny_bind (wpAny_isInstance (T := "StopIteration") (b := true) ⟨_, Heap.get?_push_size _ rfl, rfl⟩ isSubtype_stop ?_)
  exact wpAny_pure (hQ _ ((((Heap.SameBut.update ..).trans (Heap.SameBut.update ..)).extBut.push _).push _))

theorem slot_si_iter : Slot "set_iterator" "__iter__" "set_iterator.__iter__" :=
  .of (owner := "set_iterator") (n := "__iter__") (by rw [typeLookup_type, builtinLookup_eq_fast]; kernel_rfl) (by decide +kernel) (by decide +kernel) (by decide +kernel)
    (by first | exact .inl (by decide +kernel) | exact .inr (by decide +kernel)) (by rw [isSubtype_type]; kernel_rfl)
theorem entry_si_iter : entryFor table "set_iterator.__iter__" = some Builtin.«dict_keyiterator.__iter__» :=
  entryFor_alias (id' := "dict_keyiterator.__iter__") (by kernel_rfl) rfl (by decide +kernel) (by kernel_rfl)
theorem args_si_iter (a : Value) : argsOk "set_iterator.__iter__" ⟨[a], []⟩ := by unfold argsOk; kernel_rfl
theorem pyIter_si {f : Value} {i n : Nat} {Q : Value → Shared → Prop} (hit : IsSI s.heap I a f i n ep) (hQ : Q (.ref I) s) : wpAny (model prog w) A (pyIter (.ref I)) Q E s := by
  refine wpAny_pyIter_slot hit.typeIs slot_si_iter (wpAny_call_entry slot_si_iter hit.typeIs entry_si_iter ?_ (args_si_iter _))
  unfold Builtin.«dict_keyiterator.__iter__»
  refine wpAny_bind (wpAny_pure ?_)
  exact wpAny_pure ⟨_, rfl, "set_iterator", _, hit.typeIs, slot_next.lookup, hQ⟩

theorem walk_slots (hh : A.handled = none) (hne : a ≠ I) (n : Nat) (hn : es.size = n) (slotOf : Nat → Nat) (L : List Value) (hL : L.length = n)
    (hx : ∀ i x, L[i]? = some x → ∀ (A : Around) (E : Value → Shared → Prop) (s : Shared) (Q : Option (Value × Nat) → Shared → Prop), IsSet s.heap a es ep t → Q (some (x, slotOf (i + 1))) s → wpAny (model prog w) A (setNext a (slotOf i) i ep) Q E s)
    (he : ∀ (A : Around) (E : Value → Shared → Prop) (s : Shared) (Q : Option (Value × Nat) → Shared → Prop), IsSet s.heap a es ep t → Q none s → wpAny (model prog w) A (setNext a (slotOf n) n ep) Q E s) :
    Walks prog w A I [I, a] [I] n (fun i v => L[i]? = some v) (fun i h => IsSI h I a (.int (slotOf i) 0) i n ep ∧ IsSet h a es ep t) where
  sub := fun b hb => by simp at hb; simp [hb]
  frame := fun _ _ _ st hk => ⟨st.1.at fun o e => hk I (by simp) o e, st.2.at fun o e => hk a (by simp) o e⟩
  item := fun i s Q E hi st hQ => by
    have hlt : i < L.length := by rw [hL]; exact hi
    refine next_slot (x := L[i]) (slot' := slotOf (i + 1)) st.1 st.2 hn (hx i _ (by simp [hlt])) fun h' hit' hs' => ?_
    exact hQ _ h' s.toks (by simp [hlt]) ⟨hit', st.2.at fun o e => hs' a o hne e⟩ fun b o hb e => hs' b o (fun h => hb (by simp [h])) e
  done := fun s Q E st hQ => next_end hh st.1 st.2 hn he fun h' he' => hQ h' s.toks fun b o hb e => he' b o (fun h => hb (by simp [h])) e
  self := fun _ _ _ _ st hQ => pyIter_si st.1 hQ
theorem walk_drawn (hh : A.handled = none) (hne : a ≠ I) (hne2 : T ≠ I) (n : Nat) (hn : es.size = n) (ps : List Nat) (hps : ps.length = n) (hlt : ∀ p ∈ ps, p < n) :
    Walks prog w A I [I, a, T] [I] n (fun i v => (ps.map fun p => (es.getD p (0, .none)).2)[i]? = some v) (fun i h => IsSI h I a (.ref T) i n ep ∧ IsSet h a es ep t ∧ h.IsTuple T (ps.map fun (p : Nat) => rawInt p).toArray) where
  sub := fun b hb => by simp at hb; simp [hb]
  frame := fun _ _ _ st hk => ⟨st.1.at fun o e => hk I (by simp) o e, st.2.1.at fun o e => hk a (by simp) o e, let ⟨o, ho, r⟩ := st.2.2; ⟨o, hk T (by simp) o ho, r⟩⟩
  item := fun i s Q E hi st hQ => by
    have hl : i < ps.length := by rw [hps]; exact hi
    have hp : ps[i] < es.size := by rw [hn]; exact hlt _ (List.getElem_mem hl)
    refine next_drawn (p := ps[i]) (x := es[ps[i]]) st.1 st.2.1 hn st.2.2 (by simp [hl, rawInt]) (by simp [hp]) fun h' hit' hs' => ?_
    refine hQ _ h' s.toks ?_ ⟨hit', st.2.1.at fun o e => hs' a o hne e, let ⟨o, ho, r⟩ := st.2.2; ⟨o, hs' T o hne2 ho, r⟩⟩ fun b o hb e => hs' b o (fun h => hb (by simp [h])) e
    simp [hl, hp, Array.getD_eq_getD_getElem?]
  done := fun s Q E st hQ => next_drawn_end hh st.1 st.2.1 hn st.2.2 (by simp [hps]) fun h' he' => hQ h' s.toks fun b o hb e => he' b o (fun h => hb (by simp [h])) e
  self := fun _ _ _ _ st hQ => pyIter_si st.1 hQ
theorem ints_of {l : List (Int × Value)} (he : ElemsOf (intKind prog w) l) : IntsAre (l.map (·.2)) (l.map fun e => keyV e.2) := by
  induction l with
  | nil => exact .nil
  | cons e r ih =>
    obtain ⟨⟨k, q, _⟩, _⟩ := he e List.mem_cons_self
    obtain ⟨q1, tk, q2⟩ := is_key q
    have := ih fun x hx => he x (List.mem_cons_of_mem _ hx)
    show IntsAre (e.2 :: _) (keyV e.2 :: _)
    rw [q1, q2]
    exact .cons k tk this

theorem iterR {xs : List Int} {Q : Value → Shared → Prop} (hh : A.handled = none) (hS : SetR prog w s.heap a xs)
    (hQ : ∀ (h1 : Heap) (d1 : Drawn) (I : Addr) (fp : List Addr) (St : Nat → Heap → Prop) (L : List Value) (ns : List Int), (∀ b o, s.heap.get? b = some o → h1.get? b = some o) → s.heap.objs.size ≤ I → (∀ b ∈ fp, b = a ∨ s.heap.objs.size ≤ b) → (∀ b ∈ fp, b < h1.objs.size) →
      Walks prog w A I fp [I] L.length (fun i v => L[i]? = some v) St → St 0 h1 → IntsAre L ns → ns.Nodup → (∀ k, k ∈ ns ↔ k ∈ xs) → L.length < scanBound → Q (.ref I) { s with heap := h1, drawn := d1 }) :
    wpAny (model prog w) A (pyIter (.ref a)) Q E s := by
  obtain ⟨o, es, ep, t, ho, hex, hd, hel, hmem, hnd, hb, hf, hv, hl⟩ := id hS
  have hset : IsSet s.heap a es ep t := ⟨o, ho, hex, hd, hf⟩
  have halt := Heap.lt_size ho
  refine wpAny_pyIter_slot hS.typeIs PySem.F.slot_set_iter (wpAny_call_entry PySem.F.slot_set_iter hS.typeIs entry_iter ?_ (PySem.F.args_set_iter_1 _))
  unfold Builtin.«frozenset.__iter__» Builtin.Frozenset.slot0 Builtin.Frozenset.addrOf
  refine wpAny_bind (wpAny_bind (wpAny_pure (wpAny_pure ?_)))
  unfold Builtin.Frozenset.sizeOf
  refine wpAny_bind (wpAny_bind (wpAny_setEntries_of ho hd hf (wpAny_pure ?_)))
  unfold setDrawn
  refine wpAny_bind ?_
  refine wpAny_bind (wpAny_setState_of ho hd hf ?_)
  dsimp only
  unfold setsByText
  refine wpAny_bind (wpAny_bind (wpAny_askSetting (wpAny_pure (wpAny_pure ?_))))
  have plainWalk : ∀ (slotOf : Nat → Nat) (L : List Value) (ns : List Int), slotOf 0 = 0 → L.length = es.size → IntsAre L ns → ns.Perm (keysE es) →
      (∀ i x, L[i]? = some x → ∀ (A : Around) (E : Value → Shared → Prop) (s : Shared) (Q : Option (Value × Nat) → Shared → Prop), IsSet s.heap a es ep t → Q (some (x, slotOf (i + 1))) s → wpAny (model prog w) A (setNext a (slotOf i) i ep) Q E s) →
      (∀ (A : Around) (E : Value → Shared → Prop) (s : Shared) (Q : Option (Value × Nat) → Shared → Prop), IsSet s.heap a es ep t → Q none s → wpAny (model prog w) A (setNext a (slotOf es.size) es.size ep) Q E s) →
      Q (.ref s.heap.objs.size) { s with heap := s.heap.push { cls := .type "set_iterator", data := .fields #[.int 0 0, .int 0 0, .ref a, .int es.size 0, .int ep 0] } } := by
    intro slotOf L ns h0 hL hi hp hx he
    refine hQ _ s.drawn s.heap.objs.size [s.heap.objs.size, a] (fun i h => IsSI h s.heap.objs.size a (.int (slotOf i) 0) i es.size ep ∧ IsSet h a es ep t) L ns (fun b o e => Heap.get?_push_of_some _ e) (Nat.le_refl _) (fun b hb => ?_) (fun b hb => ?_) (by rw [hL]; exact walk_slots (t := t) hh (Nat.ne_of_lt halt) es.size rfl slotOf L hL hx he)
      ⟨⟨_, Heap.get?_push_size _ rfl, rfl, by rw [h0]; rfl⟩, hset.at fun o e => Heap.get?_push_of_some _ e⟩ hi (hp.nodup_iff.mpr hnd) (fun k => hp.mem_iff.trans (hmem k).symm) (by rw [hL]; exact hb)
    · rcases List.mem_cons.mp hb with e | hb
      · exact .inr (Nat.le_of_eq e.symm)
      · exact .inl (List.mem_singleton.mp hb)
    · rw [Heap.size_push]
      rcases List.mem_cons.mp hb with e | hb
      · rw [e]; exact Nat.lt_succ_self _
      · rw [List.mem_singleton.mp hb]; exact Nat.lt_succ_of_lt halt
  have slotsEnd : (∀ (slotOf : Nat → Nat) (L : List Value) (ns : List Int), slotOf 0 = 0 → L.length = es.size → IntsAre L ns → ns.Perm (keysE es) →
      (∀ i x, L[i]? = some x → ∀ (A : Around) (E : Value → Shared → Prop) (s : Shared) (Q : Option (Value × Nat) → Shared → Prop), IsSet s.heap a es ep t → Q (some (x, slotOf (i + 1))) s → wpAny (model prog w) A (setNext a (slotOf i) i ep) Q E s) →
      (∀ (A : Around) (E : Value → Shared → Prop) (s : Shared) (Q : Option (Value × Nat) → Shared → Prop), IsSet s.heap a es ep t → Q none s → wpAny (model prog w) A (setNext a (slotOf es.size) es.size ep) Q E s) → True) := fun _ _ _ _ _ _ _ _ _ => trivial
  cases hby : w.params.followText "set-order" with
  | true =>
    show wpAny _ _ (if (!(w.params.followText "set-order") && _) = true then _ else _) _ _ _
    rw [hby]
    rw [if_neg (by simp)]
    refine wpAny_bind (wpAny_pure ?_)
    refine wpAny_bind (wpAny_setEpoch_of ho hd hf ?_)
    refine wpAny_bind (wpAny_newObj_type (wpAny_pure ⟨_, rfl, "set_iterator", _, ⟨_, Heap.get?_push_size _ rfl, rfl⟩, slot_next.lookup, ?_⟩))
    have hp := pickOrder_perm (w.params.setOrder a ep) es
    have hlen : (pickOrder (w.params.setOrder a ep) es).toList.length = es.size := by rw [hp.length_eq, Array.length_toList]
    have := plainWalk (fun _ => 0) ((pickOrder (w.params.setOrder a ep) es).toList.map (·.2)) _ rfl (by rw [List.length_map]; exact hlen) (ints_of (hel.perm hp)) (hp.map _)
      (fun i x hx A E s Q hs q => setNext_text hby hs (by
        rw [List.getElem?_map, Array.getElem?_toList] at hx
        cases e : (pickOrder (w.params.setOrder a ep) es)[i]? with
        | none => rw [e] at hx; cases hx
        | some y => rw [e] at hx; cases hx; exact q))
      (fun A E s Q hs q => setNext_text hby hs (by
        rw [Array.getElem?_eq_none (by rw [← Array.length_toList, hlen]; exact Nat.le_refl _)]
        exact q))
    simpa [rawInt] using this
  | false =>
    have hled : t.led = true := hl.resolve_right (by rw [hby]; exact Bool.false_ne_true)
    show wpAny _ _ (if (!(w.params.followText "set-order") && (!t.plain && decide (es.size > 1))) = true then _ else _) _ _ _
    rw [hby]
    cases hpl : (!t.plain && decide (es.size > 1)) with
    | false =>
      rw [if_neg (by simp)]
      refine wpAny_bind (wpAny_pure ?_)
      refine wpAny_bind (wpAny_setEpoch_of ho hd hf ?_)
      refine wpAny_bind (wpAny_newObj_type (wpAny_pure ⟨_, rfl, "set_iterator", _, ⟨_, Heap.get?_push_size _ rfl, rfl⟩, slot_next.lookup, ?_⟩))
      have hps : t.place.size = es.size := by
        simp only [SetTable.fits, Bool.and_eq_true, beq_iff_eq] at hf
        exact hf.1
      have := plainWalk (fun i => if i = 0 then 0 else t.place.getD (i - 1) 0 + 1) (es.toList.map (·.2)) _ rfl (by simp) (ints_of hel) (.refl _)
        (fun i x hx A E s Q hs q => setNext_place hby hled hpl hs (by
          have hi : i < es.size := by
            have := (List.getElem?_eq_some_iff.mp hx).1
            simpa using this
          rw [below_at hv.rise (by omega)]
          rw [List.getElem?_map, Array.getElem?_toList] at hx
          rw [Array.getElem?_eq_getElem hi] at hx ⊢
          rw [Array.getElem?_eq_getElem (by omega)]
          simp only [Option.map_some, Option.some.injEq] at hx
          rw [← hx] at q
          have e : t.place.getD (i + 1 - 1) 0 + 1 = t.place[i] + 1 := by simp [Array.getD, show i < t.place.size by omega]
          simp only [Nat.add_one_ne_zero, if_false] at q
          rw [e] at q
          exact q))
        (fun A E s Q hs q => setNext_place hby hled hpl hs (by
          rw [below_at hv.rise (by omega)]
          rw [Array.getElem?_eq_none (Nat.le_refl _)]
          exact q))
      simpa [rawInt] using this
    | true =>
      rw [if_pos (by simp)]
      refine wpAny_bind (drawOrder_any _ _ _ _ (by simp) fun ys d hp => ?_)
      have hyl : ys.length = es.size := by rw [hp.length_eq, List.length_range]
      unfold newTuple
      refine wpAny_bind (wpAny_newObj_type ?_ ?hz)
      case hz =>
        show (ys.map fun (i : Nat) => rawInt i).toArray.size ≤ sizeLine
        rw [List.size_toArray, List.length_map, hyl]
        exact fits_of_scanBound hb
      refine wpAny_bind (wpAny_setEpoch_of (Heap.get?_push_of_some _ ho) hd hf ?_)
      refine wpAny_bind (wpAny_newObj_type (wpAny_pure ⟨_, rfl, "set_iterator", _, ⟨_, Heap.get?_push_size _ rfl, rfl⟩, slot_next.lookup, ?_⟩))
      have hlt : ∀ p ∈ ys, p < es.size := fun p hm => by simpa using (hp.mem_iff.mp hm)
      have hLp : (ys.map fun p => (es.getD p (0, .none))).Perm es.toList := by
        have h1 := hp.map fun p => es.getD p (0, .none)
        refine h1.trans ?_
        have : (List.range es.size).map (fun p => es.getD p (0, .none)) = es.toList := by
          apply List.ext_getElem?
          intro i
          by_cases hi : i < es.size
          · simp [hi, Array.getD_eq_getD_getElem?]
          · simp [hi]
        rw [this]
      have hKp : ((ys.map fun p => (es.getD p (0, .none))).map fun e : Int × Value => keyV e.2).Perm (keysE es) := hLp.map fun e : Int × Value => keyV e.2
      have hL : (ys.map fun p => (es.getD p (0, .none)).2).length = es.size := by rw [List.length_map, hyl]
      have := hQ ((s.heap.push { cls := .type "tuple", data := .seq (ys.map fun (i : Nat) => rawInt i).toArray }).push { cls := .type "set_iterator", data := .fields #[.ref s.heap.objs.size, .int 0 0, .ref a, .int es.size 0, .int ep 0] }) d ((s.heap.push { cls := .type "tuple", data := .seq (ys.map fun (i : Nat) => rawInt i).toArray }).objs.size) [(s.heap.push { cls := .type "tuple", data := .seq (ys.map fun (i : Nat) => rawInt i).toArray }).objs.size, a, s.heap.objs.size] (fun i h => IsSI h ((s.heap.push { cls := .type "tuple", data := .seq (ys.map fun (i : Nat) => rawInt i).toArray }).objs.size) a (.ref s.heap.objs.size) i es.size ep ∧ IsSet h a es ep t ∧ h.IsTuple s.heap.objs.size (ys.map fun (p : Nat) => rawInt p).toArray) (ys.map fun p => (es.getD p (0, .none)).2) ((ys.map fun p => (es.getD p (0, .none))).map fun e : Int × Value => keyV e.2)
        (fun b o e => Heap.get?_push_of_some _ (Heap.get?_push_of_some _ e)) (by rw [Heap.size_push]; exact Nat.le_succ _) (fun b hb => ?_) (fun b hb => ?_)
        (by rw [hL]; exact walk_drawn (t := t) (ep := ep) hh (by rw [Heap.size_push]; exact Nat.ne_of_lt (Nat.lt_succ_of_lt halt)) (by rw [Heap.size_push]; exact Nat.ne_of_lt (Nat.lt_succ_self _)) es.size rfl ys hyl hlt)
        ⟨⟨_, Heap.get?_push_size _ rfl, rfl, rfl⟩, hset.at fun o e => Heap.get?_push_of_some _ (Heap.get?_push_of_some _ e), ⟨_, Heap.get?_push_of_some _ (Heap.get?_push_size _ rfl), rfl, _, rfl⟩⟩
        (by have := ints_of (hel.perm hLp); rw [List.map_map] at this; exact this) (hKp.nodup_iff.mpr hnd) (fun k => hKp.mem_iff.trans (hmem k).symm) (by rw [hL]; exact hb)
      · simpa [rawInt] using this
      · rcases List.mem_cons.mp hb with e | hb
        · exact .inr (by rw [e, Heap.size_push]; exact Nat.le_succ _)
        · rcases List.mem_cons.mp hb with e | hb
          · exact .inl e
          · exact .inr (Nat.le_of_eq (List.mem_singleton.mp hb).symm)
      · rw [Heap.size_push]
        rcases List.mem_cons.mp hb with e | hb
        · rw [e]; exact Nat.lt_succ_self _
        · rw [Heap.size_push]
          rcases List.mem_cons.mp hb with e | hb
          · rw [e]; exact Nat.lt_succ_of_lt (Nat.lt_succ_of_lt halt)
          · rw [List.mem_singleton.mp hb]; exact Nat.lt_succ_of_lt (Nat.lt_succ_self _)
end
end DS

set_option Elab.async false
set_option linter.all false
set_option maxRecDepth 100000
set_option maxHeartbeats 4000000
namespace DS
open PySem PySem.Spec PyProof.Rows PySem.W
section
variable {prog : Program} {w : World} {A : Around} {E : Value → Shared → Prop} {s : Shared} {a : Addr} {xs : List Int}
theorem set_hint {Q : Bool → Shared → Prop} (hT : s.TypeIs (.ref a) "set") (h : Q false s) : wpAny (model prog w) A (Builtin.List.listLengthHint (.ref a)) Q E s := by
  unfold Builtin.List.listLengthHint
  refine wpAny_bind (wpAny_specialOf hT PySem.F.slot_set_len.lookup ?_)
  generalize hid : ("set.__len__" : String) = id0
  wp_delta
  rw [show splitId id0 = some ("set", "__len__") from by subst hid; decide +kernel]
  subst hid
  refine wpAny_bind (wpAny_isInstance (T := "set") (b := true) hT (by rw [isSubtype_type]; kernel_rfl) ?_)
  refine wpAny_ite_split (fun hab => absurd hab (by decide)) (fun _ => ?_)
  refine wpAny_ite_split (fun _ => ?_) (fun hab => absurd (by decide +kernel) hab)
  refine wpAny_bind (wpAny_typeOf hT ?_)
  exact wpAny_pure h

def Listed (xs : List Int) (acc : Array Value) : Prop := ∃ ns, IntsAre acc.toList ns ∧ ns.Nodup ∧ (∀ k, k ∈ ns ↔ k ∈ xs) ∧ ns.length < scanBound
theorem set_extend {R : Result → Shared → Prop} (hh : A.handled = none) (hX : SetR prog w s.heap a xs) (S : Addr) (hSa : S ≠ a) (res : Value) (c₀ : Nat) (hS : s.heap.get? S = some { cls := .type "list", data := .seq #[] c₀ })
    (hR : ∀ h' tk d' acc' c', (∀ b o, b ≠ S → s.heap.get? b = some o → h'.get? b = some o) → h'.get? S = some { cls := .type "list", dict := none, data := .seq acc' c', slots := #[] } → Listed xs acc' → R (.ok (.ret res)) { s with heap := h', toks := tk, drawn := d' }) :
    wpAny (model prog w) A.in1 (Builtin.List.listExtendWith (.ref S) (.ref a) res)
      (fun fin s' => match fin with | .done f => R (.ok f) s' | .again c' => c'.quiet = true ∧ codeAny (model prog w) A c' R s') (fun e s' => R (.error e) s') s := by
  unfold Builtin.List.listExtendWith
  refine wpAny_bind (wpAny_typeOf (T := "set") hX.typeIs ?_)
  have h1 : Builtin.List.listSameRef (.ref S) (.ref a) = false := by simp [Builtin.List.listSameRef, hSa]
  have nl : (Value.type "set" == Value.type "list") = false := by decide
  have nt : (Value.type "set" == Value.type "tuple") = false := by decide
  simp only [h1, nl, nt, Bool.or_false, Bool.false_eq_true, if_false]
  refine wpAny_bind (iterR (A := A.in1) hh hX fun h1 d1 I fp St L ns hk hI hfp hfs W st hL hnd hm hlt => ?_)
  have hSI : S ≠ I := Nat.ne_of_lt (Nat.lt_of_lt_of_le (Heap.lt_size hS) hI)
  have hSf : S ∉ fp := fun hm => by
    rcases hfp S hm with e | e
    · exact hSa e
    · exact absurd (Nat.lt_of_lt_of_le (Heap.lt_size hS) e) (Nat.lt_irrefl _)
  have hn : L.length ≤ sizeLine := fits_of_scanBound hlt
  have key : ∀ (h : Heap) (c₁ tk : Nat), St 0 h → (∀ b o, b ≠ S → s.heap.get? b = some o → h.get? b = some o) →
      h.get? S = some { cls := .type "list", data := .seq #[] c₁ } → codeAny (model prog w) A (.builtin "list.extend.loop" ⟨[.ref S, .ref I, res], []⟩) R { s with heap := h, toks := tk, drawn := d1 } := by
    intro h c₁ tk hst hk hS₁
    refine codeAny_extend_loopS W.toS hn S hSf res L.length 0 _ #[] c₁ rfl (Nat.zero_le _) hst hS₁ (ItemsOf.nil _) fun s' acc' c' hm' hS' hacc => ?_
    rw [Moved.eq_with hm']
    refine hR s'.heap s'.toks d1 acc' c' (fun b o hb e => hm'.heap b o (fun hmem => ?_) (hk b o hb e)) hS' ?_
    · rcases List.mem_cons.mp hmem with e' | hmem
      · exact hb e'
      · rw [List.mem_singleton.mp hmem] at e
        exact absurd (Nat.lt_of_lt_of_le (Heap.lt_size e) hI) (Nat.lt_irrefl _)
    · have ea : acc'.toList = L := by
        apply List.ext_getElem?
        intro i
        rw [Array.getElem?_toList]
        cases q : acc'[i]? with
        | some v => exact (hacc.2 i v q).symm
        | none =>
          have : L.length ≤ i := by
            rw [← hacc.1]
            simpa using q
          rw [List.getElem?_eq_none this]
      exact ⟨ns, by rw [ea]; exact hL, hnd, hm, by rw [← hL.length]; exact hlt⟩
  have hS₁ := hk S _ hS
  refine wpAny_bind (wpAny_holding (set_hint (s := { s with heap := h1, drawn := d1 }) (hX.at fun o e => hk a o e).typeIs ?_))
  refine wpAny_ite_split (fun _ => ?_) (fun _ => wpAny_pure ⟨plainId_quiet PySem.F.plain_extend_loop _, key _ c₀ _ st (fun b o _ e => hk b o e) hS₁⟩)
  refine wpAny_bind (wpAny_rule ?_)
  refine wpAny_bind ?_
  show wpAny _ _ (updateSeq S (·.push .none) >>= fun _ => updateSeq S (·.pop)) _ _ _
  refine wpAny_bind (wpAny_updateSeq hS₁ rfl ?_)
  have hS₂ := Heap.get?_update_self (Obj.mapSeq (·.push Value.none)) hS₁ rfl
  refine wpAny_updateSeq (hz := by seq_fits) hS₂ rfl ?_
  have hS₃ := Heap.get?_update_self (Obj.mapSeq (·.pop)) hS₂ rfl
  refine wpAny_pure ⟨plainId_quiet PySem.F.plain_extend_loop _, key _ _ _ ?_ (fun b o hb e => ?_) hS₃⟩
  · refine W.frame 0 _ _ st fun b hb o e => ?_
    have hbS : b ≠ S := fun h => hSf (h ▸ hb)
    exact (Heap.get?_update_other _ _ (Ne.symm hbS)).trans ((Heap.get?_update_other _ _ (Ne.symm hbS)).trans e)
  · exact (Heap.get?_update_other _ _ (Ne.symm hb)).trans ((Heap.get?_update_other _ _ (Ne.symm hb)).trans (hk b o e))
theorem set_collect {R : List Value → Shared → Prop} (hh : A.handled = none) (hX : SetR prog w s.heap a xs)
    (h : ∀ (h' : Heap) (tk : Nat) (d' : Drawn) (acc : Array Value), (∀ b o, s.heap.get? b = some o → h'.get? b = some o) → s.heap.objs.size < h'.objs.size → Listed xs acc → R acc.toList { s with heap := h', toks := tk, drawn := d' }) :
    wpAny (model prog w) A (collect (.ref a)) R E s := by
  obtain ⟨oa, hoa⟩ := hX.some
  unfold collect
  refine wpAny_bind (wpAny_runValue (codeAny_builtin entry_proto_collect' ?_))
  rw [Around.under_plainId PySem.F.plain_proto_collect _]
  show wpAny _ A.in1 (newList [] >>= fun l => again (.builtin "list.__iadd__" ⟨[l, .ref a], []⟩)) _ _ s
  refine wpAny_bind (wpAny_newObj_type ?_)
  refine wpAny_pure ⟨plainId_quiet PySem.F.plain_list_iadd _, codeAny_builtin entry_list_iadd' ?_⟩
  rw [Around.under_plainId PySem.F.plain_list_iadd _]
  have hS₁ : (s.heap.push { cls := .type "list", data := .seq ([] : List Value).toArray }).get? s.heap.objs.size = some { cls := .type "list", data := .seq #[] } := Heap.get?_push_size _ rfl
  show wpAny _ A.in1 (Builtin.List.listExtendWith (.ref s.heap.objs.size) (.ref a) (.ref s.heap.objs.size)) _ _ _
  have key := set_extend (A := A) (s := { s with heap := s.heap.push { cls := .type "list", data := .seq ([] : List Value).toArray } })
    (R := fun (q : Result) (s' : Shared) => ∃ (h' : Heap) (tk : Nat) (d' : Drawn) (acc' : Array Value) (c' : Nat), q = .ok (.ret (.ref s.heap.objs.size)) ∧ s' = { s with heap := h', toks := tk, drawn := d' } ∧
      (∀ b o, s.heap.get? b = some o → h'.get? b = some o) ∧ h'.get? s.heap.objs.size = some { cls := .type "list", dict := none, data := .seq acc' c', slots := #[] } ∧ Listed xs acc')
    hh (hX.at fun o e => Heap.get?_push_of_some _ e) s.heap.objs.size (Nat.ne_of_gt (Heap.lt_size hoa)) (.ref s.heap.objs.size) 0 hS₁
    (fun h' tk d' acc' c' hk hS' hacc => ⟨h', tk, d', acc', c', rfl, rfl, fun b o e => hk b o (Nat.ne_of_lt (Heap.lt_size e)) (Heap.get?_push_of_some _ e), hS', hacc⟩)
  refine wpAny_mono key (fun fin s' x => ?_) fun e s' x => ?_
  · cases fin with
    | done f =>
      obtain ⟨h', tk, d', acc', c', e, rfl, hk, hS', hacc⟩ := x
      cases e
      show wpAny _ A (load s.heap.objs.size >>= _) _ _ _
      refine wpAny_bind (wpAny_load hS' ?_)
      exact wpAny_pure (h h' tk d' acc' hk (Heap.lt_size hS') hacc)
    | again c₁ =>
      refine ⟨x.1, codeAny_mono x.2 fun q s₂ y => ?_⟩
      obtain ⟨h', tk, d', acc', c', rfl, rfl, hk, hS', hacc⟩ := y
      show wpAny _ A (load s.heap.objs.size >>= _) _ _ _
      refine wpAny_bind (wpAny_load hS' ?_)
      exact wpAny_pure (h h' tk d' acc' hk (Heap.lt_size hS') hacc)
  · obtain ⟨_, _, _, _, _, e', _⟩ := x
    cases e'

theorem set_sorted {Q : Value → Shared → Prop} (hh : A.handled = none) (hX : SetR prog w s.heap a xs) (h64 : ∀ ns : List Int, ns.Nodup → (∀ k, k ∈ ns ↔ k ∈ xs) → ns.length < 64)
    (h : ∀ (h' : Heap) (tk : Nat) (d' : Drawn) (out : Array Value) (ns : List Int) (e : Nat) (D : Addr), (∀ b o, s.heap.get? b = some o → h'.get? b = some o) → s.heap.objs.size ≤ D → h'.get? D = some { cls := .type "list", data := .seq out e } → IntsAre out.toList ns → ns.Nodup → ns.Pairwise (· ≤ ·) → (∀ k, k ∈ ns ↔ k ∈ xs) →
      Q (.ref D) { s with heap := h', toks := tk, drawn := d' }) :
    wpAny (model prog w) A (call (.builtin "sorted") [.ref a]) Q E s := by
  refine Calls.call_function_entry kind_sorted plain_sorted entry_sorted (args_sorted1 _) ?_
  unfold Builtin.«sorted»
  refine wpAny_bind (m := checkCount "sorted" 1 1 _) (wpAny_pure ?_)
  refine wpAny_bind (set_collect (A := A.in1) hh hX fun h1 tk d1 acc hk hsz hacc => ?_)
  obtain ⟨ns, hI, hnd, hm, hlt⟩ := hacc
  have hl64 := h64 ns hnd hm
  refine wpAny_bind (wpAny_newList ?_ (by rw [hI.length]; exact fits_of_scanBound hlt))
  have hoL : (h1.push { cls := .type "list", data := .seq acc.toList.toArray }).get? h1.objs.size = some (seqObj "list" acc.toList.toArray 0) := Heap.get?_push_size _ rfl
  refine wpAny_bind (wpAny_holding (wpAny_call_entry slot_list_sort ⟨_, hoL, rfl⟩ entry_list_sort (list_sort_tree hoL hI (by rw [hI.length]; exact hl64) fun out ns' a1 a2 a3 => ⟨_, rfl, ?_⟩) (args_list_sort _)))
  refine wpAny_pure ⟨_, rfl, ?_⟩
  have hsame : ∀ b o, s.heap.get? b = some o → (sortedHeap (h1.push { cls := .type "list", data := .seq acc.toList.toArray }) h1.objs.size acc.toList out).get? b = some o := fun b o e => by
    have e1 := hk b o e
    have hb : b ≠ h1.objs.size := Nat.ne_of_lt (Heap.lt_size e1)
    rw [sortedHeap_old hb (by rw [Heap.size_push]; exact Nat.lt_succ_of_lt (Heap.lt_size e1))]
    exact Heap.get?_push_of_some _ e1
  obtain ⟨ee, hat⟩ := sortedHeap_at (out := out) hoL
  exact h _ _ _ out ns' ee h1.objs.size hsame (Nat.le_of_lt hsz) hat a1 (a2.nodup_iff.mpr hnd) a3 fun k => a2.mem_iff.trans (hm k)
end
end DS

set_option Elab.async false
set_option linter.all false
set_option maxRecDepth 100000
set_option maxHeartbeats 4000000
namespace DL
open PySem PySem.Spec PyProof.Rows L2 DS

def SetO (P : Program) (w : World) (a : Addr) (xs : List Int) : HO := .ext fun h => SetR P w h a xs
theorem setO_ok {P : Program} {w : World} {H : Hp} {h : Heap} {a : Addr} {xs : List Int} (x : SetR P w h a xs) : ObjOk P w H h a (SetO P w a xs) :=
  ⟨x, x.some, fun h1 h2 p k => SetR.at p k⟩
section
variable {X : Cx} {pins : List (Addr × Obj)} {σ : L2.St} {H : Hp} {s : Shared}
theorem invDrawn (I : Inv X pins σ H s) (d : Drawn) : Inv X pins σ H { s with drawn := d } := ⟨I.ok, I.os, I.bare, I.base, I.loc, I.cell, I.free, I.freeC, I.pin, I.hok, I.len⟩
theorem setO_get (I : Inv X pins σ H s) {a : Addr} {xs : List Int} (h : H a = some (SetO X.prog X.w a xs)) : SetR X.prog X.w s.heap a xs := (I.hok a _ h).1

theorem cr_setOf (hc : X.calm = true) : CallR X (.type "set") (fun xs H Q => ∃ a ns, xs = [.ref a] ∧ SqL X.K H a (ns.map V.int) ∧ ns.length + 1 < scanBound ∧ ∀ p, H p = none → Q (.ref p) (upd H p (SetO X.prog X.w p ns))) := by
  intro pins s σ H vs us Q I r h
  obtain ⟨a, ns, rfl, hs, hb, q⟩ := h
  obtain ⟨its, rv, hl, _⟩ := I.list hs
  rw [Vals.ref1 r]
  have hi := rv.ints
  refine call_setR (I.ok.hd hc) hl.isList hi (by rw [List.size_toArray, hi.length]; exact hb) fun h' tk hS hk => ?_
  exact ⟨.ref _, upd H s.heap.objs.size (SetO X.prog X.w s.heap.objs.size ns), I.laid (t' := tk) (fun b o e => hk b o (Heap.lt_size e) e) (Nat.le_refl _) (setO_ok hS), rfl, q _ I.fresh⟩

theorem cr_sortedSet (hc : X.calm = true) : CallR X (.builtin "sorted") (fun vs H Q => ∃ a xs, vs = [.ref a] ∧ H a = some (SetO X.prog X.w a xs) ∧ (∀ ns : List Int, ns.Nodup → (∀ k, k ∈ ns ↔ k ∈ xs) → ns.length < 64) ∧
    ∀ (ns : List Int) (p : Addr), ns.Nodup → ns.Pairwise (· ≤ ·) → (∀ k, k ∈ ns ↔ k ∈ xs) → H p = none → Q (.ref p) (upd H p (.lst (ns.map V.int)))) := by
  intro pins s σ H vs us Q I r h
  obtain ⟨a, xs, rfl, hs, h64, q⟩ := h
  rw [Vals.ref1 r]
  refine set_sorted (I.ok.hd hc) (setO_get I hs) h64 fun h' tk d' out ns e D hk hD hat hI hnd hpw hm => ?_
  have hlen : (ns.map V.int).length ≤ sizeLine := by rw [List.length_map]; exact small64 (h64 ns hnd hm)
  exact ⟨.ref D, upd H D (.lst (ns.map V.int)), (invDrawn I d').laid (t' := tk) hk hD ⟨hlen, out.toList, e, vals_of_ints hI, by simpa using hat⟩, rfl, q ns D hnd hpw hm (I.hok.fresh hD)⟩
end

theorem compTurn_set (elt target iter : Expr) (ifs : List Expr) (scope : Scope) (pos : Pos) (it acc : Value) (env : Env) :
    compTurn (.SetComp elt [⟨target, iter, ifs, 0⟩] scope pos) 0 it acc env = (do
      standAt iter.pos
      match ← pyNext it with
      | none => pure (.done .next)
      | some v =>
        letOwnedTupleGo target it v
        assign target env v
        let mut ok := true
        for c in ifs do
          if ok then ok ← isTrue c env (eval c env)
        if ok then
          (do let v ← eval elt env; standAt elt.pos; let _ ← call (.builtin "set.add") [acc, v])
        again (.compLoop (.SetComp elt [⟨target, iter, ifs, 0⟩] scope pos) 0 it acc env)) := by rfl
theorem compLoop_set {prog : Program} {w : World} {A : Around} {R : Result → Shared → Prop} {s : Shared} {elt target iter : Expr} {ifs : List Expr} {scope : Scope} {pos : Pos} {it acc : Value} {env : Env} (I : Nat → Shared → Prop)
    (turn : ∀ n s, I n s → wpAny (model prog w) A (pyNext it) (fun r s₁ => match r with
      | none => R (.ok .next) s₁
      | some v => wpAny (model prog w) A (letOwnedTupleGo target it v) (fun _ s₁' => wpAny (model prog w) A (assign target env v) (fun _ s₂ =>
          wpAny (model prog w) A (forIn ifs true fun c r => if r = true then do let ok ← isTrue c env (eval c env); pure (ForInStep.yield ok) else pure (ForInStep.yield r)) (fun ok s₃ =>
            if ok = true then wpAny (model prog w) A (eval elt env) (fun x s₄ =>
              wpAny (model prog w) A (call (.builtin "set.add") [acc, x]) (fun _ s₅ => ∃ m, m < n ∧ I m s₅) (notedBy (model prog w) A env fun e s' => R (.error e) s') s₄) (notedBy (model prog w) A env fun e s' => R (.error e) s') s₃
            else ∃ m, m < n ∧ I m s₃) (notedBy (model prog w) A env fun e s' => R (.error e) s') s₂) (notedBy (model prog w) A env fun e s' => R (.error e) s') s₁') (notedBy (model prog w) A env fun e s' => R (.error e) s') s₁) (notedBy (model prog w) A env fun e s' => R (.error e) s') s)
    (n : Nat) (h : I n s) :
    codeAny (model prog w) A (.compLoop (.SetComp elt [⟨target, iter, ifs, 0⟩] scope pos) 0 it acc env) R s := by
  refine codeAny_loop rfl I (fun n s hI => ?_) n h
  show wpAny _ A ((compTurn (.SetComp elt [⟨target, iter, ifs, 0⟩] scope pos) 0 it acc env).onRaise (fun x => do noteFrame x env; theTreesLotGoes x)) _ _ s
  refine wpAny_noted ?_
  rw [compTurn_set]
  refine wpAny_bind (wpAny_standAt (wpAny_bind (wpAny_mono (turn n s hI) (fun r s₁ h₁ => ?_) fun _ _ h' => h')))
  cases r with
  | none => exact wpAny_pure h₁
  | some v =>
    refine wpAny_bind (wpAny_mono h₁ (fun _ s₁' h₁' => ?_) fun _ _ h' => h')
    refine wpAny_bind (wpAny_mono h₁' (fun _ s₂ h₂ => wpAny_bind (wpAny_mono h₂ (fun ok s₃ h₃ => ?_) fun _ _ h' => h')) fun _ _ h' => h')
    cases ok with
    | false => exact wpAny_pure ⟨rfl, h₃⟩
    | true =>
      exact wpAny_bind (wpAny_bind (wpAny_mono h₃ (fun x s₄ h₄ => wpAny_bind (wpAny_standAt (wpAny_bind (wpAny_mono h₄ (fun _ s₅ h₅ => wpAny_pure (wpAny_pure ⟨rfl, h₅⟩)) fun _ _ h' => h')))) fun _ _ h' => h'))
theorem compStart_set {prog : Program} {w : World} {A : Around} {R : Result → Shared → Prop} {s : Shared} {elt target iter ifs rest scope pos it acc env}
    (h0 : codeAny (model prog w) A (.compLoop (.SetComp elt (⟨target, iter, ifs, 0⟩ :: rest) scope pos) 0 it acc env) R s)
    (h : wpAny (model prog w) A (pyIter it) (fun it' s' => codeAny (model prog w) A (.compLoop (.SetComp elt (⟨target, iter, ifs, 0⟩ :: rest) scope pos) 0 it' acc env) R s')
      (notedBy (model prog w) A env fun x s' => R (.error x) s') s) :
    codeAny (model prog w) A (.compStart (.SetComp elt (⟨target, iter, ifs, 0⟩ :: rest) scope pos) 0 it acc env) R s := by
  refine codeAny_of_tree ?_
  show wpAny _ _ ((compStart (.SetComp elt (⟨target, iter, ifs, 0⟩ :: rest) scope pos) 0 it acc env).onRaise (fun x => do noteFrame x env; standAt theWindowsPlace)) _ _ s
  refine wpAny_notedAt ?_
  unfold compStart
  show wpAny _ _ (ask >>= _) _ _ s
  refine wpAny_bind (wpAny_askSetting (wpAny_ite ?_))
  split
  · first
      | exact wpAny_bind (wpAny_pure (wpAny_pure (And.intro rfl h0)))
      | exact wpAny_pure (And.intro rfl h0)
  · first
      | exact wpAny_bind (wpAny_rule (wpAny_bind (wpAny_standAt (wpAny_bind (wpAny_mono h (fun it' s' h' => wpAny_pure (And.intro rfl h')) fun _ _ x => x)))))
      | (refine wpAny_bind (wpAny_rule ?_); show wpAny _ _ (standAt iter.pos >>= _) _ _ s; exact wpAny_bind (wpAny_standAt (wpAny_bind (wpAny_mono h (fun it' s' h' => wpAny_pure (And.intro rfl h')) fun _ _ x => x))))
section
variable {X : Cx}
theorem add_ok {pins : List (Addr × Obj)} {σ : L2.St} {H : Hp} {s : Shared} {E : Value → Shared → Prop} {D : Addr} {xs : List Int} {k : Int} {v : Value} {Q : Value → Shared → Prop} (I : Inv X pins σ H s) (hD : H D = some (SetO X.prog X.w D xs)) (hz : xs.length + 1 < scanBound) (r : RelV (.int k) v)
    (h : ∀ s', Inv X pins σ (upd H D (SetO X.prog X.w D (xs ++ [k]))) s' → Q .none s') : wpAny (model X.prog X.w) X.A (call (.builtin "set.add") [.ref D, v]) Q E s := by
  obtain ⟨t, rfl⟩ := r
  refine call_addR (setO_get I hD) hz fun h' sb hS => ?_
  exact h _ (I.write (t' := s.toks + 1) (by rw [hD]; trivial) (.inl rfl) (fun b u hb q => (sb.2 b hb).trans q) hS.some (setO_ok hS))
def tSc (P : Program) (w : World) (wi : TI) (g : TG) (tt : TT) (te : TE) (vs : List Nat) : TE := fun σ H Q => wi σ H fun J H1 => ∀ D, H1 D = none → ∃ W : Nat → Nat → Hp → Prop, (∃ m, W 0 m (upd H1 D (SetO P w D []))) ∧ ∀ i m H, W i m H →
  (J.stop i H ∧ Q (.ref D) H) ∨ (J.go i H ∧ ∃ Nx : Hp → Prop, (∀ H', Nx H' → ∃ m', m' < m ∧ W (i + 1) m' H') ∧ ∀ x H', J.yld i H x H' → g x (wipe σ vs) H' fun σ2 H2 => wipe σ2 vs = wipe σ vs ∧ tt σ2 H2 fun b H3 =>
    if b = true then te σ2 H3 fun y H4 => ∃ acc k, H4 D = some (SetO P w D acc) ∧ y = .int k ∧ acc.length + 1 < scanBound ∧ Nx (upd H4 D (SetO P w D (acc ++ [k]))) else Nx H3)
theorem pe_sc {elt tg iter : Expr} {ifs : List Expr} {scope : Scope} {own : List (Str × Nat)} {pos : Pos} {wi : TI} {g : TG} {tt : TT} {te : TE} (hc : X.calm = true) (hN : X.N.Nodup) (hi : PI X tg iter wi) (ok : BlkOk X.N X.env.scope scope own)
    (hg : ∀ (s : Shared) (H : Hp) (C : Addr) (cl : List (Str × Addr)) (fp : List Addr), PG (X.blk s H scope (compEnvC scope cl C X.env) fp) tg g) (ht : ∀ (s : Shared) (H : Hp) (C : Addr) (cl : List (Str × Addr)) (fp : List Addr), PTs (X.blk s H scope (compEnvC scope cl C X.env) fp) ifs tt)
    (he : ∀ (s : Shared) (H : Hp) (C : Addr) (cl : List (Str × Addr)) (fp : List Addr), PE (X.blk s H scope (compEnvC scope cl C X.env) fp) elt te) (hs : ∀ x, foldedSetIterable iter X.env x = pure x := by intro _; rfl) :
    PE X (.SetComp elt [⟨tg, iter, ifs, 0⟩] scope pos) (tSc X.prog X.w wi g tt te (own.map (·.2))) := by
  intro pins s σ H Q I h
  show wpAny (model X.prog X.w) X.A (comprehension (.SetComp elt [⟨tg, iter, ifs, 0⟩] scope pos) scope X.env (firstIterPos [⟨tg, iter, ifs, 0⟩] pos) (newSet (.type "set")) false (eval iter X.env)) (EP X pins σ Q) X.xe s
  have hRR : ∀ D C s' m H', Inv X pins σ H' s' → Q (.ref D) H' → s'.heap.Ns C m → FpOk X pins H' C → compPost (model X.prog X.w) X.A X.xe none (EP X pins σ Q) (.ref D) C (.ok .next) s' := fun D C s' m H' I' q hn f => ⟨m, hn, fun h'' sb => by
    obtain ⟨f0, f1, f2, f3, f4, f5⟩ := f
    exact ⟨.ref D, H', I'.turned (t' := s'.toks) (fun b o hb e => (sb.2 b hb).trans e) f0 f1 f3 f4 f5, rfl, q⟩⟩
  have hfree : ∀ y ∈ scope.names, y.2 = .free → ∃ c, X.env.cells.lookup y.1 = some c := fun y hy e => by
    rcases ok.free y hy e with k | k
    · exact I.ok.has _ (.inl k)
    · exact I.ok.has _ (.inr k)
  refine wpAny_comprehension_free (use := none) rfl hs (closure_ok hfree) ok.kind (fun y hy e => by rw [ok.uniq y hy, e])
    (thn (hi pins s σ H _ I h) fun xv s1 hx => thn hx fun itv s2 h2 => ?_)
  obtain ⟨it, fp, tn, J, H2, e, I2, T, st2, f2, q⟩ := h2
  subst e
  refine newSetR fun oN hNew => newEnv_comp ?_
  generalize hD : s2.heap.objs.size = D at hNew
  have hDn : H2 D = none := I2.hok.fresh (Nat.le_of_eq hD)
  obtain ⟨W, ⟨m0, w0⟩, turn⟩ := q D hDn
  generalize hs3 : ({ s2 with heap := s2.heap.push oN } : Shared) = s3
  have I3 : Inv X pins σ (upd H2 D (SetO X.prog X.w D [])) s3 := by
    rw [← hs3]
    exact I2.laid (t' := s2.toks) (fun b o e => Heap.get?_push_of_some _ e) (Nat.le_of_eq hD) (setO_ok hNew)
  have h3 : s3.heap = s2.heap.push oN := by rw [← hs3]
  have sz : ∀ b ∈ fp, b < s2.heap.objs.size := fun b hb => by
    obtain ⟨o, e, _⟩ := T.obj _ _ st2 b hb
    exact Heap.lt_size e
  have f3 : ∀ b ∈ fp, FpOk X pins (upd H2 D (SetO X.prog X.w D [])) b ∧ b < s3.heap.objs.size := fun b hb => by
    have hlt := sz b hb
    refine ⟨⟨?_, (f2 b hb).2⟩, by rw [h3, Heap.size_push]; exact Nat.lt_succ_of_lt hlt⟩
    rw [upd_ne (by rw [← hD]; exact Nat.ne_of_lt hlt)]
    exact (f2 b hb).1
  have st3 : tn 0 s3.heap := T.keep _ _ _ st2 fun b _ o e => by rw [h3]; exact Heap.get?_push_of_some _ e
  have I4 := block_start I3 ok hN f3
  have pg := hg s3 (upd H2 D (SetO X.prog X.w D [])) s3.heap.objs.size (cellsFrom (s3.heap.objs.size + 1) scope.names (cloFrom X.env.cells scope.names [])) fp
  have pt := ht s3 (upd H2 D (SetO X.prog X.w D [])) s3.heap.objs.size (cellsFrom (s3.heap.objs.size + 1) scope.names (cloFrom X.env.cells scope.names [])) fp
  have pe := he s3 (upd H2 D (SetO X.prog X.w D [])) s3.heap.objs.size (cellsFrom (s3.heap.objs.size + 1) scope.names (cloFrom X.env.cells scope.names [])) fp
  show codeAny _ _ (.compStart (.SetComp elt [⟨tg, iter, ifs, 0⟩] scope pos) 0 (.ref it) (.ref D) (compEnvC scope (cellsFrom (s3.heap.objs.size + 1) scope.names (cloFrom X.env.cells scope.names [])) s3.heap.objs.size X.env)) (compPost (model X.prog X.w) X.A X.xe none (EP X pins σ Q) (.ref D) s3.heap.objs.size) { s3 with heap := pushCells (s3.heap.push { cls := .type "dict", data := .dict #[] }) scope.names }
  have nfp : ∀ b ∈ fp, (upd H2 D (SetO X.prog X.w D [])) b = none := fun b hb => (f3 b hb).1.1
  generalize hce : compEnvC scope (cellsFrom (s3.heap.objs.size + 1) scope.names (cloFrom X.env.cells scope.names [])) s3.heap.objs.size X.env = ce at I4 pg pt pe ⊢
  have cL : ce.locals = s3.heap.objs.size := by subst hce; rfl
  generalize hH3 : upd H2 D (SetO X.prog X.w D []) = H3 at I3 I4 pg pt pe w0 nfp f3
  generalize hs4 : ({ s3 with heap := pushCells (s3.heap.push { cls := .type "dict", data := .dict #[] }) scope.names } : Shared) = s4 at I4 ⊢
  have st4 : tn 0 s4.heap := T.keep _ _ _ st3 fun b _ o e => by rw [← hs4]; exact pushCells_keeps _ _ _ _ (Heap.get?_push_of_some _ e)
  have stat : ∀ {σ' : L2.St} {H' : Hp} {s' : Shared}, Inv (X.blk s3 H3 scope ce fp) [] σ' H' s' → (∀ b ∈ fp, H' b = none) → ∀ b ∈ fp, FpOk (X.blk s3 H3 scope ce fp) [] H' b := fun {σ' H' s'} I' hn b hb =>
    ⟨hn b hb, (I'.ok.exf b hb).1, I'.ok.exfs b hb, .inl hb, fun x c e => (I'.ok.exf b hb).2 x c e, fun p hp => absurd (show p ∈ ([] : List (Addr × Obj)) ++ [] from hp) (by simp)⟩
  have loop : codeAny (model X.prog X.w) X.A (.compLoop (.SetComp elt [⟨tg, iter, ifs, 0⟩] scope pos) 0 (.ref it) (.ref D) ce) (compPost (model X.prog X.w) X.A X.xe none (EP X pins σ Q) (.ref D) s3.heap.objs.size) s4 := by
    refine compLoop_set (fun n s' => ∃ i H', Inv (X.blk s3 H3 scope ce fp) [] (wipe σ (own.map (·.2))) H' s' ∧ tn i s'.heap ∧ (∀ b ∈ fp, H' b = none) ∧ W i n H') ?_ m0 ⟨0, H3, I4, st4, nfp, w0⟩
    rintro n s5 ⟨i, H5, I5, st5, n5, w5⟩
    rcases turn i n H5 w5 with ⟨stop, qq⟩ | ⟨go, Nx, hNx, step⟩
    · have td := T.done (X.blk s3 H3 scope ce fp) rfl rfl rfl hc i [] s5 _ H5 (fun _ _ => False) I5 (stat I5 n5) st5 stop
      refine thnF td fun r s6 ⟨hr, I6⟩ => ?_
      subst hr
      have I7 : Inv X pins σ H5 s6 := I3.call' (ch := fp) I6.os I6.base I6.hok I6.bare fun b hb => ⟨(f3 b hb).1.2.2.2.1, (f3 b hb).1.2.1, (f3 b hb).1.2.2.2.2.1, (f3 b hb).1.2.2.2.2.2⟩
      have nC : H5 s3.heap.objs.size = none := by
        have z : H5 ce.locals = none := I6.free
        rw [cL] at z
        exact z
      obtain ⟨m, hn, _⟩ := I6.loc
      have hn : s6.heap.Ns ce.locals m := hn
      rw [cL] at hn
      exact hRR D s3.heap.objs.size s6 m H5 I7 qq hn (I3.fpOk (Nat.le_refl _) nC)
    · have ti := T.item (X.blk s3 H3 scope ce fp) rfl rfl rfl hc i [] s5 _ H5 (fun _ _ => False) I5 (stat I5 n5) st5 go
      refine thnF ti fun r s6 ⟨u, hr, h6⟩ => ?_
      subst hr
      refine thnF h6 fun _ s7 ⟨x, H7, I7, r7, y7, st7, n7⟩ => ?_
      have I7' := I7.pinned (stat I7 n7) (T.obj _ _ st7)
      refine thnF (pg _ s7 _ H7 x u _ I7' r7 (step x H7 y7)) fun _ s8 ⟨σ8, H8, I8, hw8, q8⟩ => ?_
      refine thnF (pt _ s8 σ8 H8 _ I8 q8) fun b s9 ⟨H9, I9, q9⟩ => ?_
      have fin : ∀ {s' : Shared} {H' : Hp}, Inv (X.blk s3 H3 scope ce fp) ([] ++ pinsAt fp s7.heap) σ8 H' s' → Nx H' → ∃ m, m < n ∧ ∃ i H', Inv (X.blk s3 H3 scope ce fp) [] (wipe σ (own.map (·.2))) H' s' ∧ tn i s'.heap ∧ (∀ b ∈ fp, H' b = none) ∧ W i m H' := fun {s' H'} I' nx => by
        obtain ⟨m', hm, w'⟩ := hNx H' nx
        have pin' : ∀ b ∈ fp, ∀ o, s7.heap.get? b = some o → s'.heap.get? b = some o ∧ H' b = none := fun b hb o e =>
          let z := I'.pin (b, o) (List.mem_append_right _ (List.mem_append_right _ (mem_pinsAt hb e)))
          ⟨z.1, z.2.1⟩
        have hl : (wipe σ (own.map (·.2))).length = σ8.length := by rw [← hw8, wipe_length]
        refine ⟨m', hm, i + 1, H', (I'.unpinned (pins := [])).weak hl (fun j v e => ?_), T.keep _ _ _ st7 fun b hb o e => (pin' b hb o e).1, fun b hb => ?_, w'⟩
        · rw [← hw8] at e
          exact (wipe_some e).1
        · obtain ⟨o, e, _⟩ := T.obj _ _ st7 b hb
          exact (pin' b hb o e).2
      cases b with
      | false =>
        simp only [Bool.false_eq_true, if_false] at q9 ⊢
        exact fin I9 q9
      | true =>
        simp only [if_true] at q9 ⊢
        refine thnF (pe _ s9 σ8 H9 _ I9 q9) fun z s10 ⟨yv, H10, I10, r10, acc, k, hD10, ey, hz10, nx⟩ => ?_
        subst ey
        exact add_ok (X := X.blk s3 H3 scope ce fp) I10 hD10 hz10 r10 fun s11 I11 => fin I11 nx
  exact compStart_set loop (T.self X.A 0 _ _ _ st4 loop)
end
end DL

set_option Elab.async false
set_option linter.all false
set_option maxRecDepth 100000
set_option maxHeartbeats 4000000
namespace DL
open PySem PySem.Spec PyProof.Rows L2 DS

def insD (k : Int) : List Int → List Int
  | [] => [k]
  | x :: r => if k < x then k :: x :: r else if k = x then x :: r else x :: insD k r
def sortD (ns : List Int) : List Int := ns.foldr insD []
theorem mem_insD {k j : Int} : ∀ {l : List Int}, j ∈ insD k l ↔ j = k ∨ j ∈ l
  | [] => by simp [insD]
  | x :: r => by
    unfold insD
    split
    · simp
    · split
      · rename_i h; subst h; simp
      · simp only [List.mem_cons, mem_insD (l := r)]
        constructor
        · rintro (h | h | h)
          · exact .inr (.inl h)
          · exact .inl h
          · exact .inr (.inr h)
        · rintro (h | h | h)
          · exact .inr (.inl h)
          · exact .inl h
          · exact .inr (.inr h)
theorem mem_sortD {j : Int} : ∀ {ns : List Int}, j ∈ sortD ns ↔ j ∈ ns
  | [] => by simp [sortD]
  | n :: r => by
    show j ∈ insD n (sortD r) ↔ _
    rw [mem_insD, mem_sortD (ns := r), List.mem_cons]
theorem insD_sorted {k : Int} : ∀ {l : List Int}, l.Pairwise (· < ·) → (insD k l).Pairwise (· < ·)
  | [], _ => by simp [insD]
  | x :: r, h => by
    obtain ⟨h1, h2⟩ := List.pairwise_cons.mp h
    unfold insD
    split
    · rename_i hk
      refine List.pairwise_cons.mpr ⟨fun y hy => ?_, h⟩
      rcases List.mem_cons.mp hy with rfl | hy
      · exact hk
      · exact Int.lt_trans hk (h1 y hy)
    · split
      · exact h
      · refine List.pairwise_cons.mpr ⟨fun y hy => ?_, insD_sorted h2⟩
        rcases mem_insD.mp hy with rfl | hy
        · omega
        · exact h1 y hy
theorem sortD_sorted : ∀ (ns : List Int), (sortD ns).Pairwise (· < ·)
  | [] => List.Pairwise.nil
  | n :: r => insD_sorted (sortD_sorted r)
theorem sorted_ext : ∀ {l m : List Int}, l.Pairwise (· < ·) → m.Pairwise (· < ·) → (∀ j, j ∈ l ↔ j ∈ m) → l = m
  | [], [], _, _, _ => rfl
  | [], y :: m, _, _, h => absurd ((h y).mpr List.mem_cons_self) (by simp)
  | x :: l, [], _, _, h => absurd ((h x).mp List.mem_cons_self) (by simp)
  | x :: l, y :: m, hl, hm, h => by
    obtain ⟨l1, l2⟩ := List.pairwise_cons.mp hl
    obtain ⟨m1, m2⟩ := List.pairwise_cons.mp hm
    have e : x = y := by
      rcases List.mem_cons.mp ((h x).mp List.mem_cons_self) with e | e
      · exact e
      · rcases List.mem_cons.mp ((h y).mpr List.mem_cons_self) with e' | e'
        · exact e'.symm
        · have a1 := m1 x e
          have a2 := l1 y e'
          omega
    subst e
    congr 1
    refine sorted_ext l2 m2 fun j => ?_
    constructor
    · intro hj
      rcases List.mem_cons.mp ((h j).mp (List.mem_cons_of_mem _ hj)) with e | e
      · have := l1 j hj; omega
      · exact e
    · intro hj
      rcases List.mem_cons.mp ((h j).mpr (List.mem_cons_of_mem _ hj)) with e | e
      · have := m1 j hj; omega
      · exact e
theorem sorted_of {ns xs : List Int} (h1 : ns.Nodup) (h2 : ns.Pairwise (· ≤ ·)) (h3 : ∀ k, k ∈ ns ↔ k ∈ xs) : ns = sortD xs := by
  refine sorted_ext ?_ (sortD_sorted xs) fun j => (h3 j).trans mem_sortD.symm
  exact List.Pairwise.imp₂ (R := (· ≠ ·)) (S := (· ≤ ·)) (fun a b hne hle => by omega) h1 h2
def D.int? : D → Option Int
  | .int i => some i
  | _ => none
def intsP (ds : List D) (k : List Int → Prop) : Prop := match ds.mapM D.int? with
  | some ns => k ns
  | none => False
theorem mapM_ints : ∀ {ds : List D} {ns : List Int}, ds.mapM D.int? = some ns → ds = ns.map D.int
  | [], ns, e => by simp at e; subst e; rfl
  | d :: ds, ns, e => by
    rw [List.mapM_cons] at e
    cases hd : d.int? with
    | none => rw [hd] at e; cases e
    | some i =>
      rw [hd] at e
      cases ht : ds.mapM D.int? with
      | none => rw [ht] at e; cases e
      | some ms =>
        rw [ht] at e
        cases e
        have : d = .int i := by cases d <;> first | (cases hd; rfl) | cases hd
        rw [mapM_ints ht, this]
        rfl
theorem mapM_of_ints : ∀ (ns : List Int), (ns.map D.int).mapM D.int? = some ns
  | [] => rfl
  | n :: ns => by
    rw [List.map_cons, List.mapM_cons, mapM_of_ints ns]
    rfl
theorem intsP_ex {ds : List D} {k : List Int → Prop} (h : intsP ds k) : ∃ ns, ds = ns.map D.int ∧ k ns := by
  unfold intsP at h
  split at h
  · rename_i ns e
    exact ⟨ns, mapM_ints e, h⟩
  · exact h.elim
theorem intsP_of {ns : List Int} {k : List Int → Prop} (h : k ns) : intsP (ns.map D.int) k := by
  unfold intsP
  rw [mapM_of_ints]
  exact h
section
variable {X : Cx} {K : PySem.W.Frag} {M M1 : Mk} {H H1 : Hp} {a b c e tg : Expr} {wa wb wc we : DTE} {va vb vc : DTT} {pos : Pos} {rest : List Expr}

def wSortSet (we : DTE) : DTE := fun ρ R => we ρ fun d => d.lstP fun ds => intsP ds fun ns => ns.length + 1 < scanBound ∧ (sortD ns).length < 64 ∧ R (.lst ((sortD ns).map .int))
theorem len64 {ns xs : List Int} (h : (sortD xs).length < 64) (hn : ns.Nodup) (hm : ∀ k, k ∈ ns ↔ k ∈ xs) : ns.length < 64 :=
  Nat.lt_of_le_of_lt (nodup_len hn fun j hj => mem_sortD.mpr ((hm j).mp hj)) h
theorem d_sortSet {p1 p2 pos2 : Pos} (hc : X.calm = true) (hg1 : Gl X "sorted") (hm1 : X.mg "sorted" = none) (hg2 : Gl X "set") (hm2 : X.mg "set" = none) (he : DPE X e we) (hst : starEach [e] X.env = [(false, eval e X.env)] := by rfl) :
    DPE X (.Call (.Name "sorted" p1) [.Call (.Name "set" p2) [e] [] pos2] [] pos) (wSortSet we) :=
  peC (pe_callB (cr_sortedSet hc) hg1 hm1 (by decide +kernel) (pa_cons (pe_callTy (cr_setOf hc) hg2 hm2 (by decide +kernel) (pa_cons he pa_nil hst) (by decide) (by decide) hst (by rfl)) pa_nil (by rfl)) (by decide) (by decide) (by rfl) (by rfl)) fun σ H Q ⟨M, ρ, R, w, r, q, o⟩ => by
    refine ⟨M, ρ, _, w, r, q, fun v d M1 H1 q1 e1 dv => ?_⟩
    obtain ⟨ds, ed, q2⟩ := D.lstP_ex q1
    obtain ⟨ns, rfl, hl, h64, q3⟩ := intsP_ex q2
    obtain ⟨l, vs, rfl, h1, d1⟩ := DV.list (show DV X.K M1 H1 v (.lst (ns.map .int)) ∨ DV X.K M1 H1 v (.own (ns.map .int)) from ed.elim (fun e => .inl (e ▸ dv)) (fun e => .inr (e ▸ dv)))
    have ev := d1.ints
    subst ev
    refine ⟨l, ns, rfl, h1, hl, fun p hp => ?_⟩
    refine ⟨p, ns, rfl, upd_same, fun ms hn hm => len64 h64 hn hm, fun ms p' hn hp' hm hpn => ?_⟩
    have em := sorted_of hn hp' hm
    subst em
    have x1 := Ext.new e1.wf hp (SetO X.prog X.w p ns)
    obtain ⟨x2, dr⟩ := newLst (K := X.K) x1.wf hpn (DRs.ofInts (K := X.K) (M := M1) (H := upd H1 p (SetO X.prog X.w p ns)) (sortD ns))
    exact o _ _ _ _ q3 ((e1.trans x1).trans x2) (.inl dr)

def scI (i : Nat) (tt : DTT) (te : DTE) (ρw : DEnv) (fin : List Int → Prop) (ds : List D) (acc : List Int) : Prop := ∃ Iv : List D → List Int → Prop, Iv ds acc ∧ (∀ acc, Iv [] acc → fin acc) ∧
  ∀ d ds acc, Iv (d :: ds) acc → tt (ρw.set i (some d)) fun k => if k = true then te (ρw.set i (some d)) fun y => y.intP fun n => acc.length + 1 < scanBound ∧ Iv ds (acc ++ [n]) else Iv ds acc
def wSortSc (wi : DTI) (i : Nat) (tt : DTT) (te : DTE) (vs : List Nat) : DTE := fun ρ R => wi ρ fun ds => scI i tt te (wipeD ρ vs) (fun acc => (sortD acc).length < 64 ∧ R (.lst ((sortD acc).map .int))) ds []
def AccS (P : Program) (w : World) (M1 : Mk) (H1 : Hp) (D : Addr) (acc : List Int) (M' : Mk) (H' : Hp) : Prop := Ext M1 H1 M' H' ∧ M' D = 2 ∧ H' D = some (SetO P w D acc)
theorem AccS.ext {P : Program} {w : World} {D : Addr} {acc : List Int} {M' M2 : Mk} {H' H2 : Hp} (x : AccS P w M H D acc M' H') (e : Ext M' H' M2 H2) : AccS P w M H D acc M2 H2 := by
  obtain ⟨x1, x2, x3⟩ := x
  obtain ⟨p, q⟩ := e.keep D _ x3 (by rw [x2]; decide)
  exact ⟨x1.trans e, q.trans x2, p⟩
theorem d_sortSc {p1 : Pos} {elt iter : Expr} {x : Str} {px pos2 : Pos} {ifs : List Expr} {scope : Scope} {own : List (Str × Nat)} {wi : DTI} {i : Nat} {tt : DTT} {te : DTE} (hc : X.calm = true) (hg1 : Gl X "sorted") (hm1 : X.mg "sorted" = none) (hN : X.N.Nodup) (hii : i ∈ own.map (·.2)) (hi : DPI X (.Name x px) iter wi) (ok : BlkOk X.N X.env.scope scope own)
    (hg : ∀ (s : Shared) (H : Hp) (C : Addr) (cl : List (Str × Addr)) (fp : List Addr), PG (X.blk s H scope (compEnvC scope cl C X.env) fp) (.Name x px) (gName i)) (ht : ∀ (s : Shared) (H : Hp) (C : Addr) (cl : List (Str × Addr)) (fp : List Addr), PTs (X.blk s H scope (compEnvC scope cl C X.env) fp) ifs (TDT X.K tt))
    (he : ∀ (s : Shared) (H : Hp) (C : Addr) (cl : List (Str × Addr)) (fp : List Addr), DPE (X.blk s H scope (compEnvC scope cl C X.env) fp) elt te) (hs : ∀ x, foldedSetIterable iter X.env x = pure x := by intro _; rfl) :
    DPE X (.Call (.Name "sorted" p1) [.SetComp elt [⟨.Name x px, iter, ifs, 0⟩] scope pos2] [] pos) (wSortSc wi i tt te (own.map (·.2))) :=
  peC (pe_callB (cr_sortedSet hc) hg1 hm1 (by decide +kernel) (pa_cons (pe_sc (te := TD X.K te) hc hN hi ok hg ht he hs) pa_nil (by rfl)) (by decide) (by decide) (by rfl) (by rfl)) fun σ H Q ⟨M, ρ, R, w, r, q, o⟩ => by
    refine ⟨M, ρ, _, w, r, q, fun ds J M1 H1 q1 e1 wk D hD => ?_⟩
    obtain ⟨Iv, i0, iN, iS⟩ := q1
    refine ⟨fun j m H' => m = ds.length - j ∧ j ≤ ds.length ∧ ∃ M' acc, AccS X.prog X.w M1 H1 D acc M' H' ∧ Iv (ds.drop j) acc, ⟨_, rfl, Nat.zero_le _, _, [], ⟨Ext.newM e1.wf hD _ (by decide), setM_same, upd_same⟩, i0⟩, ?_⟩
    rintro j m H' ⟨rfl, hj, M', acc, ac, f⟩
    obtain ⟨wk1, wk2⟩ := wk M' H' ac.1.toS
    by_cases hlt : j < ds.length
    · obtain ⟨d, hd, hdr⟩ := drop_get hlt
      obtain ⟨go, yl⟩ := wk1 j d hd
      refine .inr ⟨go, fun H2 => ∃ M2 acc2, AccS X.prog X.w M1 H1 D acc2 M2 H2 ∧ Iv (ds.drop (j + 1)) acc2, fun H2 ⟨M2, a2, x⟩ => ⟨ds.length - (j + 1), by omega, rfl, hlt, M2, a2, x⟩, fun x H2 y => ?_⟩
      obtain ⟨M2, e2, dr⟩ := yl x H2 y
      rw [hdr] at f
      have ac2 := ac.ext e2
      have r2 := (((r.ext e1).ext ac2.1).wipe (own.map (·.2))).set (i := i) dr
      refine ⟨wipe_set σ hii _, M2, _, _, e2.wf, r2, iS _ _ _ f, fun k M3 H3 q3 e3 => ?_⟩
      have ac3 := ac2.ext e3
      cases k with
      | false => exact ⟨M3, acc, ac3, q3⟩
      | true =>
        simp only [if_true] at q3 ⊢
        refine ⟨M3, _, _, e3.wf, r2.ext e3, q3, fun v4 d4 M4 H4 q4 e4 dv4 => ?_⟩
        obtain ⟨n, rfl, l4, q5⟩ := DL.D.intP_ex q4
        obtain ⟨a1, a2, a3⟩ := ac3.ext e4
        exact ⟨acc, n, a3, dv4.int, l4, M4, _, ⟨a1.fill hD a2 _, a2, upd_same⟩, q5⟩
    · have e2 : j = ds.length := by omega
      subst e2
      rw [List.drop_length] at f
      obtain ⟨h64, f⟩ := iN _ f
      obtain ⟨a1, a2, a3⟩ := ac
      refine .inl ⟨wk2, D, acc, rfl, a3, fun ms hn hm => len64 h64 hn hm, fun ms p' hn hp' hm hpn => ?_⟩
      have em := sorted_of hn hp' hm
      subst em
      obtain ⟨x2, dr⟩ := newLst (K := X.K) a1.wf hpn (DRs.ofInts (K := X.K) (M := M') (H := H') (sortD acc))
      exact o _ _ _ _ f ((e1.trans a1).trans x2) (.inl dr)

def D.tyN : D → Option String
  | .non => some "NoneType"
  | .bl _ => some "bool"
  | .int _ => some "int"
  | .str _ => some "str"
  | .tup _ => some "tuple"
  | .lst _ => some "list"
  | .own _ => some "list"
  | .pen => some "list"
  | .ty _ => none
  | .fn _ => none
  | .dic => some "dict"
  | .exc _ _ => none
  | .gh _ _ _ _ => none
def TyS (K : PySem.W.Frag) (H : Hp) (x : V) (n : String) : Prop := match x with
  | .non => n = "NoneType"
  | .bl _ => n = "bool"
  | .int _ => n = "int"
  | .str _ => n = "str"
  | .ref a => (n = "list" ∧ ∃ xs, SqL K H a xs) ∨ (n = "tuple" ∧ ∃ xs, SqT K H a xs) ∨ (n = "dict" ∧ ∃ kvs, H a = some (.dK kvs))
  | _ => False
theorem cr_isi : CallR X (.builtin "isinstance") (fun xs H Q => ∃ x T n b, xs = [x, .ty T] ∧ TyS X.K H x n ∧ PySem.W.kitOne X.K (.type n) (.type T) = some b ∧ Q (.bl b) H) := by
  intro pins s σ H xs us Q I r h
  obtain ⟨x, T, n, b, rfl, ty, e, q⟩ := h
  obtain ⟨u, c, rfl, ru, rc⟩ : ∃ u c, us = [u, c] ∧ RelV x u ∧ RelV (.ty T) c := by
    cases r with | cons p t => cases t with | cons p' t' => cases t'; exact ⟨_, _, rfl, p, p'⟩
  cases (show c = Value.type T from rc)
  have fin : ∀ tk, EP X pins σ Q (.bool b) { s with toks := tk } := fun tk => ⟨.bl b, H, I.tok _, rfl, q⟩
  cases x with
  | non => cases (show u = Value.none from ru); cases (show n = _ from ty); exact PySem.W.kia_one PySem.W.kitx_none I.kIn True.intro e (fun z => nomatch z) fin
  | bl y => cases (show u = Value.bool y from ru); cases (show n = _ from ty); exact PySem.W.kia_one PySem.W.kitx_bool I.kIn True.intro e (fun z => nomatch z) fin
  | int i => obtain ⟨t, q⟩ := (show ∃ t, u = Value.int i t from ru); cases q; cases (show n = _ from ty); exact PySem.W.kia_one PySem.W.kitx_int I.kIn True.intro e (fun z => nomatch z) fin
  | str y => obtain ⟨t, q⟩ := (show ∃ t, u = Value.str y t from ru); cases q; cases (show n = _ from ty); exact PySem.W.kia_one PySem.W.kitx_str I.kIn True.intro e (fun z => nomatch z) fin
  | ref a =>
    cases (show u = Value.ref a from ru)
    rcases ty with ⟨rfl, xs, hq⟩ | ⟨rfl, xs, hq⟩ | ⟨rfl, kvs, hq⟩
    · obtain ⟨its, _, ⟨o, n, h1, h2, _⟩, _⟩ := I.list hq
      exact PySem.W.kia_one PySem.W.kitx_list I.kIn ⟨o, h1, h2⟩ e (fun z => nomatch z) fin
    · obtain ⟨its, _, ⟨o, h1, h2, _⟩, _⟩ := I.tuple hq
      exact PySem.W.kia_one PySem.W.kitx_tuple I.kIn ⟨o, h1, h2⟩ e (fun z => nomatch z) fin
    · obtain ⟨_, _, vs, _, o, es, ep, h1, h2, _⟩ := I.hok a _ hq
      exact PySem.W.kia_one PySem.W.kitx_dict I.kIn ⟨o, h1, h2.1⟩ e (fun z => nomatch z) fin
  | _ => exact False.elim ty
theorem DV.tyS {v : V} {d : D} {n : String} (w : Wf M H) (h : DV K M H v d) (e : d.tyN = some n) : TyS K H v n := by
  cases d with
  | non => cases h.non; cases e; exact rfl
  | bl b => cases h.bl; cases e; exact rfl
  | int i => cases h.int; cases e; exact rfl
  | str x => cases h.str; cases e; exact rfl
  | ty n => cases e
  | fn a => cases e
  | dic =>
    cases e
    rcases h with h | ⟨_, _, _, _, z, _⟩
    · cases h with | dic h1 h2 => exact .inr (.inr ⟨rfl, _, h2⟩)
    · cases z
  | exc x fs => cases e
  | gh _ _ _ _ => cases e
  | tup ds => cases e; obtain ⟨a, vs, rfl, hq, _⟩ := h.tuple; exact .inr (.inl ⟨rfl, _, hq⟩)
  | lst ds => cases e; obtain ⟨a, vs, rfl, hq, _⟩ := DV.list (.inl h); exact .inl ⟨rfl, _, hq⟩
  | own ds => cases e; obtain ⟨a, vs, rfl, hq, _⟩ := DV.list (.inr h); exact .inl ⟨rfl, _, hq⟩
  | pen => cases e; obtain ⟨a, rfl, h1⟩ := h.pen; obtain ⟨x, f, q, _⟩ := w.pen a h1; exact .inl ⟨rfl, _, SqL.of q⟩
def optB : Option Bool → (Bool → Prop) → Prop
  | some b, k => k b
  | _, _ => False
theorem optB_ex {o : Option Bool} {k : Bool → Prop} (h : optB o k) : ∃ d, o = some d ∧ k d := by
  match o, h with
  | some d, h => exact ⟨d, rfl, h⟩
def wIsi (f : D → Option Bool) (we : DTE) : DTE := fun ρ R => we ρ fun d => optB (f d) fun b => R (.bl b)
theorem d_isi {T : String} {x : Str} {p1 p2 : Pos} {f : D → Option Bool} (hf : ∀ (K : PySem.W.Frag) (d : D) (b : Bool), f d = some b → ∃ n, d.tyN = some n ∧ PySem.W.kitOne K (.type n) (.type T) = some b) (hg1 : Gl X "isinstance") (hm1 : X.mg "isinstance" = none)
    (hg2 : Gl X x) (hm2 : X.mg x = none) (hv : bootBuiltins x = some (.type T)) (he : DPE X e we) (hst : starEach [e, .Name x p2] X.env = [(false, eval e X.env), (false, eval (.Name x p2) X.env)] := by rfl) (hn : x ≠ "__name__" := by decide) (hd : (x == ("__debug__" : Str)) = false := by decide) :
    DPE X (.Call (.Name "isinstance" p1) [e, .Name x p2] [] pos) (wIsi f we) :=
  peC (pe_callB cr_isi hg1 hm1 (by decide +kernel) (pa_cons he (pa_cons (pe_bltn (v := .ty T) hg2 hm2 hv rfl hn hd) pa_nil (by rfl)) (by rw [hst]; rfl)) (by decide) (by decide) (by rw [hst]; rfl) (by rfl)) fun σ H Q ⟨M, ρ, R, w, r, q, o⟩ => by
    refine ⟨M, ρ, _, w, r, q, fun v d M1 H1 q1 e1 dv => ?_⟩
    obtain ⟨b, eb, q2⟩ := optB_ex q1
    obtain ⟨n, hn, hk⟩ := hf X.K d b eb
    exact ⟨v, T, n, b, rfl, dv.tyS e1.wf hn, hk, o _ _ M1 H1 q2 e1 (.inl (.bl b))⟩
def isInt : D → Option Bool
  | .int _ => some true
  | .bl _ => some true
  | .ty _ => none
  | .fn _ => none
  | .exc _ _ => none
  | .gh _ _ _ _ => none
  | _ => some false
def isBool : D → Option Bool
  | .bl _ => some true
  | .ty _ => none
  | .fn _ => none
  | .exc _ _ => none
  | .gh _ _ _ _ => none
  | _ => some false
def isTuple : D → Option Bool
  | .tup _ => some true
  | .ty _ => none
  | .fn _ => none
  | .exc _ _ => none
  | .gh _ _ _ _ => none
  | _ => some false
def isList : D → Option Bool
  | .lst _ => some true
  | .own _ => some true
  | .pen => some true
  | .ty _ => none
  | .fn _ => none
  | .exc _ _ => none
  | .gh _ _ _ _ => none
  | _ => some false
theorem isInt_ok (K : PySem.W.Frag) (d : D) (b : Bool) (h : isInt d = some b) : ∃ n, d.tyN = some n ∧ PySem.W.kitOne K (.type n) (.type "int") = some b := by
  cases d <;> first | (cases h; exact ⟨_, rfl, rfl⟩) | cases h
theorem isBool_ok (K : PySem.W.Frag) (d : D) (b : Bool) (h : isBool d = some b) : ∃ n, d.tyN = some n ∧ PySem.W.kitOne K (.type n) (.type "bool") = some b := by
  cases d <;> first | (cases h; exact ⟨_, rfl, rfl⟩) | cases h
theorem isTuple_ok (K : PySem.W.Frag) (d : D) (b : Bool) (h : isTuple d = some b) : ∃ n, d.tyN = some n ∧ PySem.W.kitOne K (.type n) (.type "tuple") = some b := by
  cases d <;> first | (cases h; exact ⟨_, rfl, rfl⟩) | cases h
structure OkR (p : PyData) : Prop where
  sh : p.showable = true
  nd : p.hasDict = false
  dp : p.depth ≤ 60
  sz : p.shown.length ≤ sizeLine
end
end DL
namespace DL
open PySem PySem.Spec PyProof.Rows L2 DS
section
variable {X : Cx} {K : PySem.W.Frag} {a b c e tg : Expr} {wa wb wc we : DTE} {pos : Pos}
def wNeg (wa : DTE) : DTE := fun ρ R => wa ρ fun x => x.intP fun i => R (.int (-i))
theorem d_neg (ha : DPE X a wa) : DPE X (.UnaryOp .USub a pos) (wNeg wa) := peC (pe_un un_neg ha) fun σ H Q ⟨M, ρ, R, w, r, q, o⟩ => by
  refine ⟨M, ρ, _, w, r, q, fun v d M1 H1 q1 e1 dv => ?_⟩
  obtain ⟨i, rfl, q2⟩ := D.intP_ex q1
  exact ⟨i, dv.int, o _ _ M1 H1 q2 e1 (.inl (.int _))⟩
theorem Def.mono {P : Program} {w : World} {K : PySem.W.Frag} {mg : Str → Option Value} {base : Heap} {j k : Nat} {x : Str} {ps : List Str} {S : DSp} (F : Def P w K mg base j x ps S) (h : j ≤ k) : Def P w K mg base k x ps S := by
  obtain ⟨f, fd, h1, h2, h3, h4⟩ := F.ex
  exact ⟨⟨f, fd, h1, h2, h3, h4.mono h⟩, F.len⟩
end
end DL

set_option Elab.async false
set_option linter.all false
set_option maxRecDepth 100000
set_option maxHeartbeats 4000000
namespace PySem
open Sem (wp)
open AutoSeq1 (wpAny_loadPart')
end PySem

set_option Elab.async false
set_option linter.all false
set_option maxRecDepth 100000
set_option maxHeartbeats 4000000
namespace L2
open PySem PySem.Spec PyProof.Rows

end L2
namespace DL
open PySem PySem.Spec PyProof.Rows L2
end DL

set_option Elab.async false
set_option linter.all false
set_option maxRecDepth 100000
set_option maxHeartbeats 4000000
namespace DL
open PySem PySem.Spec PyProof.Rows L2
section
variable {X : Cx} {K : PySem.W.Frag} {M M1 : Mk} {H H1 : Hp} {a b c e tg : Expr} {wa wb wc we : DTE} {va vb vc : DTT} {pos : Pos} {rest : List Expr}
theorem Ext.back (e : Ext M H M1 H1) {p : Addr} (h : H1 p = none) : H p = none := by
  cases q : H p with
  | none => rfl
  | some o =>
    by_cases n : Firm (M p)
    · rw [(e.keep p o q n).1] at h; cases h
    · obtain ⟨u, z⟩ := e.wf.here p (by rw [e.pen p n]; exact fun z => n (by rw [z]; decide))
      rw [h] at z; cases z
def OutF (K : PySem.W.Frag) (M : Mk) (H : Hp) (R : List D → Prop) (Q : VK) : Prop := ∀ a vs ds M' H', R ds → Ext M H M' H' → H a = none → M' a = 2 → H' a = some (.lst vs) → DRs K M' H' vs ds → Q (.ref a) H'
theorem OutF.ext {R : List D → Prop} {Q : VK} (o : OutF K M H R Q) (e : Ext M H M1 H1) : OutF K M1 H1 R Q := fun a vs ds M' H' q e' n => o a vs ds M' H' q (e.trans e') (e.back n)
def TDN (K : PySem.W.Frag) (w : DTA) : TE := fun σ H Q => ∃ M ρ R, Wf M H ∧ EnvR K M H σ ρ ∧ w ρ R ∧ OutF K M H R Q
abbrev DPN (X : Cx) (e : Expr) (w : DTA) : Prop := PE X e (TDN X.K w)
def wNL (t : DTA) : DTA := fun ρ R => t ρ fun ds => ds.length ≤ sizeLine ∧ ds.all D.nown = true ∧ R ds
theorem dn_lst {es : List Expr} {ta : DTA} (h : DPA X es ta) : DPN X (.List es pos) (wNL ta) := peC (pe_lst h) fun σ H Q ⟨M, ρ, R, w, r, q, o⟩ => by
  refine ⟨M, ρ, _, w, r, q, fun vs ds M1 H1 q1 e1 dvs => ?_⟩
  obtain ⟨hl, hn, q1⟩ := q1
  refine ⟨by rw [dvs.length]; exact hl, fun p hp => ?_⟩
  have e2 := Ext.newM e1.wf hp (.lst vs) (n := 2) (by decide)
  exact o p vs ds _ _ q1 (e1.trans e2) (e1.back hp) setM_same upd_same ((dvs.drs hn).ext e2)
theorem EnvR.setOwn {σ : L2.St} {ρ : DEnv} (r : EnvR K M H σ ρ) (e : Ext M H M1 H1) {i : Nat} {p : Addr} {vs : List V} {ds : List D} (hn : H p = none) (h2 : M1 p = 2) (ha : H1 p = some (.lst vs)) (hd : DRs K M1 H1 vs ds) : EnvR K M1 H1 (σ.set i (some (.ref p))) (ρ.set i (some (.own ds))) := by
  have r' := r.ext e
  have old : ∀ (j : Nat) (es : D), ρ[j]? = some (some es) → es.nown = false → σ[j]? = some (some (.ref p)) → False := fun j es q n s => by
    obtain ⟨v, s', dv⟩ := r.get j _ q
    rw [s] at s'; cases s'
    rcases dv with dr | ⟨b, us, fs, e1, e2, _, hb, _⟩
    · rw [dr.nown] at n; cases n
    · cases e1; obtain ⟨_, hb⟩ := hb.here; rw [hn] at hb; cases hb
  refine ⟨by rw [List.length_set, List.length_set]; exact r.len, fun j d' q => ?_, fun j k b fs gs q1 q2 n1 n2 s1 s2 => ?_, r'.tabs⟩
  · by_cases e : i = j
    · subst e
      rw [List.getElem?_set_self'] at q ⊢
      cases hr : ρ[i]? with
      | none => rw [hr] at q; cases q
      | some z =>
        rw [hr] at q; cases q
        have hl : i < σ.length := by rw [r.len]; exact (List.getElem?_eq_some_iff.mp hr).1
        rw [List.getElem?_eq_getElem hl]
        exact ⟨_, rfl, .inr ⟨p, vs, ds, rfl, .own ds, h2, ha, hd⟩⟩
    · rw [List.getElem?_set_ne e] at q ⊢
      exact r'.get j d' q
  · have at' : ∀ (j : Nat) (b : Addr), (σ.set i (some (.ref p)))[j]? = some (some (.ref b)) → j = i → b = p := fun j b s e => by
      subst e
      rw [List.getElem?_set_self'] at s
      cases hr : σ[j]? with
      | none => rw [hr] at s; cases s
      | some z => rw [hr] at s; cases s; rfl
    by_cases ej : j = i
    · by_cases ek : k = i
      · rw [ej, ek]
      · have := at' j b s1 ej
        subst this
        rw [List.getElem?_set_ne (Ne.symm ek)] at q2 s2
        exact (old k gs q2 n2 s2).elim
    · by_cases ek : k = i
      · have := at' k b s2 ek
        subst this
        rw [List.getElem?_set_ne (Ne.symm ej)] at q1 s1
        exact (old j fs q1 n1 s1).elim
      · rw [List.getElem?_set_ne (Ne.symm ej)] at q1 s1
        rw [List.getElem?_set_ne (Ne.symm ek)] at q2 s2
        exact r.uniq j k b fs gs q1 q2 n1 n2 s1 s2

theorem EnvR.fill {σ : L2.St} {ρ : DEnv} (r : EnvR K M H σ ρ) {i : Nat} {p : Addr} {vs : List V} {ds es : List D} (hi : ρ[i]? = some (some (.own es))) (hs : σ[i]? = some (some (.ref p))) (h2 : M p = 2) (hd : DRs K M H vs ds) : EnvR K M (upd H p (.lst vs)) σ (ρ.set i (some (.own ds))) := by
  have kp := keeps_fill (H := H) h2 (.lst vs)
  have inv : ∀ (j : Nat) (fs : D), (ρ.set i (some (.own ds)))[j]? = some (some fs) → fs.nown = false → ∃ fs', ρ[j]? = some (some fs') ∧ fs'.nown = false := fun j fs q n => by
    by_cases e : i = j
    · subst e; exact ⟨_, hi, rfl⟩
    · rw [List.getElem?_set_ne e] at q; exact ⟨_, q, n⟩
  refine ⟨by rw [List.length_set]; exact r.len, fun j d' q => ?_, fun j k b fs gs q1 q2 n1 n2 s1 s2 => ?_, r.tabs⟩
  · by_cases e : i = j
    · subst e
      rw [List.getElem?_set_self', hi] at q
      cases q
      exact ⟨_, hs, .inr ⟨p, vs, ds, rfl, .own ds, h2, upd_same, DRs.keeps kp _ _ hd⟩⟩
    · rw [List.getElem?_set_ne e] at q
      obtain ⟨v, s, dv⟩ := r.get j d' q
      refine ⟨v, s, ?_⟩
      rcases dv with dr | ⟨b, us, fs, rfl, od, m2, hb, hf⟩
      · exact .inl (DR.keeps kp _ _ dr)
      · refine .inr ⟨b, us, fs, rfl, od, m2, ?_, DRs.keeps kp _ _ hf⟩
        have : b ≠ p := fun z => e (r.uniq i j p _ _ hi q rfl od.nown hs (z ▸ s))
        exact hb.step kp.1 (upd_ne this)
  · obtain ⟨f1, q1', n1'⟩ := inv j fs q1 n1
    obtain ⟨f2, q2', n2'⟩ := inv k gs q2 n2
    exact r.uniq j k b f1 f2 q1' q2' n1' n2' s1 s2
theorem ExtS.fill {p : Addr} (x : Ext M H M1 H1) (h0 : M p = 2) (h2 : M1 p = 2) (o : HO) : ExtS M H M1 (upd H1 p o) := by
  refine ⟨⟨fun b hb => ?_, fun b hb => ?_, x.wf.tab.step (fun _ _ => rfl) (fun a o m h => by rw [upd_ne (fun e => by subst e; rw [h2] at m; exact absurd m (by decide))]; exact h) fun c o h z => ⟨by rw [upd_ne (fun e => by subst e; rw [h2] at z; cases z)]; exact h, z⟩⟩, fun b u h n m => ?_, x.pen⟩
  · by_cases e : b = p
    · subst e; exact ⟨_, upd_same⟩
    · obtain ⟨u, q⟩ := x.wf.here b hb
      exact ⟨u, by rw [upd_ne e]; exact q⟩
  · have e : b ≠ p := fun z => by subst z; rw [h2] at hb; cases hb
    obtain ⟨y, f, q, z⟩ := x.wf.pen b hb
    exact ⟨y, f, by rw [upd_ne e]; exact q, z⟩
  · have e : b ≠ p := fun z => by subst z; exact m h0
    obtain ⟨q1, q2⟩ := x.keep b u h n
    exact ⟨by rw [upd_ne e]; exact q1, q2⟩
theorem EnvR.own {σ : L2.St} {ρ : DEnv} (r : EnvR K M H σ ρ) {i : Nat} {ds : List D} (h : ρ[i]? = some (some (.own ds))) : ∃ p vs, σ[i]? = some (some (.ref p)) ∧ M p = 2 ∧ H p = some (.lst vs) ∧ DRs K M H vs ds := by
  obtain ⟨v, s, dv⟩ := r.get i _ h
  rcases dv with dr | ⟨b, us, fs, rfl, e, m2, hb, hf⟩
  · cases dr
  · cases e; exact ⟨b, us, s, m2, hb, hf⟩

def wSetN (i : Nat) (w : DTA) : DTS := fun DD ρ => w ρ fun ds => DD.nx (ρ.set i (some (.own ds)))
theorem ds_setN {i : Nat} {x : Str} {pos' : Pos} {w : DTA} (hN : X.N.Nodup) (hi : X.N[i]? = some x) (hx : Loc X.env.scope x) (he : DPN X e w) (hs : swapsWith e (some (.Name x pos')) pos.line X.env = pure false := by rfl) (hf : X.fn x = true ∨ X.env.scope.names.lookup x = some .local := by first | exact .inl rfl | exact .inr rfl | assumption) :
    DPS X (.Assign [.Name x pos'] e pos) (wSetN i w) := psC (ps_set hN hi hx he hs hf) fun E σ H ⟨M, ρ, DD, w, r, q, o⟩ =>
  ⟨M, ρ, _, w, r, q, fun p vs ds M1 H1 q1 e1 n m2 hp hd => o.nx _ _ M1 H1 q1 e1.toS (r.setOwn e1 n m2 hp hd)⟩
def ownP : Option (Option D) → (List D → Prop) → Prop
  | some (some (.own ds)), k => k ds
  | _, _ => False
theorem ownP_ex {o : Option (Option D)} {k : List D → Prop} (h : ownP o k) : ∃ ds, o = some (some (.own ds)) ∧ k ds := by
  unfold ownP at h
  split at h
  · exact ⟨_, rfl, h⟩
  · exact h.elim
def wApp (i : Nat) (ta : DTA) : DTS := fun DD ρ => ownP ρ[i]? fun es => ta ρ fun ds => oneP ds fun d => d.nown = true ∧ es.length < sizeLine ∧ DD.nx (ρ.set i (some (.own (es ++ [d]))))
theorem ds_append {i : Nat} {x : Str} {px apos cpos : Pos} {ta : DTA} (hN : X.N[i]? = some x) (hv : Vis X.env.scope x) (ha : DPA X [e] ta) (hd : (x == ("__debug__" : Str)) = false := by decide) (hcd : (x == ("__classdict__" : Str)) = false := by decide)
    (hs : swapsWith (.Call (.Attribute (.Name x px) "append" apos) [e] [] cpos) none pos.line X.env = pure false := by rfl)
    (hfew : ((backTo cpos (starEach [e] X.env)).all (fun x => !x.1) && (backToKw cpos (keywordEach [] X.env)).all (fun x => x.1.isSome) && decide ([e].length + ([] : List Keyword).length + (if ([] : List Keyword).isEmpty then 0 else 1) < 30)) = true := by rfl)
    (hline : (apos.endLine == cpos.line) = true := by rfl) (hst : starEach [e] X.env = (false, eval e X.env) :: starEach [] X.env := by rfl) (hpl : (backTo cpos (starEach [] X.env)).any (·.1) = false := by rfl) (hb : attributeBase (.Name x px) "append" X.env (eval (.Name x px) X.env) = eval (.Name x px) X.env := by rfl) :
    DPS X (.Expr (.Call (.Attribute (.Name x px) "append" apos) [e] [] cpos) pos) (wApp i ta) :=
  psC (ps_expr (pe_bm PySem.F.plainAttrs_list PySem.F.slot_list_append PySem.F.type_list_append mt_append (pe_var hN hv hd hcd) ha hb hfew hline hst hpl) hs) fun E σ H ⟨M, ρ, DD, w, r, q, o⟩ => by
  obtain ⟨es, hes, q⟩ := ownP_ex q
  obtain ⟨p, vs, hs, m2, hp, hd⟩ := r.own hes
  refine ⟨_, hs, .inl ⟨rfl, vs, .inl (.inl hp)⟩, M, ρ, _, w, r, q, fun us ds M1 H1 q1 e1 dvs => ?_⟩
  obtain ⟨d, rfl, nd, hl, q2⟩ := oneP_ex q1
  obtain ⟨v, rfl, dv⟩ := dvs.one
  obtain ⟨hp1, mm⟩ := e1.keep p _ hp (by rw [m2]; decide)
  refine ⟨p, vs, v, rfl, rfl, hp1, by rw [hd.length]; exact hl, ?_⟩
  exact o.nx _ _ M1 _ q2 (ExtS.fill e1 m2 (mm.trans m2) _) ((r.ext e1).fill hes hs (mm.trans m2) ((hd.ext e1).append (.cons (dv.dr nd) .nil)))
def wRetV (i : Nat) : DTS := fun DD ρ => ownP ρ[i]? DD.ro
theorem ds_retV (i : Nat) {x : Str} {px : Pos} (hN : X.N[i]? = some x := by rfl) (hv : Vis X.env.scope x := by first | exact Or.inl rfl | exact Or.inr (Or.inl rfl) | exact Or.inr (Or.inr rfl)) (hd : (x == ("__debug__" : Str)) = false := by decide) (hcd : (x == ("__classdict__" : Str)) = false := by decide) :
    DPS X (.Return (some (.Name x px)) pos) (wRetV i) := psC (ps_ret (pe_var hN hv hd hcd)) fun E σ H ⟨M, ρ, DD, w, r, q, o⟩ => by
  obtain ⟨es, hes, q⟩ := ownP_ex q
  obtain ⟨p, vs, hs, m2, hp, hd⟩ := r.own hes
  exact ⟨_, hs, o.ro p vs es M H q (.refl w) m2 hp hd⟩

def wSh (w : DTA) : DTE := fun ρ R => w ρ fun ds => R (.lst ds)
theorem d_sh {w : DTA} (h : DPN X e w) : DPE X e (wSh w) := peC h fun σ H Q ⟨M, ρ, R, w, r, q, o⟩ =>
  ⟨M, ρ, _, w, r, q, fun p vs ds M1 H1 q1 e1 n m2 hp hd => o _ _ (setM M1 p 0) H1 q1 (e1.unown n m2) (.inl (.lst (.inl ⟨setM_same, .inl hp⟩) (DRs.keeps (keeps_unown m2) _ _ hd)))⟩

abbrev DSo := List D → (List D → Prop) → Prop
def spO (K : PySem.W.Frag) (n : Nat) (S : DSo) : Sp := fun vs H Q _ => vs.length = n ∧ ∃ M ds R, (Wf M H ∧ TabsIn K M) ∧ DRs K M H vs ds ∧ S ds R ∧ OutF K M H R Q
def wCallO (S : DSo) (ta : DTA) : DTA := fun ρ R => ta ρ fun ds => ds.all D.nown = true ∧ S ds R
theorem td_callO {S : DSo} {ta : DTA} {n : Nat} (hn : ∀ ds R, S ds R → ds.length = n) {σ : L2.St} {Q : VK} (h : TDN K (wCallO S ta) σ H Q) : tCall (spO K n S) [] E0 (TDA K ta) σ H Q := by
  obtain ⟨M, ρ, R, w, r, q, o⟩ := h
  refine ⟨M, ρ, _, w, r, q, fun vs ds M1 H1 q1 e1 dvs => ?_⟩
  obtain ⟨hno, q1⟩ := q1
  have d := dvs.drs hno
  rw [List.append_nil]
  exact ⟨by rw [d.length]; exact hn ds R q1, M1, ds, R, ⟨e1.wf, r.tabs.pen e1.pen⟩, d, q1, o.ext e1⟩
structure DefO (P : Program) (w : World) (K : PySem.W.Frag) (mg : Str → Option Value) (base : Heap) (k : Nat) (x : Str) (ps : List Str) (S : DSo) : Prop where
  ex : ∃ (f : Addr) (fd : FuncData), mg x = some (.ref f) ∧ PySem.W.keepIn K (.ref f) = true ∧ Binds K fd ps [] ∧ FnOk P w K mg base CX0 k f fd ps (spO K ps.length S)
  len : ∀ ds R, S ds R → ds.length = ps.length
theorem dn_call {k : Nat} {x : Str} {ps : List Str} {S : DSo} {p : Pos} {es : List Expr} {ta : DTA} (F : DefO X.prog X.w X.K X.mg X.base k x ps S) (hr : Room k X.A) (hg : Gl X x) (ha : DPA X (e :: es) ta)
    (hdb : (x == ("__debug__" : Str)) = false := by decide) (he : starEach (e :: es) X.env = (false, eval e X.env) :: starEach es X.env := by rfl) (hpl : (backTo pos (starEach es X.env)).any (·.1) = false := by rfl) : DPN X (.Call (.Name x p) (e :: es) [] pos) (wCallO S ta) := by
  obtain ⟨f, fd, hm, hk, hb, G⟩ := F.ex
  exact peC (pe_call G hr hg hm hk hb .nil pass0 ha hdb he hpl) fun _ _ _ q => td_callO F.len q

def D.plain : D → Bool
  | .non => true
  | .bl _ => true
  | .int _ => true
  | .str _ => true
  | _ => false
theorem DV.plain {v : V} {d : D} (h : DV K M H v d) (p : d.plain = true) : DR K M1 H1 v d := by
  rcases h with h | ⟨_, _, _, _, od, _⟩
  · cases h with
    | non => exact .non
    | bl b => exact .bl b
    | int i => exact .int i
    | str x => exact .str x
    | ty n => cases p
    | fn a => cases p
    | dic _ _ => cases p
    | exc _ _ _ _ _ _ => cases p
    | tup _ _ => cases p
    | lst _ _ => cases p
    | pen _ => cases p
  · cases od <;> cases p
theorem DVs.frz : ∀ {vs : List V} {ds : List D}, DVs K M H vs ds → DRs K (DL.frz M) H vs (ds.map D.unown)
  | _, _, .nil => .nil
  | _, _, .cons h t => .cons h.frz (DVs.frz t)
theorem own_new {M' : Mk} {H' : Hp} (w : Wf M H) (e : ExtS (lockM M) H M' H') {p : Addr} (h2 : M' p = 2) : H p = none ∧ unlockM M M' p = 2 := by
  have hn : H p = none := by
    cases q : H p with
    | none => rfl
    | some o =>
      have l2 : lockM M p ≠ 2 := by unfold lockM; split <;> first | decide | assumption
      by_cases l1 : Firm (lockM M p)
      · rw [(e.keep p o q l1 l2).2] at h2; exact absurd h2 l2
      · rw [e.pen p l1] at h2; exact absurd h2 l2
  refine ⟨hn, ?_⟩
  unfold unlockM
  split
  · rfl
  · exact h2
end
theorem mkDefO {P : Program} {w : World} {K : PySem.W.Frag} {mg : Str → Option Value} {base : Heap} {x qual : Str} {st : Stmt} {f : Addr} {fd : FuncData} {N ps : List Str} {k : Nat} {S : DSo} (F : Fun K x qual st f fd) (hm : mg x = some (.ref f)) (hb : Binds K fd ps []) (sc : FnScope N ps (defScope st)) (hN : ps.length ≤ N.length)
    (len : ∀ ds R, S ds R → ds.length = ps.length)
    (body : ∀ (cdv : Value) (A : Around) (outer : List Env) (s : Shared) (H : Hp) (E : XK), Room k (A.deeper (envOfC qual (defScope st) s.heap.objs.size f cdv)) →
      ∃ wb, DPSs (cxOf CX0 P w K mg base N qual (defScope st) f cdv A outer s H E).nox (defBody st) wb ∧ ∀ ds R, S ds R → wb { nx := fun _ => False, rt := fun _ => False, ro := R } (startD N ds)) : DefO P w K mg base (k + 1) x ps S := by
  refine ⟨⟨f, fd, hm, F.kp, hb, F.ok sc (fun vs H Q E h => h.1) fun cdv A outer s H vs Q E hr h => ?_⟩, len⟩
  obtain ⟨wb, pb, hw⟩ := body cdv A outer s H E hr
  obtain ⟨hl, M, ds, R, ⟨wf, tb⟩, dr, hs, o⟩ := h
  obtain ⟨wl, kl⟩ := lock_wf wf
  refine ⟨_, pb, lockM M, startD N ds, _, wl, start_env tb.lock (DRs.keeps kl _ _ dr) (by omega), hw ds R hs, ⟨fun σ ρ M' H' q => q.elim, fun v d M' H' q => q.elim, fun σ ρ M' H' q => q.elim, fun σ ρ M' H' q => q.elim, fun p us es M' H' q e m2 hp hd => ?_⟩⟩
  obtain ⟨e1, k1⟩ := unlock_ext wf e
  obtain ⟨n1, n2⟩ := own_new wf e m2
  exact o p us es _ H' q e1 n1 n2 hp (DRs.keeps k1 _ _ hd)
end DL

set_option Elab.async false
set_option linter.all false
set_option maxRecDepth 100000
set_option maxHeartbeats 4000000
namespace DL
open PySem PySem.Spec PyProof.Rows L2
section
variable {X : Cx} {K : PySem.W.Frag} {M M1 : Mk} {H H1 : Hp} {a b c e tg : Expr} {wa wb wc we : DTE} {va vb vc : DTT} {pos : Pos} {rest : List Expr}

theorem DV.listOf {v : V} {d : D} {k : List D → Prop} (h : DV K M H v d) (q : d.lstP k) : ∃ ds a vs, k ds ∧ v = .ref a ∧ SqL K H a vs ∧ DRs K M H vs ds := by
  obtain ⟨ds, ex, r⟩ := D.lstP_ex q
  obtain ⟨l, vs, e, h1, d1⟩ := DV.list (show DV K M H v (.lst ds) ∨ DV K M H v (.own ds) from ex.elim (fun e => .inl (e ▸ h)) (fun e => .inr (e ▸ h)))
  exact ⟨ds, l, vs, r, e, h1, d1⟩
def rdSum : DN := fun ds R => oneP ds fun d => d.lstP fun xs => intsP xs fun ns => R (.int ns.sum)
theorem cp_sum : CpN K (rSum K) rdSum := by
  intro M H xs ds R Q w dvs h0 o
  obtain ⟨d, rfl, g⟩ := oneP_ex h0
  obtain ⟨v, rfl, h⟩ := dvs.one
  obtain ⟨es, p, vs, q, rfl, hs, hd⟩ := h.listOf g
  obtain ⟨ns, rfl, q2⟩ := intsP_ex q
  exact ⟨p, ns, rfl, hd.ints ▸ hs, o.nowR w q2 (.int _)⟩
def rdMaxL : DN := fun ds R => oneP ds fun d => d.lstP fun xs => intsP xs fun ns => 0 < ns.length ∧ ∀ m, m ∈ ns → (∀ y, y ∈ ns → y ≤ m) → R (.int m)
theorem cp_maxL : CpN K (rMax K) rdMaxL := by
  intro M H xs ds R Q w dvs h0 o
  obtain ⟨d, rfl, g⟩ := oneP_ex h0
  obtain ⟨v, rfl, h⟩ := dvs.one
  obtain ⟨es, p, vs, q, rfl, hs, hd⟩ := h.listOf g
  obtain ⟨ns, rfl, hn, q2⟩ := intsP_ex q
  exact ⟨p, ns, rfl, hd.ints ▸ hs, hn, fun m h1 h2 => o.nowR w (q2 m h1 h2) (.int _)⟩
def rdMin2 : DN := fun ds R => twoP ds fun a b => a.intP fun i => b.intP fun j => R (.int (if j < i then j else i))
theorem cp_min2 : CpN K (fun xs H Q => ∃ i j, xs = [.int i, .int j] ∧ Q (.int (if j < i then j else i)) H) rdMin2 := by
  intro M H xs ds R Q w dvs h0 o
  obtain ⟨da, db, rfl, h0n1⟩ := twoP_ex h0
  obtain ⟨i, rfl, h0n2⟩ := D.intP_ex h0n1
  obtain ⟨j, rfl, q⟩ := D.intP_ex h0n2
  obtain ⟨v, v', rfl, h, h'⟩ := dvs.two
  cases h.int; cases h'.int
  exact ⟨i, j, rfl, o.nowR w q (.int _)⟩

end
end DL

set_option Elab.async false
set_option linter.all false
set_option maxRecDepth 100000
set_option maxHeartbeats 4000000
namespace PySem
open Sem (wp)

end PySem
namespace L2
open PySem PySem.Spec PyProof.Rows

def TupsAt (K : PySem.W.Frag) (H : Hp) : List V → List (List Int) → Prop
  | [], [] => True
  | .ref p :: vs, ns :: nss => SqT K H p (ns.map V.int) ∧ TupsAt K H vs nss
  | _, _ => False
theorem TupsAt.len {K : PySem.W.Frag} {H : Hp} : ∀ {xs : List V} {nss : List (List Int)}, TupsAt K H xs nss → xs.length = nss.length
  | [], [], _ => rfl
  | .ref _ :: vs, _ :: nss, h => by rw [List.length_cons, List.length_cons, TupsAt.len h.2]
theorem TupsAt.get {K : PySem.W.Frag} {H : Hp} : ∀ {xs : List V} {nss : List (List Int)} {i : Nat} {x : V}, TupsAt K H xs nss → xs[i]? = some x → ∃ p, x = .ref p ∧ SqT K H p ((nss.getD i []).map V.int)
  | .ref p :: vs, ns :: nss, 0, x, h, e => by cases e; exact ⟨p, rfl, h.1⟩
  | .ref p :: vs, ns :: nss, i + 1, x, h, e => by
    have := TupsAt.get (i := i) h.2 (by simpa using e)
    simpa using this
theorem lexLt_irr : ∀ xs : List Int, HT.lexLt xs xs = false
  | [] => rfl
  | x :: xs => by rw [HT.lexLt_cons, if_pos rfl]; exact lexLt_irr xs
theorem lexLt_tri : ∀ {xs ys : List Int}, HT.lexLt xs ys = false → HT.lexLt ys xs = false → xs = ys
  | [], [], _, _ => rfl
  | [], _ :: _, h, _ => by cases h
  | _ :: _, [], _, h => by cases h
  | x :: xs, y :: ys, h1, h2 => by
    rw [HT.lexLt_cons] at h1 h2
    by_cases e : x = y
    · subst e
      rw [if_pos rfl] at h1 h2
      rw [lexLt_tri h1 h2]
    · rw [if_neg e] at h1
      rw [if_neg (Ne.symm e)] at h2
      have l1 : ¬ x < y := by simpa using h1
      have l2 : ¬ y < x := by simpa using h2
      omega

end L2
namespace DL
open PySem PySem.Spec PyProof.Rows L2
section
variable {X : Cx} {K : PySem.W.Frag} {M M1 : Mk} {H H1 : Hp} {a b c e tg : Expr} {wa wb wc we : DTE} {pos : Pos}
def D.ints? : D → Option (List Int)
  | .tup es => es.mapM D.int?
  | _ => none
def tupsP (ds : List D) (k : List (List Int) → Prop) : Prop := match ds.mapM D.ints? with
  | some ns => k ns
  | none => False
theorem mapM_tups : ∀ {ds : List D} {nss : List (List Int)}, ds.mapM D.ints? = some nss → ds = nss.map fun ns => D.tup (ns.map D.int)
  | [], ns, e => by simp at e; subst e; rfl
  | d :: ds, ns, e => by
    rw [List.mapM_cons] at e
    cases d with
    | tup es =>
      cases q0 : es.mapM D.int? with
      | none => simp [D.ints?, q0] at e
      | some l0 =>
        cases q : ds.mapM D.ints? with
        | none => simp [D.ints?, q0, q] at e
        | some l =>
          simp [D.ints?, q0, q] at e
          subst e
          rw [List.map_cons, ← mapM_tups q, ← mapM_ints q0]
    | _ => simp [D.ints?] at e
theorem mapM_of_tups : ∀ (nss : List (List Int)), (nss.map fun ns => D.tup (ns.map D.int)).mapM D.ints? = some nss
  | [] => rfl
  | ns :: nss => by
    have e : D.ints? (.tup (ns.map D.int)) = some ns := mapM_of_ints ns
    rw [List.map_cons, List.mapM_cons, e, mapM_of_tups nss]
    rfl
theorem tupsP_ex {ds : List D} {k : List (List Int) → Prop} (h : tupsP ds k) : ∃ nss, ds = (nss.map fun ns => D.tup (ns.map D.int)) ∧ k nss := by
  unfold tupsP at h
  split at h
  · rename_i ns e
    exact ⟨ns, mapM_tups e, h⟩
  · exact h.elim
theorem tupsP_of {nss : List (List Int)} {k : List (List Int) → Prop} (h : k nss) : tupsP (nss.map fun ns => D.tup (ns.map D.int)) k := by
  unfold tupsP
  rw [mapM_of_tups]
  exact h
theorem DRs.tups : ∀ {vs : List V} {nss : List (List Int)}, DRs K M H vs (nss.map fun ns => D.tup (ns.map D.int)) → TupsAt K H vs nss
  | _, [], .nil => trivial
  | _, ns :: nss, .cons h t => by
    cases h with
    | tup h1 h2 => exact ⟨h2.ints ▸ h1.sq, DRs.tups t⟩
end
end DL

set_option Elab.async false
set_option linter.all false
set_option maxRecDepth 100000
set_option maxHeartbeats 4000000
namespace L2
open PySem PySem.Spec PyProof.Rows

theorem Vals.rev {xs : List V} {us : List Value} (r : Vals xs us) : Vals xs.reverse us.reverse := by
  induction r with
  | nil => exact .nil
  | cons h t ih => rw [List.reverse_cons, List.reverse_cons]; exact ih.append (.cons h .nil)
end L2
namespace DL
open PySem PySem.Spec PyProof.Rows L2
section
variable {X : Cx} {K : PySem.W.Frag} {M M1 : Mk} {H H1 : Hp} {a b c e tg : Expr} {wa wb wc we : DTE} {pos : Pos}
theorem DRs.rev : ∀ {vs : List V} {ds : List D}, DRs K M H vs ds → DRs K M H vs.reverse ds.reverse
  | _, _, .nil => .nil
  | _, _, .cons h t => by rw [List.reverse_cons, List.reverse_cons]; exact (DRs.rev t).append (.cons h .nil)
end
end DL

set_option Elab.async false
set_option linter.all false
set_option maxRecDepth 100000
set_option maxHeartbeats 4000000
namespace DL
open PySem PySem.Spec PyProof.Rows L2
section
variable {X : Cx} {K : PySem.W.Frag} {M M1 : Mk} {H H1 : Hp} {a b c e tg : Expr} {wa wb wc we : DTE} {va vb vc : DTT} {pos : Pos} {rest : List Expr}

def intAt : Option (Option D) → (Int → Prop) → Prop
  | some (some (.int i)), k => k i
  | _, _ => False
theorem intAt_ex {o : Option (Option D)} {k : Int → Prop} (h : intAt o k) : ∃ i, o = some (some (.int i)) ∧ k i := by
  unfold intAt at h
  split at h
  · exact ⟨_, rfl, h⟩
  · exact h.elim
def wAug (i : Nat) (f : Int → Int → Int) (we : DTE) : DTS := fun DD ρ => intAt ρ[i]? fun x => we ρ fun d => d.intP fun y => DD.nx (ρ.set i (some (.int (f x y))))
theorem ds_augI {i : Nat} {x : Str} {pos' : Pos} {op : Operator} {f : Int → Int → Int} (hp : PIp X op (ipI f)) (hN : X.N.Nodup) (hi : X.N[i]? = some x) (hx : Loc X.env.scope x) (he : DPE X e we) (hf : X.fn x = true ∨ X.env.scope.names.lookup x = some .local := by first | exact .inl rfl | exact .inr rfl | assumption) :
    DPS X (.AugAssign (.Name x pos') op e pos) (wAug i f we) := psC (ps_aug hN hi hx he hp hf) fun E σ H ⟨M, ρ, DD, w, r, q, o⟩ => by
  obtain ⟨n, hn, q⟩ := intAt_ex q
  obtain ⟨v, hv, dv⟩ := r.get i _ hn
  cases dv.int
  refine ⟨_, hv, M, ρ, _, w, r, q, fun y d M1 H1 q1 e1 dv1 => ?_⟩
  obtain ⟨k, rfl, q2⟩ := D.intP_ex q1
  cases dv1.int
  exact ⟨n, k, rfl, rfl, o.nx _ _ M1 H1 q2 e1.toS ((r.ext e1).set (.int _))⟩

def wWhile (c : DTT) (tb : DTS) : DTS := fun DD ρ => ∃ Iv : Nat → DEnv → Prop, (∃ m, Iv m ρ) ∧ ∀ m ρ, Iv m ρ → c ρ fun k => if k = true then tb { DD with nx := fun ρ' => ∃ m', m' < m ∧ Iv m' ρ', ct := fun ρ' => ∃ m', m' < m ∧ Iv m' ρ', bk := DD.nx } ρ else DD.nx ρ
theorem ds_while {body : List Stmt} {tb : DTS} (hp : PassesOwn (model X.prog X.w) X.A X.env X.xe) (hc : DPT X c vc) (hb : DPSs X body tb) : DPS X (.While c body [] pos) (wWhile vc tb) := psC (ps_while hp hc hb) fun E σ H ⟨M, ρ, DD, w, r, q, o⟩ => by
  obtain ⟨Iv, ⟨m0, i0⟩, iS⟩ := q
  refine ⟨fun m σ' H' => ∃ M' ρ', ExtS M H M' H' ∧ EnvR X.K M' H' σ' ρ' ∧ Iv m ρ', ⟨m0, M, ρ, .refl w, r, i0⟩, ?_⟩
  rintro m σ' H' ⟨M', ρ', e', r', f⟩
  refine ⟨M', ρ', _, e'.wf, r', iS m ρ' f, fun k M1 H1 q1 e1 => ?_⟩
  have s1 : ExtS M H M1 H1 := e'.transE e1
  cases k with
  | false => exact o.nx _ _ M1 H1 q1 s1 (r'.ext e1)
  | true =>
    simp only [if_true] at q1 ⊢
    refine ⟨fun σ2 H2 => ∃ m', m' < m ∧ ∃ M2 ρ2, ExtS M H M2 H2 ∧ EnvR X.K M2 H2 σ2 ρ2 ∧ Iv m' ρ2, fun σ2 H2 h => h, ?_⟩
    have oo := o.extS s1
    exact ⟨M1, ρ', _, e1.wf, r'.ext e1, q1, ⟨fun σ4 ρ4 M4 H4 ⟨m', lt, q4⟩ e4 r4 => ⟨m', lt, M4, ρ4, s1.trans e4, r4, q4⟩, oo.rt, oo.nx, fun σ4 ρ4 M4 H4 ⟨m', lt, q4⟩ e4 r4 => ⟨m', lt, M4, ρ4, s1.trans e4, r4, q4⟩, oo.ro⟩⟩
end
end DL

set_option Elab.async false
set_option linter.all false
set_option maxRecDepth 100000
set_option maxHeartbeats 4000000
namespace HT
open PySem PySem.Spec PyProof.Rows L2
section
variable {prog : Program} {w : World} {A : Around} {E : Value → Shared → Prop} {s : Shared}

theorem cat_tup0 {t b : Addr} {ws : List Value} {Q : Value → Shared → Prop} (ht : IsTup s.heap t (#[] : Array Value)) (hb : IsTup s.heap b ws.toArray) (h1 : Q (.ref b) s) : wpAny (model prog w) A (binaryOp .Add (.ref t) (.ref b)) Q E s := by
  obtain ⟨⟨cls, dd, data, sl⟩, ho, hc, n, hd⟩ := id ht
  obtain ⟨⟨cls2, dd2, data2, sl2⟩, ho2, hc2, n2, hd2⟩ := id hb
  simp only at hc hd hc2 hd2
  subst hc hd hc2 hd2
  exact concat_meets ⟨_, ho, rfl⟩ ⟨_, ho2, rfl⟩ noFill_tuple_add seq_tuple_add PySem.F.slot_tuple_add PySem.F.entry_tuple_add (PySem.F.args_tuple_add_2 _ _) (tuple_addW0 t b #[] ws.toArray n n2 dd dd2 sl sl2 rfl) ⟨ho, ho2, h1⟩
end
end HT
namespace L2
open PySem PySem.Spec PyProof.Rows
end L2
namespace DL
open PySem PySem.Spec PyProof.Rows L2
end DL

set_option Elab.async false
set_option linter.all false
set_option maxRecDepth 100000
set_option maxHeartbeats 4000000
namespace HT
open PySem PySem.Spec PyProof.Rows L2
section
variable {prog : Program} {w : World} {A : Around} {E : Value → Shared → Prop} {s : Shared}

end
end HT
namespace L2
open PySem PySem.Spec PyProof.Rows
end L2
namespace DL
open PySem PySem.Spec PyProof.Rows L2
end DL

set_option Elab.async false
set_option linter.all false
set_option maxRecDepth 100000
set_option maxHeartbeats 4000000
namespace L2
open PySem PySem.Spec PyProof.Rows
end L2
namespace DL
open PySem PySem.Spec PyProof.Rows L2
section
variable {X : Cx} {K : PySem.W.Frag} {M M1 : Mk} {H H1 : Hp} {a b c e tg : Expr} {wa wb wc we : DTE} {pos : Pos}

end
end DL

set_option Elab.async false
set_option linter.all false
set_option maxRecDepth 100000
set_option maxHeartbeats 4000000
namespace L2
open PySem PySem.Spec PyProof.Rows
section
variable {X : Cx} {a b : Expr} {ta tb : TE} {rest : List Expr} {pos : Pos}

end

end L2
namespace L2
open PySem PySem.Spec PyProof.Rows
end L2
namespace DL
open PySem PySem.Spec PyProof.Rows L2
section
variable {X : Cx} {K : PySem.W.Frag} {M M1 : Mk} {H H1 : Hp} {a b e : Expr} {wa wb : DTE} {pos : Pos} {rest : List Expr}
def rdSorted : DN := fun ds R => oneP ds fun d => d.lstP fun xs => intsP xs fun ns => ns.length < 64 ∧ ∀ ns' : List Int, ns'.Perm ns → ns'.Pairwise (· ≤ ·) → R (.lst (ns'.map .int))
theorem cp_sorted : CpN K (rSorted K) rdSorted := by
  intro M H xs ds R Q w dvs h0 o
  obtain ⟨d, rfl, g⟩ := oneP_ex h0
  obtain ⟨v, rfl, h⟩ := dvs.one
  obtain ⟨es, p, vs, q, rfl, hs, hd⟩ := h.listOf g
  obtain ⟨ns, rfl, hn, q2⟩ := intsP_ex q
  refine ⟨p, ns, rfl, hd.ints ▸ hs, hn, fun ns' l h1 h2 hl => ?_⟩
  obtain ⟨e2, dr⟩ := newLst w hl (DRs.ofInts ns')
  exact o _ _ _ _ (q2 ns' h1 h2) e2 (.inl dr)

end
end DL

set_option Elab.async false
set_option linter.all false
set_option maxRecDepth 100000
set_option maxHeartbeats 4000000
namespace L2
open PySem PySem.Spec PyProof.Rows
section
variable {X : Cx} {a b c : Expr} {ta : TA} {p1 p2 pos1 pos2 : Pos}

theorem sorted_tup {prog : Program} {w : World} {A : Around} {E : Value → Shared → Prop} {s : Shared} {l : Addr} {o : Obj} {n : Nat} {vs : List Value} {ns : List Int} {Q : Value → Shared → Prop} (ho : s.heap.get? l = some o) (hc : o.cls = .type "tuple") (hd : o.data = .seq vs.toArray n) (hI : IntsAre vs ns) (h64 : vs.length < 64)
    (h : ∀ (h1 h2 : Heap) (out : Array Value) (ns' : List Int), (∀ b o, s.heap.get? b = some o → h1.get? b = some o) → (∀ b o, h1.get? b = some o → h2.get? b = some o) → (∃ e, h2.get? h1.objs.size = some (seqObj "list" out e)) → IntsAre out.toList ns' → ns'.Perm ns → ns'.Pairwise (· ≤ ·) → Q (.ref h1.objs.size) { s with heap := h2 }) : wpAny (model prog w) A (call (.builtin "sorted") [.ref l]) Q E s := by
  refine (Calls.call_function_entry kind_sorted plain_sorted entry_sorted (args_sorted1 _) ?_)
  unfold Builtin.«sorted»
  refine (wpAny_bind (m := checkCount "sorted" 1 1 _) (wpAny_pure ?_))
  refine wpAny_bind (wpAny_collect_seq l (.inr rfl) ho hc hd (fun h' hk => ?_) (by rw [List.size_toArray, sizeLine_eq]; omega))
  refine wpAny_bind (wpAny_newList ?_)
  have g0 : (h'.push (seqObj "list" vs.toArray 0)).get? h'.objs.size = some (seqObj "list" vs.toArray 0) := Heap.get?_push_size _ rfl
  refine wpAny_bind (wpAny_holding (wpAny_call_entry slot_list_sort ⟨_, g0, rfl⟩ entry_list_sort (list_sort_tree (s := { s with heap := h'.push (seqObj "list" vs.toArray 0) }) g0 hI h64 fun out ns' a1 a2 a3 => ⟨_, rfl, ?_⟩) (args_list_sort _)))
  refine wpAny_pure ⟨_, rfl, ?_⟩
  refine h h' _ out ns' hk (fun b o' e1 => ?_) (sortedHeap_at g0) a1 a2 a3
  have lt := Heap.lt_size e1
  rw [sortedHeap_old (Nat.ne_of_lt lt) (by rw [size_push']; exact Nat.lt_succ_of_lt lt)]
  exact Heap.get?_push_of_some _ e1
def rSortedT (K : PySem.W.Frag) : List V → Hp → VK → Prop := fun vs H Q => ∃ (a : Addr) (ns : List Int), vs = [V.ref a] ∧ SqT K H a (ns.map V.int) ∧ ns.length < 64 ∧ ∀ (ns' : List Int) (p : Addr), ns'.Perm ns → ns'.Pairwise (· ≤ ·) → H p = none → Q (.ref p) (upd H p (.lst (ns'.map V.int)))
theorem cr_sortedT : CallR X (.builtin "sorted") (rSortedT X.K) := by
  intro pn s σ H vs us Q I r h
  obtain ⟨a, ns, rfl, hs, h64, q⟩ := h
  obtain ⟨its, rv, hl, _⟩ := I.tuple hs
  rw [Vals.ref1 r]
  have hi := rv.ints
  obtain ⟨o, ho, hc, m, hd⟩ := hl
  refine sorted_tup ho hc hd hi (by rw [hi.length]; exact h64) fun h1 h2 out ns' k1 k2 ex g1 g2 g3 => ?_
  obtain ⟨ep, he⟩ := ex
  have I1 : Inv X pn σ H { s with heap := h1 } := I.kept (t' := s.toks) k1
  have ln : (ns'.map V.int).length ≤ sizeLine := by rw [List.length_map, g2.length_eq]; exact small64 h64
  exact ⟨.ref h1.objs.size, upd H h1.objs.size (.lst (ns'.map V.int)), I1.laid (t' := s.toks) k2 (Nat.le_refl _) ⟨ln, out.toList, ep, vals_of_ints g1, he⟩, rfl, q ns' _ g2 g3 (I1.hok.fresh (Nat.le_refl _))⟩
end
end L2
namespace DL
open PySem PySem.Spec PyProof.Rows L2 DS
section
variable {X : Cx} {K : PySem.W.Frag} {M M1 : Mk} {H H1 : Hp} {a b c e : Expr} {wa wb we : DTE} {pos : Pos} {rest : List Expr}
def rdSortedT : DN := fun ds R => oneP ds fun d => d.tupP fun xs => intsP xs fun ns => ns.length < 64 ∧ ∀ ns' : List Int, ns'.Perm ns → ns'.Pairwise (· ≤ ·) → R (.lst (ns'.map .int))
theorem cp_sortedT : CpN K (rSortedT K) rdSortedT := by
  intro M H xs ds R Q w dvs h0 o
  obtain ⟨d, rfl, g⟩ := oneP_ex h0
  obtain ⟨v, rfl, h⟩ := dvs.one
  obtain ⟨es, rfl, q⟩ := D.tupP_ex g
  obtain ⟨p, vs, rfl, hs, hd⟩ := DV.tuple h
  obtain ⟨ns, rfl, hn, q2⟩ := intsP_ex q
  refine ⟨p, ns, rfl, hd.ints ▸ hs, hn, fun ns' l h1 h2 hl => ?_⟩
  obtain ⟨e2, dr⟩ := newLst w hl (DRs.ofInts ns')
  exact o _ _ _ _ (q2 ns' h1 h2) e2 (.inl dr)

end
end DL

set_option Elab.async false
set_option linter.all false
set_option maxRecDepth 100000
set_option maxHeartbeats 4000000
namespace DL
open PySem PySem.Spec PyProof.Rows L2 DS
section
variable {X : Cx} {K : PySem.W.Frag} {M M1 : Mk} {H H1 : Hp} {a b c e : Expr} {wa wb we : DTE} {pos : Pos} {rest : List Expr}

def compP (i i2 : Nat) (tt : DTT) (te : DTE) (ρw : DEnv) (fin : List D → Prop) (ds acc : List D) : Prop := ∃ Iv : List D → List D → Prop, Iv ds acc ∧ (∀ acc, Iv [] acc → fin acc) ∧
  ∀ d ds acc, Iv (d :: ds) acc → ∃ u v, d = .tup [u, v] ∧ tt ((ρw.set i (some u)).set i2 (some v)) fun k => if k = true then te ((ρw.set i (some u)).set i2 (some v)) fun y => y.nown = true ∧ acc.length < sizeLine ∧ Iv ds (acc ++ [y]) else Iv ds acc
def wLcP (wi : DTI) (i i2 : Nat) (tt : DTT) (te : DTE) (vs : List Nat) : DTE := fun ρ R => wi ρ fun ds => compP i i2 tt te (wipeD ρ vs) (fun acc => R (.lst acc)) ds []
theorem wipe_at (σ : L2.St) {vs : List Nat} {i : Nat} (h : i ∈ vs) (v : Option V) : L2.wipe (σ.set i v) vs = L2.wipe σ vs := by
  apply List.ext_getElem?
  intro j
  rw [wipe_get, wipe_get]
  by_cases e : j ∈ vs
  · rw [if_pos e, if_pos e, List.length_set]
  · have : i ≠ j := fun z => e (z ▸ h)
    rw [if_neg e, if_neg e, List.getElem?_set_ne this]
theorem td_lcP {wi : DTI} {i i2 : Nat} {tt : DTT} {te : DTE} {vs : List Nat} (hi : i ∈ vs) (hi2 : i2 ∈ vs) {σ : L2.St} {Q : VK} (h : TD K (wLcP wi i i2 tt te vs) σ H Q) : tLc (TDI K wi) (gTup K 2 (gCons (gName i) (gCons (gName i2) gNil))) (TDT K tt) (TD K te) vs σ H Q := by
  obtain ⟨M, ρ, R, w, r, q, o⟩ := h
  refine ⟨M, ρ, _, w, r, q, fun ds J M1 H1 q1 e1 wk D hD => ?_⟩
  obtain ⟨Iv, i0, iN, iS⟩ := q1
  refine ⟨fun j m H' => m = ds.length - j ∧ j ≤ ds.length ∧ ∃ M' acc, Acc K M1 H1 D acc M' H' ∧ Iv (ds.drop j) acc, ⟨_, rfl, Nat.zero_le _, _, [], Acc.start e1.wf hD, i0⟩, ?_⟩
  rintro j m H' ⟨rfl, hj, M', acc, ac, f⟩
  obtain ⟨wk1, wk2⟩ := wk M' H' ac.1.toS
  by_cases hlt : j < ds.length
  · obtain ⟨d, hd, hdr⟩ := drop_get hlt
    obtain ⟨go, yl⟩ := wk1 j d hd
    refine .inr ⟨go, fun H2 => ∃ M2 acc2, Acc K M1 H1 D acc2 M2 H2 ∧ Iv (ds.drop (j + 1)) acc2, fun H2 ⟨M2, a2, x⟩ => ⟨ds.length - (j + 1), by omega, rfl, hlt, M2, a2, x⟩, fun x H2 y => ?_⟩
    obtain ⟨M2, e2, dr⟩ := yl x H2 y
    rw [hdr] at f
    obtain ⟨u, v, rfl, f'⟩ := iS _ _ _ f
    have ac2 := ac.ext e2
    obtain ⟨p, ws, rfl, ht, hw⟩ := DV.tuple (.inl dr)
    cases hw with
    | cons d1 hw =>
      cases hw with
      | cons d2 hw =>
        cases hw
        have r2 := ((((r.ext e1).ext ac2.1).wipe vs).set (i := i) d1).set (i := i2) d2
        refine ⟨p, _, rfl, ht, rfl, ?_⟩
        refine ⟨_, _, rfl, ?_⟩
        refine ⟨_, _, rfl, ?_⟩
        refine ⟨rfl, ?_⟩
        refine ⟨by rw [wipe_at _ hi2, wipe_set σ hi _], ?_⟩
        refine ⟨M2, _, _, e2.wf, r2, f', fun k M3 H3 q3 e3 => ?_⟩
        have ac3 := ac2.ext e3
        cases k with
        | false => exact ⟨M3, acc, ac3, q3⟩
        | true =>
          simp only [if_true] at q3 ⊢
          refine ⟨M3, _, _, e3.wf, r2.ext e3, q3, fun v4 d4 M4 H4 q4 e4 dv4 => ?_⟩
          obtain ⟨n4, l4, q4⟩ := q4
          obtain ⟨av, h1, h2, h3⟩ := (ac3.ext e4).push hD (dv4.dr n4)
          exact ⟨av, h1, by rw [h2]; exact l4, M4, _, h3, q4⟩
  · have e2 : j = ds.length := by omega
    subst e2
    rw [List.drop_length] at f
    obtain ⟨x1, x2⟩ := ac.done hD
    exact .inl ⟨wk2, o _ _ _ _ (iN _ f) (e1.trans x1) (.inl x2)⟩
theorem d_lcP {elt iter : Expr} {tg : Expr} {ifs : List Expr} {scope : Scope} {own : List (Str × Nat)} {wi : DTI} {i i2 : Nat} {tt : DTT} {te : DTE} (hc : X.calm = true) (hN : X.N.Nodup) (hii : i ∈ own.map (·.2)) (hii2 : i2 ∈ own.map (·.2)) (hi : DPI X tg iter wi) (ok : BlkOk X.N X.env.scope scope own)
    (hg : ∀ (s : Shared) (H : Hp) (C : Addr) (cl : List (Str × Addr)) (fp : List Addr), PG (X.blk s H scope (compEnvC scope cl C X.env) fp) tg (gTup X.K 2 (gCons (gName i) (gCons (gName i2) gNil)))) (ht : ∀ (s : Shared) (H : Hp) (C : Addr) (cl : List (Str × Addr)) (fp : List Addr), PTs (X.blk s H scope (compEnvC scope cl C X.env) fp) ifs (TDT X.K tt))
    (he : ∀ (s : Shared) (H : Hp) (C : Addr) (cl : List (Str × Addr)) (fp : List Addr), DPE (X.blk s H scope (compEnvC scope cl C X.env) fp) elt te) (hs : ∀ x, foldedSetIterable iter X.env x = pure x := by intro _; rfl) :
    DPE X (.ListComp elt [⟨tg, iter, ifs, 0⟩] scope pos) (wLcP wi i i2 tt te (own.map (·.2))) := peC (pe_lc hc hN hi ok hg ht he hs) fun _ _ _ q => td_lcP hii hii2 q
end
end DL

set_option Elab.async false
set_option linter.all false
set_option maxRecDepth 100000
set_option maxHeartbeats 4000000
namespace DL
open PySem PySem.Spec PyProof.Rows L2 DS
section
variable {X : Cx} {K : PySem.W.Frag} {M M1 : Mk} {H H1 : Hp} {a b c e tg : Expr} {wa wb we : DTE} {pos : Pos} {rest : List Expr}

end
end DL

set_option Elab.async false
set_option linter.all false
set_option maxRecDepth 100000
set_option maxHeartbeats 4000000
namespace DL
open PySem PySem.Spec PyProof.Rows L2 DS
section
variable {X : Cx} {K : PySem.W.Frag} {M M1 : Mk} {H H1 : Hp} {a b c e tg : Expr} {wa wb we : DTE} {pos : Pos} {rest : List Expr}

theorem toP_nown {d : D} {p : PyData} (h : d.toP = some p) : d.nown = true := by
  cases d <;> first | rfl | (unfold D.toP at h; cases h)
end
end DL

set_option Elab.async false
set_option linter.all false
set_option maxRecDepth 100000
set_option maxHeartbeats 4000000
namespace L2
open PySem PySem.Spec PyProof.Rows
end L2
namespace DL
open PySem PySem.Spec PyProof.Rows L2 DS
end DL

set_option Elab.async false
set_option linter.all false
set_option maxRecDepth 100000
set_option maxHeartbeats 4000000
namespace DS
open PySem PySem.Spec PyProof.Rows
end DS

set_option Elab.async false
set_option linter.all false
set_option maxRecDepth 100000
set_option maxHeartbeats 4000000
namespace DL
open PySem PySem.Spec PyProof.Rows L2 DS
section
variable {X : Cx} {K : PySem.W.Frag} {M M1 : Mk} {H H1 : Hp} {a b c e tg : Expr} {wa wb we : DTE} {pos : Pos} {rest : List Expr}

end
end DL

set_option Elab.async false
set_option linter.all false
set_option maxRecDepth 100000
set_option maxHeartbeats 4000000
namespace DL
open PySem PySem.Spec PyProof.Rows L2 DS

theorem lc_det {i : Nat} {tt : DTT} {te : DTE} {ρw : DEnv} {fin : List D → Prop} {ds : List D} (p : D → Bool) (f : D → D) (ht : ∀ d ∈ ds, ∀ Q : Bool → Prop, Q (p d) → tt (ρw.set i (some d)) Q)
    (he : ∀ d ∈ ds, p d = true → ∀ Q : D → Prop, Q (f d) → te (ρw.set i (some d)) Q) (hn : ∀ d ∈ ds, p d = true → (f d).nown = true) (hl : ds.length ≤ sizeLine) (h : fin ((ds.filter p).map f)) : compI i tt te ρw fin ds [] := by
  refine ⟨fun rest acc => ∃ done, ds = done ++ rest ∧ acc = (done.filter p).map f, ⟨[], rfl, rfl⟩, ?_, ?_⟩
  · rintro acc ⟨done, e, rfl⟩
    rw [List.append_nil] at e
    subst e
    exact h
  · rintro d rest acc ⟨done, e, rfl⟩
    have hd : d ∈ ds := by rw [e]; simp
    refine ht d hd _ ?_
    cases hp : p d with
    | false =>
      rw [if_neg (by simp)]
      exact ⟨done ++ [d], by rw [e]; simp, by simp [hp]⟩
    | true =>
      rw [if_pos rfl]
      refine he d hd hp _ ⟨hn d hd hp, ?_, done ++ [d], by rw [e]; simp, by simp [hp]⟩
      have h1 : ((done.filter p).map f).length ≤ done.length := by rw [List.length_map]; exact List.length_filter_le _ _
      have h2 : ds.length = done.length + (rest.length + 1) := by rw [e]; simp
      omega
theorem sc_det {i : Nat} {tt : DTT} {te : DTE} {ρw : DEnv} {fin : List Int → Prop} {ds : List D} (p : D → Bool) (f : D → Int) (ht : ∀ d ∈ ds, ∀ Q : Bool → Prop, Q (p d) → tt (ρw.set i (some d)) Q)
    (he : ∀ d ∈ ds, p d = true → ∀ Q : D → Prop, Q (.int (f d)) → te (ρw.set i (some d)) Q) (hl : ds.length + 1 < scanBound) (h : fin ((ds.filter p).map f)) : scI i tt te ρw fin ds [] := by
  refine ⟨fun rest acc => ∃ done, ds = done ++ rest ∧ acc = (done.filter p).map f, ⟨[], rfl, rfl⟩, ?_, ?_⟩
  · rintro acc ⟨done, e, rfl⟩
    rw [List.append_nil] at e
    subst e
    exact h
  · rintro d rest acc ⟨done, e, rfl⟩
    have hd : d ∈ ds := by rw [e]; simp
    refine ht d hd _ ?_
    cases hp : p d with
    | false =>
      rw [if_neg (by simp)]
      exact ⟨done ++ [d], by rw [e]; simp, by simp [hp]⟩
    | true =>
      rw [if_pos rfl]
      refine he d hd hp _ (show _ ∧ _ from ⟨?_, done ++ [d], by rw [e]; simp, by simp [hp]⟩)
      have h1 : ((done.filter p).map f).length ≤ done.length := by rw [List.length_map]; exact List.length_filter_le _ _
      have h2 : ds.length = done.length + (rest.length + 1) := by rw [e]; simp
      omega

theorem lc_any {i : Nat} {tt : DTT} {te : DTE} {ρw : DEnv} {fin : List D → Prop} {ds : List D} (ht : ∀ d ∈ ds, ∀ Q : Bool → Prop, (∀ b, Q b) → tt (ρw.set i (some d)) Q)
    (he : ∀ d ∈ ds, ∀ Q : D → Prop, Q d → te (ρw.set i (some d)) Q) (hn : ∀ d ∈ ds, d.nown = true) (hl : ds.length ≤ sizeLine) (h : ∀ es, es.Sublist ds → fin es) : compI i tt te ρw fin ds [] := by
  refine ⟨fun rest acc => ∃ done, ds = done ++ rest ∧ acc.Sublist done, ⟨[], rfl, .slnil⟩, ?_, ?_⟩
  · rintro acc ⟨done, e, hs⟩
    rw [List.append_nil] at e
    subst e
    exact h acc hs
  · rintro d rest acc ⟨done, e, hs⟩
    have hd : d ∈ ds := by rw [e]; simp
    refine ht d hd _ fun b => ?_
    cases b with
    | false =>
      rw [if_neg (by simp)]
      exact ⟨done ++ [d], by rw [e]; simp, hs.trans (List.sublist_append_left _ _)⟩
    | true =>
      rw [if_pos rfl]
      refine he d hd _ ⟨hn d hd, ?_, done ++ [d], by rw [e]; simp, hs.append (List.Sublist.refl _)⟩
      have h1 := hs.length_le
      have h2 : ds.length = done.length + (rest.length + 1) := by rw [e]; simp
      omega

theorem lc_each {i : Nat} {tt : DTT} {te : DTE} {ρw : DEnv} {fin : List D → Prop} {ds : List D} (P : D → Prop) (ht : ∀ d ∈ ds, ∀ Q : Bool → Prop, Q true → tt (ρw.set i (some d)) Q)
    (he : ∀ d ∈ ds, ∀ Q : D → Prop, (∀ y, P y → Q y) → te (ρw.set i (some d)) Q) (hn : ∀ y, P y → y.nown = true) (hl : ds.length ≤ sizeLine) (h : ∀ es, es.length = ds.length → (∀ y ∈ es, P y) → fin es) : compI i tt te ρw fin ds [] := by
  refine ⟨fun rest acc => ∃ done, ds = done ++ rest ∧ acc.length = done.length ∧ ∀ y ∈ acc, P y, ⟨[], rfl, rfl, by simp⟩, ?_, ?_⟩
  · rintro acc ⟨done, e, hs, hp⟩
    rw [List.append_nil] at e
    subst e
    exact h acc hs hp
  · rintro d rest acc ⟨done, e, hs, hp⟩
    have hd : d ∈ ds := by rw [e]; simp
    refine ht d hd _ ?_
    rw [if_pos rfl]
    refine he d hd _ fun y hy => ⟨hn y hy, ?_, done ++ [d], by rw [e]; simp, by simp [hs], fun z hz => ?_⟩
    · have h2 : ds.length = done.length + (rest.length + 1) := by rw [e]; simp
      omega
    · rcases List.mem_append.mp hz with hz | hz
      · exact hp z hz
      · rw [List.mem_singleton.mp hz]; exact hy

theorem lc2_det {i i1 : Nat} {tt tt1 : DTT} {wi1 : DTI} {te : DTE} {vs1 : List Nat} {ρw : DEnv} {fin : List D → Prop} {xs ys : List Int} (p : Int → Int → Bool) (f : Int → Int → Int)
    (ht : ∀ x ∈ xs, ∀ Q : Bool → Prop, Q true → tt (ρw.set i (some (.int x))) Q) (hi : ∀ x ∈ xs, ∀ Q : List D → Prop, Q (ys.map .int) → wi1 (ρw.set i (some (.int x))) Q)
    (ht1 : ∀ x ∈ xs, ∀ y ∈ ys, ∀ Q : Bool → Prop, Q (p x y) → tt1 ((wipeD (ρw.set i (some (.int x))) vs1).set i1 (some (.int y))) Q)
    (he : ∀ x ∈ xs, ∀ y ∈ ys, ∀ Q : D → Prop, Q (.int (f x y)) → te ((wipeD (ρw.set i (some (.int x))) vs1).set i1 (some (.int y))) Q)
    (hl : xs.length * ys.length ≤ sizeLine) (h : fin ((xs.flatMap fun x => (ys.filter (p x)).map (f x)).map .int)) : compO i tt wi1 i1 tt1 te vs1 ρw fin (xs.map .int) [] := by
  have len : ∀ l : List Int, ((l.flatMap fun x => (ys.filter (p x)).map (f x)).map D.int).length ≤ l.length * ys.length := fun l => by
    induction l with
    | nil => simp
    | cons a r ih =>
      simp only [List.flatMap_cons, List.map_append, List.length_append, List.length_map, List.length_cons] at ih ⊢
      have := List.length_filter_le (p a) ys
      rw [Nat.succ_mul]
      omega
  refine ⟨fun rest acc => ∃ done l, xs = done ++ l ∧ rest = l.map .int ∧ acc = (done.flatMap fun x => (ys.filter (p x)).map (f x)).map .int, ⟨[], xs, rfl, rfl, rfl⟩, ?_, ?_⟩
  · rintro acc ⟨done, l, e, el, rfl⟩
    have : l = [] := by cases l with | nil => rfl | cons _ _ => cases el
    subst this
    rw [List.append_nil] at e
    subst e
    exact h
  · rintro d rest acc ⟨done, l, e, el, rfl⟩
    cases l with
    | nil => cases el
    | cons x l =>
      cases el
      have hx : x ∈ xs := by rw [e]; simp
      refine ht x hx _ ?_
      rw [if_pos rfl]
      refine hi x hx _ ?_
      refine ⟨fun rest1 acc1 => ∃ d1 l1, ys = d1 ++ l1 ∧ rest1 = l1.map .int ∧ acc1 = (done.flatMap fun x => (ys.filter (p x)).map (f x)).map .int ++ ((d1.filter (p x)).map (f x)).map .int, ⟨[], ys, rfl, rfl, by simp⟩, ?_, ?_⟩
      · rintro acc1 ⟨d1, l1, e1, el1, rfl⟩
        have : l1 = [] := by cases l1 with | nil => rfl | cons _ _ => cases el1
        subst this
        rw [List.append_nil] at e1
        subst e1
        exact ⟨done ++ [x], l, by rw [e]; simp, rfl, by simp⟩
      · rintro d' rest1 acc1 ⟨d1, l1, e1, el1, rfl⟩
        cases l1 with
        | nil => cases el1
        | cons y l1 =>
          cases el1
          have hy : y ∈ ys := by rw [e1]; simp
          refine ht1 x hx y hy _ ?_
          cases hp : p x y with
          | false =>
            rw [if_neg (by simp)]
            exact ⟨d1 ++ [y], l1, by rw [e1]; simp, rfl, by simp [hp]⟩
          | true =>
            rw [if_pos rfl]
            refine he x hx y hy _ ⟨rfl, ?_, d1 ++ [y], l1, by rw [e1]; simp, rfl, by simp [hp]⟩
            have h1 := len done
            have h2 : (((d1.filter (p x)).map (f x)).map D.int).length ≤ d1.length := by rw [List.length_map, List.length_map]; exact List.length_filter_le _ _
            have h3 : ys.length = d1.length + (l1.length + 1) := by rw [e1]; simp
            have h4 : xs.length = done.length + (l.length + 1) := by rw [e]; simp
            have h5 : (done.length + 1) * ys.length ≤ xs.length * ys.length := Nat.mul_le_mul_right _ (by omega)
            rw [Nat.succ_mul] at h5
            rw [List.length_append]
            omega

abbrev tI (xs : List Int) : D := .tup (xs.map .int)
abbrev lI (xs : List Int) : D := .lst (xs.map .int)
structure IsSt (m : Int) (xs : List Int) : Prop where
  up : xs.Pairwise (· < ·)
  lo : ∀ x ∈ xs, 0 ≤ x
  hi : ∀ x ∈ xs, x < m
structure Ring (m : Int) : Prop where
  lo : 2 ≤ m
  hi : m ≤ 24
def rngI (m : Int) : List Int := (List.range m.toNat).map fun (i : Nat) => (i : Int)
theorem rngD_eq (m : Int) : rngD 0 m.toNat = (rngI m).map .int := by
  unfold rngD rngI
  rw [List.map_map]
  apply List.map_congr_left
  intro i _
  simp
theorem mem_rngI {m x : Int} : x ∈ rngI m ↔ 0 ≤ x ∧ x < m := by
  unfold rngI
  simp only [List.mem_map, List.mem_range]
  constructor
  · rintro ⟨i, h, rfl⟩; omega
  · intro h; exact ⟨x.toNat, by omega, by omega⟩
theorem rngI_up (m : Int) : (rngI m).Pairwise (· < ·) := by
  unfold rngI
  rw [List.pairwise_map]
  exact List.Pairwise.imp (fun h => by omega) List.pairwise_lt_range
theorem rngI_len (m : Int) : (rngI m).length = m.toNat := by simp [rngI]
theorem filter_st {m : Int} (p : Int → Bool) : IsSt m ((rngI m).filter p) :=
  ⟨(rngI_up m).filter _, fun x hx => (mem_rngI.mp (List.mem_filter.mp hx).1).1, fun x hx => (mem_rngI.mp (List.mem_filter.mp hx).1).2⟩
theorem sub_st {m : Int} {xs : List Int} (h : xs.Sublist (rngI m)) : IsSt m xs := ⟨(rngI_up m).sublist h, fun x hx => (mem_rngI.mp (h.subset hx)).1, fun x hx => (mem_rngI.mp (h.subset hx)).2⟩
theorem IsSt.nodup {m : Int} {xs : List Int} (h : IsSt m xs) : xs.Nodup := h.up.imp fun h => by omega
theorem IsSt.len {m : Int} {xs : List Int} (h : IsSt m xs) : xs.length ≤ m.toNat := by
  rw [← rngI_len]
  exact nodup_len h.nodup fun j hj => mem_rngI.mpr ⟨h.lo j hj, h.hi j hj⟩
theorem sort_st {m : Int} {ns : List Int} (h : ∀ n ∈ ns, 0 ≤ n ∧ n < m) : IsSt m (sortD ns) := ⟨sortD_sorted ns, fun x hx => (h x (mem_sortD.mp hx)).1, fun x hx => (h x (mem_sortD.mp hx)).2⟩
theorem sort_len {m : Int} {ns : List Int} (h : ∀ n ∈ ns, 0 ≤ n ∧ n < m) (hm : m ≤ 24) : (sortD ns).length < 64 := by
  have := (sort_st h).len
  omega

theorem st_ext {m : Int} {xs ys : List Int} (hx : IsSt m xs) (hy : IsSt m ys) (h : ∀ j, 0 ≤ j → j < m → (j ∈ xs ↔ j ∈ ys)) : xs = ys :=
  sorted_ext hx.up hy.up fun j => ⟨fun q => (h j (hx.lo j q) (hx.hi j q)).mp q, fun q => (h j (hy.lo j q) (hy.hi j q)).mpr q⟩
def setF (m : Int) (ns : List Int) : List Int := sortD (ns.map (· % m))
theorem setF_st {m : Int} (hm : 0 < m) (ns : List Int) : IsSt m (setF m ns) := sort_st fun n hn => by
  obtain ⟨z, _, rfl⟩ := List.mem_map.mp hn
  exact ⟨Int.emod_nonneg _ (by omega), Int.emod_lt_of_pos _ hm⟩
theorem mem_setF {m j : Int} {ns : List Int} : j ∈ setF m ns ↔ ∃ n ∈ ns, n % m = j := by
  unfold setF
  rw [mem_sortD, List.mem_map]
theorem mapFlat : ∀ (xs : List Int), (xs.map D.int).mapM D.flat = some (xs.map V.int)
  | [] => rfl
  | x :: xs => by
    rw [List.map_cons, List.mapM_cons, mapFlat xs]
    rfl
theorem inV_int (x : Int) : ∀ (xs : List Int), inV (.int x) (xs.map V.int) = decide (x ∈ xs)
  | [] => rfl
  | y :: ys => by
    have ih := inV_int x ys
    unfold inV at ih ⊢
    rw [List.map_cons, List.any_cons, ih]
    have : eqV (V.int y) (V.int x) = decide (x = y) := by
      show (y == x) = _
      by_cases h : x = y
      · subst h; simp
      · simp [h]; omega
    rw [this]
    by_cases h : x = y <;> simp [h]
theorem toPs_ints : ∀ (xs : List Int), D.toPs (xs.map D.int) = some (xs.map PyData.int)
  | [] => by simp [D.toPs]
  | x :: xs => by simp [D.toPs, D.toP, toPs_ints xs]
theorem toP_tI (xs : List Int) : (tI xs).toP = some (.tuple (xs.map .int)) := by
  show (D.toPs (xs.map D.int)).map PyData.tuple = _
  rw [toPs_ints]
  rfl
theorem toP_lI (xs : List Int) : (lI xs).toP = some (.list (xs.map .int)) := by
  show (D.toPs (xs.map D.int)).map PyData.list = _
  rw [toPs_ints]
  rfl
theorem canLay_ints : ∀ (xs : List Int), PyData.canLayAll0 (xs.map .int) = true
  | [] => by simp [PyData.canLayAll0]
  | x :: xs => by simp [PyData.canLayAll0, PyData.canLay0, canLay_ints xs]
theorem depth_ints : ∀ (xs : List Int), PyData.depthAll (xs.map .int) = 0
  | [] => by simp [PyData.depthAll]
  | x :: xs => by simp [PyData.depthAll, PyData.depth, depth_ints xs]
theorem shaped_lI (xs : List Int) : SeqAt.shaped (.list (xs.map .int)) = true := by simp [SeqAt.shaped, PyData.canLay0, canLay_ints, PyData.depth, depth_ints]
theorem eqvAll_ints : ∀ (xs ys : List Int), PyData.eqvAll (xs.map .int) (ys.map .int) = decide (xs = ys)
  | [], [] => by simp [PyData.eqvAll]
  | [], y :: ys => by simp [PyData.eqvAll]
  | x :: xs, [] => by simp [PyData.eqvAll]
  | x :: xs, y :: ys => by
    simp only [List.map_cons, PyData.eqvAll, PyData.eqv, eqvAll_ints xs ys]
    by_cases h : x = y
    · subst h; simp
    · simp [h]
theorem eq_lI {xs ys : List Int} {R : D → Prop} (h : R (.bl (decide (xs = ys)))) : rdEqA (lI xs) (lI ys) R := by
  refine ⟨_, _, toP_lI xs, toP_lI ys, shaped_lI xs, shaped_lI ys, ?_⟩
  show R (.bl (PyData.eqvAll _ _))
  rw [eqvAll_ints]; exact h
theorem ne_lI {xs ys : List Int} {R : D → Prop} (h : R (.bl (!decide (xs = ys)))) : rdNeA (lI xs) (lI ys) R := by
  refine ⟨_, _, toP_lI xs, toP_lI ys, shaped_lI xs, shaped_lI ys, ?_⟩
  show R (.bl (!PyData.eqvAll _ _))
  rw [eqvAll_ints]; exact h
theorem in_tI {x : Int} {ys : List Int} {R : D → Prop} (h : R (.bl (decide (x ∈ ys)))) : rdIn false (.int x) (tI ys) R := by
  show optVs ((ys.map D.int).mapM D.flat) _
  rw [mapFlat]
  show R (.bl (inV (.int x) (ys.map V.int)))
  rw [inV_int]; exact h
theorem in_lI {x : Int} {ys : List Int} {R : D → Prop} (h : R (.bl (decide (x ∈ ys)))) : rdIn false (.int x) (lI ys) R := by
  show optVs ((ys.map D.int).mapM D.flat) _
  rw [mapFlat]
  show R (.bl (inV (.int x) (ys.map V.int)))
  rw [inV_int]; exact h
theorem notin_tI {x : Int} {ys : List Int} {R : D → Prop} (h : R (.bl (!decide (x ∈ ys)))) : rdIn true (.int x) (tI ys) R := by
  show optVs ((ys.map D.int).mapM D.flat) _
  rw [mapFlat]
  show R (.bl (!inV (.int x) (ys.map V.int)))
  rw [inV_int]; exact h
theorem notin_lI {x : Int} {ys : List Int} {R : D → Prop} (h : R (.bl (!decide (x ∈ ys)))) : rdIn true (.int x) (lI ys) R := by
  show optVs ((ys.map D.int).mapM D.flat) _
  rw [mapFlat]
  show R (.bl (!inV (.int x) (ys.map V.int)))
  rw [inV_int]; exact h
end DL

set_option Elab.async false
set_option linter.all false
set_option maxRecDepth 100000
set_option maxHeartbeats 4000000
namespace DL
open PySem PySem.Spec PyProof.Rows L2 DS
section
variable {A B P : Prop} [Decidable P]
theorem ifN (h : ¬ P) (b : B) : if decide P = true then A else B := by rw [if_neg (by simpa using h)]; exact b
theorem ifY (h : P) (a : A) : if decide P = true then A else B := by rw [if_pos (by simpa using h)]; exact a
theorem ifNN (h : P) (b : B) : if (!decide P) = true then A else B := by rw [if_neg (by simpa using h)]; exact b
theorem ifNY (h : ¬ P) (a : A) : if (!decide P) = true then A else B := by rw [if_pos (by simpa using h)]; exact a
theorem if2 (a : P → A) (b : ¬ P → B) : if decide P = true then A else B := by
  by_cases h : P
  · exact ifY h (a h)
  · exact ifN h (b h)
end
theorem lc_ints {i : Nat} {tt : DTT} {te : DTE} {ρw : DEnv} {fin : List D → Prop} {xs : List Int} (p : Int → Bool) (f : Int → Int) (ht : ∀ x ∈ xs, ∀ Q : Bool → Prop, Q (p x) → tt (ρw.set i (some (.int x))) Q)
    (he : ∀ x ∈ xs, p x = true → ∀ Q : D → Prop, Q (.int (f x)) → te (ρw.set i (some (.int x))) Q) (hl : xs.length ≤ sizeLine) (h : fin (((xs.filter p).map f).map .int)) : compI i tt te ρw fin (xs.map .int) [] := by
  refine lc_det (fun d => match d with | .int x => p x | _ => false) (fun d => match d with | .int x => .int (f x) | _ => .non) ?_ ?_ ?_ (by simpa using hl) ?_
  · intro d hd Q q
    obtain ⟨x, hx, rfl⟩ := List.mem_map.mp hd
    exact ht x hx Q q
  · intro d hd hp Q q
    obtain ⟨x, hx, rfl⟩ := List.mem_map.mp hd
    exact he x hx hp Q q
  · intro d hd hp
    obtain ⟨x, hx, rfl⟩ := List.mem_map.mp hd
    rfl
  · have e : ∀ l : List Int, (((l.map D.int).filter (fun d => match d with | .int x => p x | _ => false)).map (fun d => match d with | .int x => .int (f x) | _ => .non)) = ((l.filter p).map f).map D.int := fun l => by
      induction l with
      | nil => rfl
      | cons a r ih =>
        simp only [List.map_cons, List.filter_cons]
        split <;> simp_all
    rw [e]
    exact h
theorem sc_ints {i : Nat} {tt : DTT} {te : DTE} {ρw : DEnv} {fin : List Int → Prop} {xs : List Int} (p : Int → Bool) (f : Int → Int) (ht : ∀ x ∈ xs, ∀ Q : Bool → Prop, Q (p x) → tt (ρw.set i (some (.int x))) Q)
    (he : ∀ x ∈ xs, p x = true → ∀ Q : D → Prop, Q (.int (f x)) → te (ρw.set i (some (.int x))) Q) (hl : xs.length + 1 < scanBound) (h : fin ((xs.filter p).map f)) : scI i tt te ρw fin (xs.map .int) [] := by
  refine sc_det (fun d => match d with | .int x => p x | _ => false) (fun d => match d with | .int x => f x | _ => 0) ?_ ?_ (by simpa using hl) ?_
  · intro d hd Q q
    obtain ⟨x, hx, rfl⟩ := List.mem_map.mp hd
    exact ht x hx Q q
  · intro d hd hp Q q
    obtain ⟨x, hx, rfl⟩ := List.mem_map.mp hd
    exact he x hx hp Q q
  · have e : ∀ l : List Int, (((l.map D.int).filter (fun d => match d with | .int x => p x | _ => false)).map (fun d => match d with | .int x => f x | _ => 0)) = ((l.filter p).map f) := fun l => by
      induction l with
      | nil => rfl
      | cons a r ih =>
        simp only [List.map_cons, List.filter_cons]
        split <;> simp_all
    rw [e]
    exact h
theorem filter_yes {α : Type} (l : List α) : l.filter (fun _ => true) = l := by simp

def isWhole : D → Option Bool
  | .int _ => some true
  | .ty _ => none
  | .fn _ => none
  | .exc _ _ => none
  | .gh _ _ _ _ => none
  | _ => some false
def S_is_whole : DSp := fun ds R => oneP ds fun d => optB (isWhole d) fun b => R (.bl b)
def S_check_ring : DSp := fun ds R => ∃ m, ds = [.int m] ∧ Ring m ∧ R .non
def S_is_set : DSp := fun ds R => ∃ m xs, ds = [.int m, tI xs] ∧ Ring m ∧ IsSt m xs ∧ R (.bl true)
def S_check_set : DSp := fun ds R => ∃ m xs, ds = [.int m, tI xs] ∧ Ring m ∧ IsSt m xs ∧ R .non
def S_set_of_rests : DSp := fun ds R => ∃ m ns, ds = [.int m, lI ns] ∧ Ring m ∧ ns.length ≤ 1000 ∧ R (tI (setF m ns))
def sumsF (m : Int) (xs ys : List Int) : List Int := setF m (xs.flatMap fun a => ys.map fun b => a + b)
def S_sums : DSp := fun ds R => ∃ m xs ys, ds = [.int m, tI xs, tI ys] ∧ Ring m ∧ IsSt m xs ∧ IsSt m ys ∧ R (tI (sumsF m xs ys))
def S_l_cell : DSp := fun ds R => ∃ ns k, ds = [lI ns, .int k] ∧ 0 ≤ k ∧ ∀ i : Int, R (.int i)
def S_l_pen : DSp := fun ds R => ∃ c, ds = [.int c] ∧ R .pen
def S_l_draw : DSp := fun ds R => ∃ n, ds = [.pen, .int n] ∧ 0 < n ∧ n < 1073741824 ∧ ∀ i : Int, 0 ≤ i → i < n → R (.int i)
def S_l_ring : DSp := fun ds R => ds = [.pen] ∧ ∀ m, Ring m → R (.int m)
def S_l_set : DSp := fun ds R => ∃ m, ds = [.pen, .int m] ∧ Ring m ∧ ∀ xs, IsSt m xs → R (tI xs)
theorem mul24 {a b : Nat} (ha : a ≤ 24) (hb : b ≤ 24) : a * b ≤ 576 := Nat.mul_le_mul ha hb
theorem Ring.nat {m : Int} (h : Ring m) : m.toNat ≤ 24 := by have := h.hi; omega
theorem Ring.pos {m : Int} (h : Ring m) : 0 < m := by have := h.lo; omega
theorem IsSt.len24 {m : Int} {xs : List Int} (h : IsSt m xs) (hm : Ring m) : xs.length ≤ 24 := Nat.le_trans h.len hm.nat
theorem line24 {n : Nat} (h : n ≤ 1000) : n ≤ sizeLine := by rw [sizeLine_eq]; omega
theorem flat_len (f : Int → Int → Int) (xs ys : List Int) : (xs.flatMap fun a => ys.map (f a)).length = xs.length * ys.length := by
  induction xs with
  | nil => simp
  | cons a r ih => simp only [List.flatMap_cons, List.length_append, List.length_map, ih, List.length_cons, Nat.succ_mul]; omega

end DL
namespace DL
open PySem PySem.Spec PyProof.Rows L2 DS
theorem b01 (k : Bool) : (if k then (1 : Int) else 0) = 0 ∨ (if k then (1 : Int) else 0) = 1 := by cases k <;> simp

def constD : Expr → Option D
  | .Constant (.int i) _ _ => some (.int i)
  | .Constant (.bool b) _ _ => some (.bl b)
  | .Constant .none _ _ => some .non
  | .Constant (.str x) _ _ => some (.str x)
  | _ => none
def constsD : List Expr → Option (List D)
  | [] => some []
  | e :: es => match constD e, constsD es with
    | some d, some ds => some (d :: ds)
    | _, _ => none
theorem d_const {X : Cx} {e : Expr} {d : D} (h : constD e = some d) : DPE X e (wC d) ∧ (∀ es env, starEach (e :: es) env = (false, eval e env) :: starEach es env) ∧ d.nown = true := by
  unfold constD at h
  split at h <;> first
    | (cases h; exact ⟨d_int, fun _ _ => rfl, rfl⟩)
    | (cases h; exact ⟨d_bl, fun _ _ => rfl, rfl⟩)
    | (cases h; exact ⟨d_non, fun _ _ => rfl, rfl⟩)
    | (cases h; exact ⟨d_str, fun _ _ => rfl, rfl⟩)
    | cases h
def wConsts (ds : List D) : DTA := fun _ R => R ds
theorem da_consts {X : Cx} : ∀ {es : List Expr} {ds : List D}, constsD es = some ds → DPA X es (wConsts ds)
  | [], ds, h => by
    cases h
    exact da_nil
  | e :: es, ds, h => by
    unfold constsD at h
    split at h
    · rename_i d ds' h1 h2
      cases h
      obtain ⟨p, hs, _⟩ := d_const (X := X) h1
      exact da_cons p (da_consts h2) (hs es X.env)
    · cases h
end DL

set_option Elab.async false
set_option linter.all false
set_option maxRecDepth 100000
set_option maxHeartbeats 4000000
namespace DL
open PySem PySem.Spec PyProof.Rows L2 DS
structure JE (X : Cx) (e : Expr) (w : DTE) : Prop where
  p : DPE X e w
structure JT (X : Cx) (e : Expr) (w : DTT) : Prop where
  p : DPT X e w
structure JW (X : Cx) (e : Expr) (w : DTT) : Prop where
  p : DPW X e w
structure JA (X : Cx) (e : List Expr) (w : DTA) : Prop where
  p : DPA X e w
structure JS (X : Cx) (e : Stmt) (w : DTS) : Prop where
  p : DPS X e w
structure JSs (X : Cx) (e : List Stmt) (w : DTS) : Prop where
  p : DPSs X e w
structure JI (X : Cx) (tg e : Expr) (w : DTI) : Prop where
  p : DPI X tg e w
structure JG (X : Cx) (e : Expr) (w : DTG) : Prop where
  p : DPG X e w
structure JGs (X : Cx) (e : List Expr) (w : DTGs) : Prop where
  p : DPGs X e w
structure JTs (X : Cx) (e : List Expr) (w : DTT) : Prop where
  p : PTs X e (TDT X.K w)
structure JO (X : Cx) (e : Option Expr) (w : DTO) : Prop where
  p : PO X e (TDO X.K w)
theorem jpt {X : Cx} {e : Expr} {t : DTT} (h : JW X e t) : JT X e t := ⟨PW.pt h.p⟩
theorem jda_consts {X : Cx} {es : List Expr} {ds : List D} (h : constsD es = some ds) : JA X es (wConsts ds) := ⟨da_consts h⟩
theorem mkDefJ {P : Program} {w : World} {K : PySem.W.Frag} {mg : Str → Option Value} {base : Heap} {x qual : Str} {st : Stmt} {f : Addr} {fd : FuncData} {N ps : List Str} {k : Nat} {S : DSp} (F : Fun K x qual st f fd) (hm : mg x = some (.ref f)) (hb : Binds K fd ps []) (sc : FnScope N ps (defScope st)) (hN : ps.length ≤ N.length)
    (len : ∀ ds R, S ds R → ds.length = ps.length)
    (body : ∀ (cdv : Value) (A : Around) (outer : List Env) (s : Shared) (H : Hp) (E : XK), Room k (A.deeper (envOfC qual (defScope st) s.heap.objs.size f cdv)) →
      ∃ wb, JSs (cxOf CX0 P w K mg base N qual (defScope st) f cdv A outer s H E).nox (defBody st) wb ∧ ∀ ds R, S ds R → wb { nx := fun _ => R .non, rt := R } (startD N ds)) : Def P w K mg base (k + 1) x ps S :=
  mkDef F hm hb sc hN len fun cdv A outer s H E hr => by
    obtain ⟨wb, p, q⟩ := body cdv A outer s H E hr
    exact ⟨wb, p.p, q⟩
section
variable {X : Cx} {K : PySem.W.Frag} {M M1 : Mk} {H H1 : Hp}
theorem jdv (i : Nat) {x : Str} {pos : Pos} (hN : X.N[i]? = some x := by rfl) (hv : Vis X.env.scope x := by first | exact Or.inl rfl | exact Or.inr (Or.inl rfl) | exact Or.inr (Or.inr rfl)) (hd : (x == ("__debug__" : Str)) = false := by decide) (hcd : (x == ("__classdict__" : Str)) = false := by decide) : JE X (.Name x pos) (wVar i) := ⟨dv i hN hv hd hcd⟩
theorem jd_int {i j pos} : JE X (.Constant (.int i) j pos) (wC (.int i)) := ⟨d_int ⟩
theorem jd_bl {i j pos} : JE X (.Constant (.bool i) j pos) (wC (.bl i)) := ⟨d_bl ⟩
theorem jd_globI {x : Str} {i : Int} {t : Tok} {pos : Pos} (hg : Gl X x) (hm : X.mg x = some (.int i t)) (hd : (x == ("__debug__" : Str)) = false := by decide) : JE X (.Name x pos) (wC (.int i)) := ⟨d_globI hg hm hd⟩
theorem jd_add {a b : Expr} {wa wb : DTE} {pos : Pos} (ha : JE X a wa) (hb : JE X b wb) : JE X (.BinOp a .Add b pos) (wOp rAddI wa wb) := ⟨d_add ha.p hb.p⟩
theorem jd_sub {a b : Expr} {wa wb : DTE} {pos : Pos} (ha : JE X a wa) (hb : JE X b wb) : JE X (.BinOp a .Sub b pos) (wOp rSubI wa wb) := ⟨d_sub ha.p hb.p⟩
theorem jd_mul {a b : Expr} {wa wb : DTE} {pos : Pos} (ha : JE X a wa) (hb : JE X b wb) : JE X (.BinOp a .Mult b pos) (wOp rMulI wa wb) := ⟨d_mul ha.p hb.p⟩
theorem jd_mod {a b : Expr} {wa wb : DTE} {pos : Pos} (ha : JE X a wa) (hb : JE X b wb) : JE X (.BinOp a .Mod b pos) (wOp rModI wa wb) := ⟨d_mod ha.p hb.p⟩
theorem jd_fdiv {a b : Expr} {wa wb : DTE} {pos : Pos} (ha : JE X a wa) (hb : JE X b wb) : JE X (.BinOp a .FloorDiv b pos) (wOp rDivI wa wb) := ⟨d_fdiv ha.p hb.p⟩
theorem jd_pow {a b : Expr} {wa wb : DTE} {pos : Pos} (ha : JE X a wa) (hb : JE X b wb) : JE X (.BinOp a .Pow b pos) (wOp rPowI wa wb) := ⟨d_pow ha.p hb.p⟩
theorem jd_lt {a b : Expr} {wa wb : DTE} {pos : Pos} (ha : JE X a wa) (hb : JE X b wb) : JE X (.Compare a [.Lt] [b] pos) (wOp rLtI wa wb) := ⟨d_lt ha.p hb.p⟩
theorem jd_ge {a b : Expr} {wa wb : DTE} {pos : Pos} (ha : JE X a wa) (hb : JE X b wb) : JE X (.Compare a [.GtE] [b] pos) (wOp rGeI wa wb) := ⟨d_ge ha.p hb.p⟩
end
section
variable {X : Cx} {K : PySem.W.Frag} {M M1 : Mk} {H H1 : Hp} {a b c e : Expr} {wa wb wc we : DTE} {va vb vc : DTT} {pos : Pos} {rest : List Expr}
theorem jdt_val (h : JE X e we) (he : ∀ whole, isTrue e X.env whole = (do let v ← whole; standAt e.pos; holding [v] (truthy v)) := by intro _; rfl) : JT X e (wT we) := ⟨dt_val h.p he⟩
theorem jdt_lt (ha : JE X a wa) (hb : JE X b wb) : JT X (.Compare a [.Lt] [b] pos) (wT (wOp rLtI wa wb)) := ⟨dt_lt ha.p hb.p⟩
theorem jdt_le (ha : JE X a wa) (hb : JE X b wb) : JT X (.Compare a [.LtE] [b] pos) (wT (wOp rLeI wa wb)) := ⟨dt_le ha.p hb.p⟩
theorem jdt_gt (ha : JE X a wa) (hb : JE X b wb) : JT X (.Compare a [.Gt] [b] pos) (wT (wOp rGtI wa wb)) := ⟨dt_gt ha.p hb.p⟩
theorem jdt_ge (ha : JE X a wa) (hb : JE X b wb) : JT X (.Compare a [.GtE] [b] pos) (wT (wOp rGeI wa wb)) := ⟨dt_ge ha.p hb.p⟩
theorem jdt_not (ha : JT X a va) : JT X (.UnaryOp .Not a pos) (wNot va) := ⟨dt_not ha.p⟩
theorem jdw_and1 (ha : JT X a va) : JW X (.BoolOp .And [a] pos) va := ⟨dw_and1 ha.p⟩
theorem jdw_or1 (ha : JT X a va) : JW X (.BoolOp .Or [a] pos) va := ⟨dw_or1 ha.p⟩
theorem jdw_and (ha : JT X a va) (hb : JW X (.BoolOp .And (b :: rest) pos) vb) : JW X (.BoolOp .And (a :: b :: rest) pos) (wAnd va vb) := ⟨dw_and ha.p hb.p⟩
theorem jdw_or (ha : JT X a va) (hb : JW X (.BoolOp .Or (b :: rest) pos) vb) : JW X (.BoolOp .Or (a :: b :: rest) pos) (wOr va vb) := ⟨dw_or ha.p hb.p⟩
theorem jd_one {op} (h : JE X a wa) : JE X (.BoolOp op [a] pos) wa := ⟨d_one h.p⟩
theorem jd_and (ha : JE X a wa) (hb : JE X (.BoolOp .And (b :: rest) pos) wb) : JE X (.BoolOp .And (a :: b :: rest) pos) (wAndV wa wb) := ⟨d_and ha.p hb.p⟩
theorem jd_not (ha : JE X a wa) : JE X (.UnaryOp .Not a pos) (wNotV wa) := ⟨d_not ha.p⟩
theorem jd_chain {op op' : CmpOp} {r r' : R2} {rD rD' : D2} (ho : OpR X (compareOp op) r) (ho' : OpR X (compareOp op') r') (cp : Cp2 X.K r rD) (cp' : Cp2 X.K r' rD') (ha : JE X a wa) (hb : JE X b wb) (hc : JE X c wc) (hm : lastMarks [op, op'] [b, c] = false := by with_unfolding_all rfl) : JE X (.Compare a [op, op'] [b, c] pos) (wChain rD rD' wa wb wc) := ⟨d_chain ho ho' cp cp' ha.p hb.p hc.p hm⟩
theorem jda_nil  : JA X [] wNil := ⟨da_nil ⟩
theorem jda_cons {es : List Expr} {ta : DTA} (ha : JE X e we) (hr : JA X es ta) (hs : starEach (e :: es) X.env = (false, eval e X.env) :: starEach es X.env := by rfl) : JA X (e :: es) (wCons we ta) := ⟨da_cons ha.p hr.p hs⟩
theorem jd_tup {es : List Expr} {ta : DTA} {x1} (h : JA X es ta) : JE X (.Tuple es x1 pos) (wTup ta) := ⟨d_tup h.p⟩
theorem jd_lst {es : List Expr} {ta : DTA} (h : JA X es ta) : JE X (.List es pos) (wLst ta) := ⟨d_lst h.p⟩
theorem jd_penNew {es : List Expr} {ta : DTA} (h : JA X es ta) : JE X (.List es pos) (wPenNew ta) := ⟨d_penNew h.p⟩
theorem jd_callB {x : Str} {p : Pos} {es : List Expr} {id : String} {r : List V → Hp → VK → Prop} {rD : DN} {ta : DTA} (hc : CallR X (.builtin id) r) (cp : CpN X.K r rD) (hg : Gl X x) (hm : X.mg x = none) (hv : bootBuiltins x = some (.builtin id)) (ha : JA X (e :: es) ta) (hn : x ≠ "__name__" := by decide) (hdb : (x == ("__debug__" : Str)) = false := by decide) (he : starEach (e :: es) X.env = (false, eval e X.env) :: starEach es X.env := by rfl) (hpl : (backTo pos (starEach es X.env)).any (·.1) = false := by rfl) : JE X (.Call (.Name x p) (e :: es) [] pos) (wCB rD ta) := ⟨d_callB hc cp hg hm hv ha.p hn hdb he hpl⟩
theorem jd_callTy {x : Str} {p : Pos} {es : List Expr} {T : String} {r : List V → Hp → VK → Prop} {rD : DN} {ta : DTA} (hc : CallR X (.type T) r) (cp : CpN X.K r rD) (hg : Gl X x) (hm : X.mg x = none) (hv : bootBuiltins x = some (.type T)) (ha : JA X (e :: es) ta) (hn : x ≠ "__name__" := by decide) (hdb : (x == ("__debug__" : Str)) = false := by decide) (he : starEach (e :: es) X.env = (false, eval e X.env) :: starEach es X.env := by rfl) (hpl : (backTo pos (starEach es X.env)).any (·.1) = false := by rfl) : JE X (.Call (.Name x p) (e :: es) [] pos) (wCB rD ta) := ⟨d_callTy hc cp hg hm hv ha.p hn hdb he hpl⟩
theorem jd_ix (ha : JE X a wa) (hb : JE X b wb) (hs : PlainIx b) : JE X (.Subscript a b pos) (wOp rdIx wa wb) := ⟨d_ix ha.p hb.p hs⟩
theorem jd_pen0 (ha : JE X a wa) (hb : JE X b wb) (hs : PlainIx b) : JE X (.Subscript a b pos) (wOp rdPen0 wa wb) := ⟨d_pen0 ha.p hb.p hs⟩
theorem jd_pen1 (ha : JE X a wa) (hb : JE X b wb) (hs : PlainIx b) : JE X (.Subscript a b pos) (wOp rdPen1 wa wb) := ⟨d_pen1 ha.p hb.p hs⟩
theorem jd_cat {a b : Expr} {wa wb : DTE} {pos : Pos} (ha : JE X a wa) (hb : JE X b wb) : JE X (.BinOp a .Add b pos) (wOp rdCat wa wb) := ⟨d_cat ha.p hb.p⟩
theorem jdo_some (h : JE X e we) : JO X (some e) (wPart we) := ⟨do_some h.p⟩
theorem jd_sliceL {p2} {lo hi : Option Expr} {wl wh : DTO} (he : JE X e we) (hl : JO X lo wl) (hu : JO X hi wh) : JE X (.Subscript e (.Slice lo hi none p2) pos) (wSl rdSlL we wl wh) := ⟨d_sliceL he.p hl.p hu.p⟩
theorem jdt_in (ha : JE X a wa) (hb : JE X b wb) (hm : behindInMarks .In b = false := by rfl) : JT X (.Compare a [.In] [b] pos) (wT (wOp (rdIn false) wa wb)) := ⟨dt_in ha.p hb.p hm⟩
theorem jdt_notIn (ha : JE X a wa) (hb : JE X b wb) (hm : behindInMarks .NotIn b = false := by rfl) : JT X (.Compare a [.NotIn] [b] pos) (wT (wOp (rdIn true) wa wb)) := ⟨dt_notIn ha.p hb.p hm⟩
theorem jd_eq (hu : X.A.units + 64 < cLine) (ha : JE X a wa) (hb : JE X b wb) : JE X (.Compare a [.Eq] [b] pos) (wOp rdEqA wa wb) := ⟨d_eq hu ha.p hb.p⟩
theorem jdt_eq (hu : X.A.units + 64 < cLine) (ha : JE X a wa) (hb : JE X b wb) : JT X (.Compare a [.Eq] [b] pos) (wT (wOp rdEqA wa wb)) := ⟨dt_eq hu ha.p hb.p⟩
theorem jdt_ne (hu : X.A.units + 64 < cLine) (ha : JE X a wa) (hb : JE X b wb) : JT X (.Compare a [.NotEq] [b] pos) (wT (wOp rdNeA wa wb)) := ⟨dt_ne hu ha.p hb.p⟩
end
section
variable {st : Stmt} {sts : List Stmt} {t u : DTS}
theorem jdss_nil  : JSs X [] wNext := ⟨dss_nil ⟩
theorem jdss_cons (h1 : JS X st t) (h2 : JSs X sts u) : JSs X (st :: sts) (wSeq t u) := ⟨dss_cons h1.p h2.p⟩
theorem jdss_one (h1 : JS X st t) : JSs X [st] t := ⟨dss_one h1.p⟩
theorem jds_expr (he : JE X e we) (hs : swapsWith e none pos.line X.env = pure false := by rfl) : JS X (.Expr e pos) (wDrop we) := ⟨ds_expr he.p hs⟩
theorem jds_ret (he : JE X e we) : JS X (.Return (some e) pos) (wRet we) := ⟨ds_ret he.p⟩
theorem jds_if {sa sb : List Stmt} (hc : JT X c vc) (ha : JSs X sa t) (hb : JSs X sb u) : JS X (.If c sa sb pos) (wIfS vc t u) := ⟨ds_if hc.p ha.p hb.p⟩
theorem jds_never  : JS X st wNever := ⟨ds_never ⟩
theorem jdg_name {i : Nat} {x : Str} (hN : X.N.Nodup) (hi : X.N[i]? = some x) (hx : Loc X.env.scope x) (hf : X.fn x = true ∨ X.env.scope.names.lookup x = some .local := by first | exact .inl rfl | exact .inr rfl | assumption) : JG X (.Name x pos) (wgName i) := ⟨dg_name hN hi hx hf⟩
theorem jdgs_nil  : JGs X [] wgNil := ⟨dgs_nil ⟩
theorem jdgs_cons {es : List Expr} {g : DTG} {h : DTGs} (h1 : JG X e g) (h2 : JGs X es h) (hs : (assignEach (e :: es) X.env).map (·.2) = assign e X.env :: (assignEach es X.env).map (·.2) := by rfl) : JGs X (e :: es) (wgCons g h) := ⟨dgs_cons h1.p h2.p hs⟩
theorem jdg_tup {es : List Expr} {k : Nat} {g : DTGs} {n : Nat} (hc : X.calm = true) (h : JGs X es g) (hn : (assignEach es X.env).length = n := by rfl) (hst : (assignEach es X.env).findIdx? (·.1) = none := by rfl) : JG X (.Tuple es k pos) (wgTup n g) := ⟨dg_tup hc h.p hn hst⟩
theorem jds_asg {tg : Expr} {g : DTG} (he : JE X e we) (hg : JG X tg g) (hs : swapsWithSole [tg] e pos.line X.env = pure false := by rfl) (hw : swappedStores [tg] e X.env = pure none := by rfl) (h1 : (assignEach [tg] X.env).map (·.2) = [assign tg X.env] := by rfl) : JS X (.Assign [tg] e pos) (wAsg we g) := ⟨ds_asg he.p hg.p hs hw h1⟩
theorem jds_set {i : Nat} {x : Str} {pos' : Pos} (hN : X.N.Nodup) (hi : X.N[i]? = some x) (hx : Loc X.env.scope x) (he : JE X e we) (hs : swapsWith e (some (.Name x pos')) pos.line X.env = pure false := by rfl) (hf : X.fn x = true ∨ X.env.scope.names.lookup x = some .local := by first | exact .inl rfl | exact .inr rfl | assumption) : JS X (.Assign [.Name x pos'] e pos) (wAsg we (wgName i)) := ⟨ds_set hN hi hx he.p hs hf⟩
theorem jds_penSet {po} {wo wi : DTE} (he : JE X e we) (ho : JE X a wo) (hi : JE X b wi) (hs : swapsWithSole [.Subscript a b po] e pos.line X.env = pure false := by rfl) (hw : swappedStores [.Subscript a b po] e X.env = pure none := by rfl) (h1 : (assignEach [.Subscript a b po] X.env).map (·.2) = [assign (.Subscript a b po) X.env] := by rfl) (ha : ∀ v, assign (.Subscript a b po) X.env v = (do
      let ov ← holding [v] (eval a X.env)
      let iv ← holding [v, ov] (eval b X.env)
      standAt po
      holding [v, ov, iv] (setItem ov iv v)
      release [v, ov, iv] []) := by intro _; rfl) : JS X (.Assign [.Subscript a b po] e pos) (wPenSet we wo wi) := ⟨ds_penSet he.p ho.p hi.p hs hw h1 ha⟩
end
section
variable {X : Cx} {K : PySem.W.Frag} {M M1 : Mk} {H H1 : Hp} {a b c e tg : Expr} {wa wb wc we : DTE} {va vb vc : DTT} {pos : Pos} {rest : List Expr}
theorem jdi_seq (h : JE X e we) : JI X tg e (wSeqI we) := ⟨di_seq h.p⟩
theorem jdi_range1 {ta : DTA} {p : Pos} (hg : Gl X "range") (hm : X.mg "range" = none) (ha : JA X [a] ta) (hs : starEach [a] X.env = [(false, eval a X.env)] := by rfl) : JI X tg (.Call (.Name "range" p) [a] [] pos) (wRng1 ta) := ⟨di_range1 hg hm ha.p hs⟩
theorem jdi_range2 {ta : DTA} {p : Pos} (hg : Gl X "range") (hm : X.mg "range" = none) (ha : JA X [a, b] ta) (hs : starEach [a, b] X.env = [(false, eval a X.env), (false, eval b X.env)] := by rfl) (hs2 : starEach [b] X.env = [(false, eval b X.env)] := by rfl) : JI X tg (.Call (.Name "range" p) [a, b] [] pos) (wRng2 ta) := ⟨di_range2 hg hm ha.p hs hs2⟩
theorem jds_for {iter : Expr} {body : List Stmt} {wi : DTI} {g : DTG} {tb : DTS} (hp : PassesOwn (model X.prog X.w) X.A X.env X.xe) (hc : X.calm = true) (hi : JI X tg iter wi) (hg : JG X tg g) (hb : JSs X body tb) (hs : ∀ x, foldedSetIterable iter X.env x = pure x := by intro _; rfl) : JS X (.For tg iter body [] pos) (wFor wi g tb) := ⟨ds_for hp hc hi.p hg.p hb.p hs⟩
theorem jdts_nil  : JTs X [] wYes := ⟨dts_nil ⟩
theorem jdts_one (h : JT X c vc) : JTs X [c] vc := ⟨dts_one h.p⟩
theorem jd_lc {elt iter : Expr} {x : Str} {px : Pos} {ifs : List Expr} {scope : Scope} {own : List (Str × Nat)} {wi : DTI} {i : Nat} {tt : DTT} {te : DTE} (hc : X.calm = true) (hN : X.N.Nodup) (hii : i ∈ own.map (·.2)) (hi : JI X (.Name x px) iter wi) (ok : BlkOk X.N X.env.scope scope own) (hg : ∀ (s : Shared) (H : Hp) (C : Addr) (cl : List (Str × Addr)) (fp : List Addr), PG (X.blk s H scope (compEnvC scope cl C X.env) fp) (.Name x px) (gName i)) (ht : ∀ (s : Shared) (H : Hp) (C : Addr) (cl : List (Str × Addr)) (fp : List Addr), JTs (X.blk s H scope (compEnvC scope cl C X.env) fp) ifs tt) (he : ∀ (s : Shared) (H : Hp) (C : Addr) (cl : List (Str × Addr)) (fp : List Addr), JE (X.blk s H scope (compEnvC scope cl C X.env) fp) elt te) (hs : ∀ x, foldedSetIterable iter X.env x = pure x := by intro _; rfl) : JE X (.ListComp elt [⟨.Name x px, iter, ifs, 0⟩] scope pos) (wLc wi i tt te (own.map (·.2))) := ⟨d_lc hc hN hii hi.p ok hg (fun s H C cl fp => (ht s H C cl fp).p) (fun s H C cl fp => (he s H C cl fp).p) hs⟩
theorem jd_lc2 {elt iter iter1 : Expr} {x x1 : Str} {px px1 : Pos} {ifs ifs1 : List Expr} {scope : Scope} {own : List (Str × Nat)} {vs1 : List Nat} {wi wi1 : DTI} {i i1 : Nat} {tt tt1 : DTT} {te : DTE} (hc : X.calm = true) (hN : X.N.Nodup) (hii : i ∈ own.map (·.2)) (hii1 : i1 ∈ vs1) (hi : JI X (.Name x px) iter wi) (ok : BlkOk X.N X.env.scope scope own) (hv : ∀ i ∈ vs1, i ∈ own.map (·.2)) (hg : ∀ (s : Shared) (H : Hp) (C : Addr) (cl : List (Str × Addr)) (fp : List Addr), PG (X.blk s H scope (compEnvC scope cl C X.env) fp) (.Name x px) (gName i)) (ht : ∀ (s : Shared) (H : Hp) (C : Addr) (cl : List (Str × Addr)) (fp : List Addr), JTs (X.blk s H scope (compEnvC scope cl C X.env) fp) ifs tt) (hi1 : ∀ (s : Shared) (H : Hp) (C : Addr) (cl : List (Str × Addr)) (fp : List Addr), JI (X.blk s H scope (compEnvC scope cl C X.env) fp) (.Name x1 px1) iter1 wi1) (hg1 : ∀ (s : Shared) (H : Hp) (C : Addr) (cl : List (Str × Addr)) (fp : List Addr), PG (X.blk s H scope (compEnvC scope cl C X.env) fp) (.Name x1 px1) (gName i1)) (ht1 : ∀ (s : Shared) (H : Hp) (C : Addr) (cl : List (Str × Addr)) (fp : List Addr), JTs (X.blk s H scope (compEnvC scope cl C X.env) fp) ifs1 tt1) (he : ∀ (s : Shared) (H : Hp) (C : Addr) (cl : List (Str × Addr)) (fp : List Addr), JE (X.blk s H scope (compEnvC scope cl C X.env) fp) elt te) (hs : ∀ x, foldedSetIterable iter X.env x = pure x := by intro _; rfl) (hs1 : ∀ env x, foldedSetIterable iter1 env x = pure x := by intro _ _; rfl) : JE X (.ListComp elt [⟨.Name x px, iter, ifs, 0⟩, ⟨.Name x1 px1, iter1, ifs1, 0⟩] scope pos) (wLc2 wi i tt wi1 i1 tt1 te (own.map (·.2)) vs1) := ⟨d_lc2 hc hN hii hii1 hi.p ok hv hg (fun s H C cl fp => (ht s H C cl fp).p) (fun s H C cl fp => (hi1 s H C cl fp).p) hg1 (fun s H C cl fp => (ht1 s H C cl fp).p) (fun s H C cl fp => (he s H C cl fp).p) hs hs1⟩
theorem jd_call {k : Nat} {x : Str} {ps : List Str} {S : DSp} {p : Pos} {es : List Expr} {ta : DTA} (F : Def X.prog X.w X.K X.mg X.base k x ps S) (hr : Room k X.A) (hg : Gl X x) (ha : JA X (e :: es) ta) (hdb : (x == ("__debug__" : Str)) = false := by decide) (he : starEach (e :: es) X.env = (false, eval e X.env) :: starEach es X.env := by rfl) (hpl : (backTo pos (starEach es X.env)).any (·.1) = false := by rfl) : JE X (.Call (.Name x p) (e :: es) [] pos) (wCall S ta) := ⟨d_call F hr hg ha.p hdb he hpl⟩
theorem jd_sortSet {p1 p2 pos2 : Pos} (hc : X.calm = true) (hg1 : Gl X "sorted") (hm1 : X.mg "sorted" = none) (hg2 : Gl X "set") (hm2 : X.mg "set" = none) (he : JE X e we) (hst : starEach [e] X.env = [(false, eval e X.env)] := by rfl) : JE X (.Call (.Name "sorted" p1) [.Call (.Name "set" p2) [e] [] pos2] [] pos) (wSortSet we) := ⟨d_sortSet hc hg1 hm1 hg2 hm2 he.p hst⟩
theorem jd_sortSc {p1 : Pos} {elt iter : Expr} {x : Str} {px pos2 : Pos} {ifs : List Expr} {scope : Scope} {own : List (Str × Nat)} {wi : DTI} {i : Nat} {tt : DTT} {te : DTE} (hc : X.calm = true) (hg1 : Gl X "sorted") (hm1 : X.mg "sorted" = none) (hN : X.N.Nodup) (hii : i ∈ own.map (·.2)) (hi : JI X (.Name x px) iter wi) (ok : BlkOk X.N X.env.scope scope own) (hg : ∀ (s : Shared) (H : Hp) (C : Addr) (cl : List (Str × Addr)) (fp : List Addr), PG (X.blk s H scope (compEnvC scope cl C X.env) fp) (.Name x px) (gName i)) (ht : ∀ (s : Shared) (H : Hp) (C : Addr) (cl : List (Str × Addr)) (fp : List Addr), JTs (X.blk s H scope (compEnvC scope cl C X.env) fp) ifs tt) (he : ∀ (s : Shared) (H : Hp) (C : Addr) (cl : List (Str × Addr)) (fp : List Addr), JE (X.blk s H scope (compEnvC scope cl C X.env) fp) elt te) (hs : ∀ x, foldedSetIterable iter X.env x = pure x := by intro _; rfl) : JE X (.Call (.Name "sorted" p1) [.SetComp elt [⟨.Name x px, iter, ifs, 0⟩] scope pos2] [] pos) (wSortSc wi i tt te (own.map (·.2))) := ⟨d_sortSc hc hg1 hm1 hN hii hi.p ok hg (fun s H C cl fp => (ht s H C cl fp).p) (fun s H C cl fp => (he s H C cl fp).p) hs⟩
theorem jd_isi {T : String} {x : Str} {p1 p2 : Pos} {f : D → Option Bool} (hf : ∀ (K : PySem.W.Frag) (d : D) (b : Bool), f d = some b → ∃ n, d.tyN = some n ∧ PySem.W.kitOne K (.type n) (.type T) = some b) (hg1 : Gl X "isinstance") (hm1 : X.mg "isinstance" = none) (hg2 : Gl X x) (hm2 : X.mg x = none) (hv : bootBuiltins x = some (.type T)) (he : JE X e we) (hst : starEach [e, .Name x p2] X.env = [(false, eval e X.env), (false, eval (.Name x p2) X.env)] := by rfl) (hn : x ≠ "__name__" := by decide) (hd : (x == ("__debug__" : Str)) = false := by decide) : JE X (.Call (.Name "isinstance" p1) [e, .Name x p2] [] pos) (wIsi f we) := ⟨d_isi hf hg1 hm1 hg2 hm2 hv he.p hst hn hd⟩
end
section
variable {X : Cx} {K : PySem.W.Frag} {a b c e tg : Expr} {wa wb wc we : DTE} {pos : Pos}
theorem jd_neg (ha : JE X a wa) : JE X (.UnaryOp .USub a pos) (wNeg wa) := ⟨d_neg ha.p⟩
end
end DL

set_option Elab.async false
set_option linter.all false
set_option maxRecDepth 100000
set_option maxHeartbeats 4000000
namespace DL
open PySem PySem.Spec PyProof.Rows L2 DS
structure JN (X : Cx) (e : Expr) (w : DTA) : Prop where
  p : DPN X e w
theorem mkDefOJ {P : Program} {w : World} {K : PySem.W.Frag} {mg : Str → Option Value} {base : Heap} {x qual : Str} {st : Stmt} {f : Addr} {fd : FuncData} {N ps : List Str} {k : Nat} {S : DSo} (F : Fun K x qual st f fd) (hm : mg x = some (.ref f)) (hb : Binds K fd ps []) (sc : FnScope N ps (defScope st)) (hN : ps.length ≤ N.length)
    (len : ∀ ds R, S ds R → ds.length = ps.length)
    (body : ∀ (cdv : Value) (A : Around) (outer : List Env) (s : Shared) (H : Hp) (E : XK), Room k (A.deeper (envOfC qual (defScope st) s.heap.objs.size f cdv)) →
      ∃ wb, JSs (cxOf CX0 P w K mg base N qual (defScope st) f cdv A outer s H E).nox (defBody st) wb ∧ ∀ ds R, S ds R → wb { nx := fun _ => False, rt := fun _ => False, ro := R } (startD N ds)) : DefO P w K mg base (k + 1) x ps S :=
  mkDefO F hm hb sc hN len fun cdv A outer s H E hr => by
    obtain ⟨wb, p, q⟩ := body cdv A outer s H E hr
    exact ⟨wb, p.p, q⟩
section
variable {X : Cx} {K : PySem.W.Frag} {M M1 : Mk} {H H1 : Hp} {a b c e tg : Expr} {wa wb wc we : DTE} {va vb vc : DTT} {pos : Pos} {rest : List Expr}
theorem jdn_lst {es : List Expr} {ta : DTA} (h : JA X es ta) : JN X (.List es pos) (wNL ta) := ⟨dn_lst h.p⟩
theorem jds_setN {i : Nat} {x : Str} {pos' : Pos} {w : DTA} (hN : X.N.Nodup) (hi : X.N[i]? = some x) (hx : Loc X.env.scope x) (he : JN X e w) (hs : swapsWith e (some (.Name x pos')) pos.line X.env = pure false := by rfl) (hf : X.fn x = true ∨ X.env.scope.names.lookup x = some .local := by first | exact .inl rfl | exact .inr rfl | assumption) : JS X (.Assign [.Name x pos'] e pos) (wSetN i w) := ⟨ds_setN hN hi hx he.p hs hf⟩
theorem jds_append {i : Nat} {x : Str} {px apos cpos : Pos} {ta : DTA} (hN : X.N[i]? = some x) (hv : Vis X.env.scope x) (ha : JA X [e] ta) (hd : (x == ("__debug__" : Str)) = false := by decide) (hcd : (x == ("__classdict__" : Str)) = false := by decide) (hs : swapsWith (.Call (.Attribute (.Name x px) "append" apos) [e] [] cpos) none pos.line X.env = pure false := by rfl) (hfew : ((backTo cpos (starEach [e] X.env)).all (fun x => !x.1) && (backToKw cpos (keywordEach [] X.env)).all (fun x => x.1.isSome) && decide ([e].length + ([] : List Keyword).length + (if ([] : List Keyword).isEmpty then 0 else 1) < 30)) = true := by rfl) (hline : (apos.endLine == cpos.line) = true := by rfl) (hst : starEach [e] X.env = (false, eval e X.env) :: starEach [] X.env := by rfl) (hpl : (backTo cpos (starEach [] X.env)).any (·.1) = false := by rfl) (hb : attributeBase (.Name x px) "append" X.env (eval (.Name x px) X.env) = eval (.Name x px) X.env := by rfl) : JS X (.Expr (.Call (.Attribute (.Name x px) "append" apos) [e] [] cpos) pos) (wApp i ta) := ⟨ds_append hN hv ha.p hd hcd hs hfew hline hst hpl hb⟩
theorem jds_retV (i : Nat) {x : Str} {px : Pos} (hN : X.N[i]? = some x := by rfl) (hv : Vis X.env.scope x := by first | exact Or.inl rfl | exact Or.inr (Or.inl rfl) | exact Or.inr (Or.inr rfl)) (hd : (x == ("__debug__" : Str)) = false := by decide) (hcd : (x == ("__classdict__" : Str)) = false := by decide) : JS X (.Return (some (.Name x px)) pos) (wRetV i) := ⟨ds_retV i hN hv hd hcd⟩
theorem jd_sh {w : DTA} (h : JN X e w) : JE X e (wSh w) := ⟨d_sh h.p⟩
theorem jdn_call {k : Nat} {x : Str} {ps : List Str} {S : DSo} {p : Pos} {es : List Expr} {ta : DTA} (F : DefO X.prog X.w X.K X.mg X.base k x ps S) (hr : Room k X.A) (hg : Gl X x) (ha : JA X (e :: es) ta) (hdb : (x == ("__debug__" : Str)) = false := by decide) (he : starEach (e :: es) X.env = (false, eval e X.env) :: starEach es X.env := by rfl) (hpl : (backTo pos (starEach es X.env)).any (·.1) = false := by rfl) : JN X (.Call (.Name x p) (e :: es) [] pos) (wCallO S ta) := ⟨dn_call F hr hg ha.p hdb he hpl⟩
end
section
variable {X : Cx} {K : PySem.W.Frag} {M M1 : Mk} {H H1 : Hp} {a b c e tg : Expr} {wa wb wc we : DTE} {va vb vc : DTT} {pos : Pos} {rest : List Expr}
theorem jds_augI {i : Nat} {x : Str} {pos' : Pos} {op : Operator} {f : Int → Int → Int} (hp : PIp X op (ipI f)) (hN : X.N.Nodup) (hi : X.N[i]? = some x) (hx : Loc X.env.scope x) (he : JE X e we) (hf : X.fn x = true ∨ X.env.scope.names.lookup x = some .local := by first | exact .inl rfl | exact .inr rfl | assumption) : JS X (.AugAssign (.Name x pos') op e pos) (wAug i f we) := ⟨ds_augI hp hN hi hx he.p hf⟩
theorem jds_while {body : List Stmt} {tb : DTS} (hp : PassesOwn (model X.prog X.w) X.A X.env X.xe) (hc : JT X c vc) (hb : JSs X body tb) : JS X (.While c body [] pos) (wWhile vc tb) := ⟨ds_while hp hc.p hb.p⟩
end
end DL

set_option Elab.async false
set_option linter.all false
set_option maxRecDepth 100000
set_option maxHeartbeats 4000000
namespace DL
open PySem PySem.Spec PyProof.Rows L2 DS
section
variable {X : Cx} {K : PySem.W.Frag} {M M1 : Mk} {H H1 : Hp} {a b c e : Expr} {wa wb we : DTE} {pos : Pos} {rest : List Expr}
theorem jd_lcP {elt iter : Expr} {tg : Expr} {ifs : List Expr} {scope : Scope} {own : List (Str × Nat)} {wi : DTI} {i i2 : Nat} {tt : DTT} {te : DTE} (hc : X.calm = true) (hN : X.N.Nodup) (hii : i ∈ own.map (·.2)) (hii2 : i2 ∈ own.map (·.2)) (hi : JI X tg iter wi) (ok : BlkOk X.N X.env.scope scope own) (hg : ∀ (s : Shared) (H : Hp) (C : Addr) (cl : List (Str × Addr)) (fp : List Addr), PG (X.blk s H scope (compEnvC scope cl C X.env) fp) tg (gTup X.K 2 (gCons (gName i) (gCons (gName i2) gNil)))) (ht : ∀ (s : Shared) (H : Hp) (C : Addr) (cl : List (Str × Addr)) (fp : List Addr), JTs (X.blk s H scope (compEnvC scope cl C X.env) fp) ifs tt) (he : ∀ (s : Shared) (H : Hp) (C : Addr) (cl : List (Str × Addr)) (fp : List Addr), JE (X.blk s H scope (compEnvC scope cl C X.env) fp) elt te) (hs : ∀ x, foldedSetIterable iter X.env x = pure x := by intro _; rfl) : JE X (.ListComp elt [⟨tg, iter, ifs, 0⟩] scope pos) (wLcP wi i i2 tt te (own.map (·.2))) := ⟨d_lcP hc hN hii hii2 hi.p ok hg (fun s H C cl fp => (ht s H C cl fp).p) (fun s H C cl fp => (he s H C cl fp).p) hs⟩
end
end DL

set_option Elab.async false
set_option linter.all false
set_option maxRecDepth 100000
set_option maxHeartbeats 4000000
namespace DL
open PySem PySem.Spec PyProof.Rows L2 DS
theorem szl {n : Nat} (h : n ≤ 1000) : n ≤ sizeLine := line24 h
def rngL (lo : Int) (n : Nat) : List Int := (List.range n).map fun (i : Nat) => lo + (i : Int)
theorem rngD_L (lo : Int) (n : Nat) : rngD lo n = (rngL lo n).map .int := by
  unfold rngD rngL
  rw [List.map_map]
  rfl
theorem mem_rngL {lo x : Int} {n : Nat} : x ∈ rngL lo n ↔ lo ≤ x ∧ x < lo + n := by
  unfold rngL
  simp only [List.mem_map, List.mem_range]
  constructor
  · rintro ⟨i, h, rfl⟩; omega
  · intro h; exact ⟨(x - lo).toNat, by omega, by omega⟩
theorem rngL_len (lo : Int) (n : Nat) : (rngL lo n).length = n := by simp [rngL]
theorem lc_rng {i : Nat} {tt : DTT} {te : DTE} {ρw : DEnv} {fin : List D → Prop} {m : Int} (p : Int → Bool) (f : Int → Int) (ht : ∀ x ∈ rngI m, ∀ Q : Bool → Prop, Q (p x) → tt (ρw.set i (some (.int x))) Q)
    (he : ∀ x ∈ rngI m, p x = true → ∀ Q : D → Prop, Q (.int (f x)) → te (ρw.set i (some (.int x))) Q) (hl : m ≤ 1000) (h : fin ((((rngI m).filter p).map f).map .int)) : compI i tt te ρw fin (rngD 0 m.toNat) [] := by
  rw [rngD_eq]
  exact lc_ints p f ht he (szl (by rw [rngI_len]; omega)) h
theorem lc_rngL {i : Nat} {tt : DTT} {te : DTE} {ρw : DEnv} {fin : List D → Prop} {lo : Int} {n : Nat} (p : Int → Bool) (f : Int → Int) (ht : ∀ x ∈ rngL lo n, ∀ Q : Bool → Prop, Q (p x) → tt (ρw.set i (some (.int x))) Q)
    (he : ∀ x ∈ rngL lo n, p x = true → ∀ Q : D → Prop, Q (.int (f x)) → te (ρw.set i (some (.int x))) Q) (hl : n ≤ 1000) (h : fin ((((rngL lo n).filter p).map f).map .int)) : compI i tt te ρw fin (rngD lo n) [] := by
  rw [rngD_L]
  exact lc_ints p f ht he (szl (by rw [rngL_len]; omega)) h
theorem lc_rngAny {i : Nat} {tt : DTT} {te : DTE} {ρw : DEnv} {fin : List D → Prop} {m : Int} (ht : ∀ x ∈ rngI m, ∀ Q : Bool → Prop, (∀ b, Q b) → tt (ρw.set i (some (.int x))) Q)
    (he : ∀ x ∈ rngI m, ∀ Q : D → Prop, Q (.int x) → te (ρw.set i (some (.int x))) Q) (hl : m ≤ 1000) (h : ∀ xs : List Int, xs.Sublist (rngI m) → fin (xs.map .int)) : compI i tt te ρw fin (rngD 0 m.toNat) [] := by
  rw [rngD_eq]
  refine lc_any ?_ ?_ ?_ (szl (by rw [List.length_map, rngI_len]; omega)) fun es hs => ?_
  · intro d hd Q q
    obtain ⟨x, hx, rfl⟩ := List.mem_map.mp hd
    exact ht x hx Q q
  · intro d hd Q q
    obtain ⟨x, hx, rfl⟩ := List.mem_map.mp hd
    exact he x hx Q q
  · intro d hd
    obtain ⟨x, hx, rfl⟩ := List.mem_map.mp hd
    rfl
  · obtain ⟨l, h1, rfl⟩ := List.sublist_map_iff.mp hs
    exact h l h1
theorem lc_draws {i : Nat} {tt : DTT} {te : DTE} {ρw : DEnv} {fin : List D → Prop} {n : Nat} {m : Int} (ht : ∀ x : Int, ∀ Q : Bool → Prop, Q true → tt (ρw.set i (some (.int x))) Q)
    (he : ∀ x : Int, ∀ Q : D → Prop, (∀ y : Int, 0 ≤ y → y < m → Q (.int y)) → te (ρw.set i (some (.int x))) Q) (hl : n ≤ 1000) (h : ∀ xs : List Int, xs.length = n → (∀ x ∈ xs, 0 ≤ x ∧ x < m) → fin (xs.map .int)) : compI i tt te ρw fin (rngD 0 n) [] := by
  refine lc_each (fun y => ∃ z : Int, y = .int z ∧ 0 ≤ z ∧ z < m) ?_ ?_ ?_ (szl (by simp [rngD]; omega)) fun es hs hp => ?_
  · intro d hd Q q
    rw [rngD_L] at hd
    obtain ⟨x, hx, rfl⟩ := List.mem_map.mp hd
    exact ht x Q q
  · intro d hd Q q
    rw [rngD_L] at hd
    obtain ⟨x, hx, rfl⟩ := List.mem_map.mp hd
    exact he x Q fun y h0 h1 => q _ ⟨y, rfl, h0, h1⟩
  · rintro y ⟨z, rfl, _⟩
    rfl
  · have e : ∀ es : List D, (∀ y ∈ es, ∃ z : Int, y = .int z ∧ 0 ≤ z ∧ z < m) → ∃ xs : List Int, es = xs.map .int ∧ ∀ x ∈ xs, 0 ≤ x ∧ x < m := by
      intro es
      induction es with
      | nil => exact fun _ => ⟨[], rfl, by simp⟩
      | cons a r ih =>
        intro hh
        obtain ⟨z, rfl, hz⟩ := hh a List.mem_cons_self
        obtain ⟨xs, rfl, hx⟩ := ih fun y hy => hh y (List.mem_cons_of_mem _ hy)
        refine ⟨z :: xs, rfl, fun x q => ?_⟩
        rcases List.mem_cons.mp q with rfl | q
        · exact hz
        · exact hx x q
    obtain ⟨xs, rfl, hx⟩ := e es hp
    refine h xs ?_ hx
    simpa [rngD] using hs
theorem map_self (xs : List Int) : xs.map (fun x => x) = xs := List.map_id _
theorem sortSet_st {m : Int} {ns : List Int} {R : D → Prop} (hm : Ring m) (hl : ns.length ≤ 1000) (hn : ∀ n ∈ ns, 0 ≤ n ∧ n < m) (h : R (.lst ((sortD ns).map .int))) : intsP (ns.map .int) fun ns => ns.length + 1 < scanBound ∧ (sortD ns).length < 64 ∧ R (.lst ((sortD ns).map .int)) :=
  intsP_of ⟨by have : scanBound = 4096 := rfl; omega, sort_len hn hm.hi, h⟩
theorem cutD_ints (ns : List Int) (lo hi : Option Int) : ∃ l : List Int, cutD (ns.map .int) lo hi = l.map .int ∧ l.length ≤ ns.length := by
  refine ⟨(ns.drop (HT.sIx ns.length 0 lo)).take (HT.sIx ns.length ns.length hi - HT.sIx ns.length 0 lo), ?_, ?_⟩
  · unfold cutD
    rw [List.length_map, List.map_take, List.map_drop]
  · rw [List.length_take, List.length_drop]; omega
theorem mkFnJ {P : Program} {w : World} {K : PySem.W.Frag} {mg : Str → Option Value} {base : Heap} {x qual : Str} {st : Stmt} {f : Addr} {fd : FuncData} {N ps : List Str} {k : Nat} {S : DSp} (F : Fun K x qual st f fd) (hm : mg x = some (.ref f)) (hb : Binds K fd ps []) (sc : FnScope N ps (defScope st)) (hN : ps.length ≤ N.length)
    (len : ∀ ds R, S ds R → ds.length = ps.length)
    (body : ∀ (cdv : Value) (A : Around) (outer : List Env) (s : Shared) (H : Hp) (E : XK), Room k (A.deeper (envOfC qual (defScope st) s.heap.objs.size f cdv)) →
      ∃ wb, JSs (cxOf CX0 P w K mg base N qual (defScope st) f cdv A outer s H E).nox (defBody st) wb ∧ ∀ ds R, S ds R → wb { nx := fun _ => R .non, rt := R } (startD N ds)) : FnOk P w K mg base CX0 (k + 1) f fd ps (spD K ps.length S) := by
  refine F.ok sc (fun vs H Q E h => h.1) fun cdv A outer s H vs Q E hr h => ?_
  obtain ⟨wb, pb, hw⟩ := body cdv A outer s H E hr
  obtain ⟨hl, M, ds, R, ⟨wf, tb⟩, dr, hs, o⟩ := h
  obtain ⟨wl, kl⟩ := lock_wf wf
  refine ⟨_, pb.p, lockM M, startD N ds, _, wl, start_env tb.lock (DRs.keeps kl _ _ dr) (by omega), hw ds R hs, ⟨fun σ ρ M' H' q e r => ?_, fun v d M' H' q e dr' => ?_, fun σ ρ M' H' q => q.elim, fun σ ρ M' H' q => q.elim, fun _ _ _ _ _ q => q.elim⟩⟩
  · obtain ⟨e1, k1⟩ := unlock_ext wf e
    exact o .non .non _ H' q e1 (.inl .non)
  · obtain ⟨e1, k1⟩ := unlock_ext wf e
    exact o v d _ H' q e1 (.inl (DR.keeps k1 d v dr'))

def S_law : DSp := fun ds R => ∃ ns : List Int, ds = [lI ns] ∧ ns.length ≤ 63 ∧ R (.bl true)
theorem law_sp {K : PySem.W.Frag} {H : Hp} {a : Addr} {ns : List Int} {M : Mk} (wf : Wf M H) (tb : TabsIn K M) (ha : M a = 0) (hl : ns.length ≤ 63) (hS : SqL K H a (ns.map V.int)) : spD K 1 S_law [.ref a] H (fun v _ => v = .bl true) fun _ _ _ => False := by
  refine ⟨rfl, M, [lI ns], fun d => d = .bl true, ⟨wf, tb⟩, .cons (.lst ?_ (DRs.ofInts ns)) .nil, ⟨ns, rfl, hl, rfl⟩, fun v d M' H' e _ dv => ?_⟩
  · rcases hS with h | h
    · exact .inl ⟨ha, h⟩
    · exact .inr (.inr h)
  · subst e
    exact dv.bl

theorem mem_sumsF {m j : Int} {xs ys : List Int} : j ∈ sumsF m xs ys ↔ ∃ a ∈ xs, ∃ b ∈ ys, (a + b) % m = j := by
  unfold sumsF
  rw [mem_setF]
  simp only [List.mem_flatMap, List.mem_map]
  constructor
  · rintro ⟨n, ⟨a, ha, b, hb, rfl⟩, e⟩; exact ⟨a, ha, b, hb, e⟩
  · rintro ⟨a, ha, b, hb, e⟩; exact ⟨_, ⟨a, ha, b, hb, rfl⟩, e⟩
theorem emod_self {m x : Int} (h0 : 0 ≤ x) (h1 : x < m) : x % m = x := Int.emod_eq_of_lt h0 h1
theorem rng62 {m : Int} (h0 : -1000 ≤ m) (h1 : m ≤ 1000) : -(2 ^ 62) ≤ m ∧ m < 2 ^ 62 := by
  have : (2 : Int) ^ 62 = 4611686018427387904 := by decide
  omega
theorem Ring.r62 {m : Int} (h : Ring m) : -(2 ^ 62) ≤ m ∧ m < 2 ^ 62 := rng62 (by have := h.lo; omega) (by have := h.hi; omega)
theorem Ring.le {m : Int} (h : Ring m) : m ≤ 1000 := by have := h.hi; omega
theorem IsSt.szl {m : Int} {xs : List Int} (h : IsSt m xs) (hm : Ring m) : xs.length ≤ sizeLine := DL.szl (by have := h.len24 hm; omega)
theorem sz0 : ([] : List D).length ≤ sizeLine := DL.szl (by simp)
theorem sz1 {a : D} : [a].length ≤ sizeLine := DL.szl (by simp)
theorem sz2 {a b : D} : [a, b].length ≤ sizeLine := DL.szl (by simp)
theorem sz3 {a b c : D} : [a, b, c].length ≤ sizeLine := DL.szl (by simp)
end DL

set_option Elab.async false
set_option linter.all false
set_option maxRecDepth 100000
set_option maxHeartbeats 4000000
namespace DL
open PySem PySem.Spec PyProof.Rows L2 DS

def othF (m : Int) (zs : List Int) : List Int := (rngI m).filter fun x => !decide (x ∈ zs)
theorem othF_st {m : Int} {zs : List Int} : IsSt m (othF m zs) := filter_st _
def S_others : DSp := fun ds R => ∃ m xs, ds = [.int m, tI xs] ∧ Ring m ∧ IsSt m xs ∧ R (tI (othF m xs))
end DL

set_option Elab.async false
set_option linter.all false
set_option maxRecDepth 100000
set_option maxHeartbeats 4000000
namespace DL
open PySem PySem.Spec PyProof.Rows L2 DS
def movF (m : Int) (xs : List Int) (k : Int) : List Int := setF m (xs.map (· + k))
def movs (m : Int) (xs : List Int) : List (List Int) := (rngI m).map (movF m xs)
theorem movF_st {m : Int} (hm : Ring m) {xs : List Int} {k : Int} : IsSt m (movF m xs k) := setF_st hm.pos _
theorem mem_movF {m j k : Int} {xs : List Int} : j ∈ movF m xs k ↔ ∃ x ∈ xs, (x + k) % m = j := by
  unfold movF
  rw [mem_setF]
  simp only [List.mem_map]
  constructor
  · rintro ⟨n, ⟨x, hx, rfl⟩, e⟩; exact ⟨x, hx, e⟩
  · rintro ⟨x, hx, e⟩; exact ⟨_, ⟨x, hx, rfl⟩, e⟩
theorem mod_add (m a b : Int) : (a % m + b) % m = (a + b) % m := by rw [Int.add_emod, Int.emod_emod, ← Int.add_emod]
theorem add_mod' (m a b : Int) : (a + b % m) % m = (a + b) % m := by rw [Int.add_emod, Int.emod_emod, ← Int.add_emod]

theorem mov_mov {m : Int} (hm : Ring m) {xs : List Int} {a b : Int} : movF m (movF m xs a) b = movF m xs (a + b) := by
  refine st_ext (movF_st hm) (movF_st hm) fun j h0 h1 => ?_
  rw [mem_movF, mem_movF]
  constructor
  · rintro ⟨y, hy, e⟩
    obtain ⟨x, hx, rfl⟩ := mem_movF.mp hy
    exact ⟨x, hx, by rw [mod_add] at e; rw [← Int.add_assoc]; exact e⟩
  · rintro ⟨x, hx, e⟩
    exact ⟨(x + a) % m, mem_movF.mpr ⟨x, hx, rfl⟩, by rw [mod_add, Int.add_assoc]; exact e⟩
theorem mov_mod {m : Int} (hm : Ring m) {xs : List Int} {a : Int} : movF m xs (a % m) = movF m xs a := by
  refine st_ext (movF_st hm) (movF_st hm) fun j h0 h1 => ?_
  rw [mem_movF, mem_movF]
  constructor
  · rintro ⟨x, hx, e⟩; exact ⟨x, hx, by rw [add_mod'] at e; exact e⟩
  · rintro ⟨x, hx, e⟩; exact ⟨x, hx, by rw [add_mod']; exact e⟩
theorem mov_zero {m : Int} (hm : Ring m) {xs : List Int} (h : IsSt m xs) : movF m xs 0 = xs := by
  refine st_ext (movF_st hm) h fun j h0 h1 => ?_
  rw [mem_movF]
  constructor
  · rintro ⟨x, hx, e⟩
    rw [Int.add_zero, emod_self (h.lo x hx) (h.hi x hx)] at e
    exact e ▸ hx
  · intro hj
    exact ⟨j, hj, by rw [Int.add_zero, emod_self h0 h1]⟩
theorem back_mod {m x j a : Int} (hx0 : 0 ≤ x) (hx1 : x < m) (e : (x + a) % m = j) : (j - a) % m = x := by
  rw [← e, Int.sub_emod, Int.emod_emod, ← Int.sub_emod, show x + a - a = x by omega]
  exact emod_self hx0 hx1
structure Least (m : Int) (xs ns : List Int) : Prop where
  mem : ns ∈ movs m xs
  least : ∀ ms ∈ movs m xs, HT.lexLt ms ns = false
theorem mem_movs {m : Int} (hm : Ring m) {xs ns : List Int} : ns ∈ movs m xs ↔ ∃ k, ns = movF m xs k := by
  unfold movs
  rw [List.mem_map]
  constructor
  · rintro ⟨k, _, e⟩; exact ⟨k, e.symm⟩
  · rintro ⟨k, e⟩
    exact ⟨k % m, mem_rngI.mpr ⟨Int.emod_nonneg _ (by have := hm.lo; omega), Int.emod_lt_of_pos _ hm.pos⟩, by rw [mov_mod hm]; exact e.symm⟩
theorem movs_sub {m : Int} (hm : Ring m) {xs : List Int} {a : Int} {ns : List Int} (h : ns ∈ movs m (movF m xs a)) : ns ∈ movs m xs := by
  obtain ⟨k, rfl⟩ := (mem_movs hm).mp h
  exact (mem_movs hm).mpr ⟨_, mov_mov hm⟩
theorem Least.uniq {m : Int} {xs ns ms : List Int} (h1 : Least m xs ns) (h2 : Least m xs ms) : ns = ms := lexLt_tri (h2.least ns h1.mem) (h1.least ms h2.mem)
end DL

set_option Elab.async false
set_option linter.all false
set_option maxRecDepth 100000
set_option maxHeartbeats 4000000
namespace DL
open PySem PySem.Spec PyProof.Rows L2 DS
theorem rng_split {m k : Int} {pre suf : List Int} (h : rngI m = pre ++ k :: suf) : ∀ j, 0 ≤ j → j < k → j ∈ pre := fun j h0 h1 => by
  have hp := rngI_up m
  have hk : k ∈ rngI m := by rw [h]; simp
  have hj : j ∈ rngI m := mem_rngI.mpr ⟨h0, by have := (mem_rngI.mp hk).2; omega⟩
  rw [h] at hj hp
  rcases List.mem_append.mp hj with q | q
  · exact q
  · rcases List.mem_cons.mp q with e | q
    · omega
    · have := (List.pairwise_cons.mp (List.pairwise_append.mp hp).2.1).1 j q
      omega
end DL

set_option Elab.async false
set_option linter.all false
set_option maxRecDepth 100000
set_option maxHeartbeats 4000000
namespace DL
open PySem PySem.Spec PyProof.Rows L2 DS
theorem szlt {n : Nat} (h : n < 1000) : n < sizeLine := by rw [sizeLine_eq]; omega
end DL

set_option Elab.async false
set_option linter.all false
set_option maxRecDepth 100000
set_option maxHeartbeats 4000000
namespace DL
open PySem PySem.Spec PyProof.Rows L2 DS

def trdB (m : Int) (xs ys : List Int) (e : Int) : List Int := ys.filter fun b => decide ((b + e) % m ∈ xs)
theorem IsSt.filter {m : Int} {ys : List Int} (h : IsSt m ys) (p : Int → Bool) : IsSt m (ys.filter p) := ⟨h.up.sublist List.filter_sublist, fun x q => h.lo x (List.mem_filter.mp q).1, fun x q => h.hi x (List.mem_filter.mp q).1⟩
end DL

set_option Elab.async false
set_option linter.all false
set_option maxRecDepth 100000
set_option maxHeartbeats 4000000
namespace DL
open PySem PySem.Spec PyProof.Rows L2 DS

def S_is_within : DSp := fun ds R => ∃ n lo hi, ds = [.int n, .int lo, .int hi] ∧ (if lo ≤ n then R (.bl (decide (n ≤ hi))) else R (.bl false))
def S_check_within : DSp := fun ds R => ∃ n lo hi, ds = [.int n, .int lo, .int hi] ∧ lo ≤ n ∧ n ≤ hi ∧ R .non
def S_check_pair : DSp := fun ds R => ∃ m xs ys, ds = [.int m, tI xs, tI ys] ∧ Ring m ∧ IsSt m xs ∧ IsSt m ys ∧ R .non
theorem md {m : Int} (hm : Ring m) (a : Int) : 0 ≤ a % m ∧ a % m < m := ⟨Int.emod_nonneg _ (by have := hm.lo; omega), Int.emod_lt_of_pos _ hm.pos⟩
end DL
namespace DL
open PySem PySem.Spec PyProof.Rows L2 DS
end DL
namespace DL
open PySem PySem.Spec PyProof.Rows L2 DS
end DL

set_option Elab.async false
set_option linter.all false
set_option maxRecDepth 100000
set_option maxHeartbeats 4000000
namespace DL
open PySem PySem.Spec PyProof.Rows L2 DS

def partsB (m : Int) (xs ys : List Int) (e : Int) : Bool := decide (0 < (trdB m xs ys e).length) && decide ((trdB m xs ys e).length < ys.length)
def ntF (m : Int) (xs ys : List Int) : Option Int := (rngI m).find? (partsB m xs ys)
theorem IsSt.mono {m n : Int} {xs : List Int} (h : IsSt m xs) (hn : m ≤ n) : IsSt n xs := ⟨h.up, h.lo, fun x q => by have := h.hi x q; omega⟩
end DL
namespace DL
end DL
namespace DL
end DL

set_option Elab.async false
set_option linter.all false
set_option maxRecDepth 100000
set_option maxHeartbeats 4000000
namespace DL
open PySem PySem.Spec PyProof.Rows L2 DS

theorem sums_st {m : Int} {xs ys : List Int} (hm : Ring m) : IsSt m (sumsF m xs ys) := setF_st hm.pos _
theorem st_sub_len {m : Int} {xs ys : List Int} (hx : IsSt m xs) (h : ∀ j ∈ xs, j ∈ ys) : xs.length ≤ ys.length := nodup_len hx.nodup h
theorem mov_inj {m a b k : Int} (a0 : 0 ≤ a) (a1 : a < m) (b0 : 0 ≤ b) (b1 : b < m) (q : (a + k) % m = (b + k) % m) : a = b := by
  rw [← back_mod (j := (a + k) % m) a0 a1 rfl, ← back_mod (j := (b + k) % m) b0 b1 rfl, q]
theorem map_nodup {m k : Int} {xs : List Int} (hx : IsSt m xs) : (xs.map fun a => (a + k) % m).Nodup := by
  refine List.Pairwise.map _ (R := fun a b : Int => a ∈ xs ∧ b ∈ xs ∧ a ≠ b) (fun a b h q => h.2.2 (mov_inj (hx.lo a h.1) (hx.hi a h.1) (hx.lo b h.2.1) (hx.hi b h.2.1) q)) ?_
  exact List.Pairwise.imp_of_mem (fun {a b} ha hb h => ⟨ha, hb, h⟩) hx.nodup
structure End (m : Int) (xs ys A B : List Int) : Prop where
  sa : IsSt m A
  sb : IsSt m B
  ne : B ≠ []
  stuck : ntF m A B = none
  sub : ∀ j ∈ xs, j ∈ A
  len : A.length + B.length = xs.length + ys.length
  sums : ∀ j ∈ sumsF m A B, j ∈ sumsF m xs ys
end DL
namespace DL
end DL

set_option Elab.async false
set_option linter.all false
set_option maxRecDepth 100000
set_option maxHeartbeats 4000000
namespace DL
open PySem PySem.Spec PyProof.Rows L2 DS
def primes10 : List Int := [2, 3, 5, 7, 11, 13, 17, 19, 23, 7]
end DL

set_option Elab.async false
set_option linter.all false
set_option maxRecDepth 100000
set_option maxHeartbeats 4000000
namespace DL
open PySem PySem.Spec PyProof.Rows L2 DS
theorem sums_mov {m k : Int} {xs ys : List Int} (hm : Ring m) : sumsF m (movF m xs k) ys = movF m (sumsF m xs ys) k := by
  refine st_ext (sums_st hm) (movF_st hm) fun j _ _ => ?_
  rw [mem_sumsF, mem_movF]
  constructor
  · rintro ⟨c, hc, b, hb, e⟩
    obtain ⟨a, ha, rfl⟩ := mem_movF.mp hc
    exact ⟨_, mem_sumsF.mpr ⟨a, ha, b, hb, rfl⟩, by rw [mod_add] at e ⊢; rw [show a + b + k = a + k + b by omega]; exact e⟩
  · rintro ⟨c, hc, e⟩
    obtain ⟨a, ha, b, hb, rfl⟩ := mem_sumsF.mp hc
    exact ⟨_, mem_movF.mpr ⟨a, ha, rfl⟩, b, hb, by rw [mod_add] at e ⊢; rw [show a + k + b = a + b + k by omega]; exact e⟩
end DL

set_option Elab.async false
set_option linter.all false
set_option maxRecDepth 100000
set_option maxHeartbeats 4000000
namespace DL
open PySem PySem.Spec PyProof.Rows L2 DS

def rowF (m f d k : Int) : List Int := setF m ((rngI k).map fun t => f + d * t)
theorem rowF_st {m f d k : Int} (hm : Ring m) : IsSt m (rowF m f d k) := setF_st hm.pos _
theorem mem_rowF {m f d k j : Int} : j ∈ rowF m f d k ↔ ∃ t, 0 ≤ t ∧ t < k ∧ (f + d * t) % m = j := by
  unfold rowF
  rw [mem_setF]
  simp only [List.mem_map, mem_rngI]
  constructor
  · rintro ⟨n, ⟨t, ⟨h0, h1⟩, rfl⟩, e⟩; exact ⟨t, h0, h1, e⟩
  · rintro ⟨t, h0, h1, e⟩; exact ⟨_, ⟨t, ⟨h0, h1⟩, rfl⟩, e⟩
def S_check_step : DSp := fun ds R => ∃ m d, ds = [.int m, .int d] ∧ 1 ≤ d ∧ d < m ∧ R .non
def S_row_of : DSp := fun ds R => ∃ m f d k, ds = [.int m, .int f, .int d, .int k] ∧ Ring m ∧ (0 ≤ f ∧ f < m) ∧ (1 ≤ d ∧ d < m) ∧ (0 ≤ k ∧ k ≤ m) ∧ R (tI (rowF m f d k))
end DL
namespace DL
open PySem PySem.Spec PyProof.Rows L2 DS
end DL

set_option Elab.async false
set_option linter.all false
set_option maxRecDepth 100000
set_option maxHeartbeats 4000000
namespace DL
open PySem PySem.Spec PyProof.Rows L2 DS

structure Dv (m h : Int) : Prop where
  lo : 2 ≤ h
  hi : h ≤ m
  dv : m % h = 0
theorem Dv.ring {m h : Int} (d : Dv m h) (hm : Ring m) : Ring h := ⟨d.lo, by have := d.hi; have := hm.hi; omega⟩
theorem Dv.mm {m h : Int} (d : Dv m h) (z : Int) : z % m % h = z % h := Int.emod_emod_of_dvd _ (Int.dvd_of_emod_eq_zero d.dv)
theorem Dv.q {m h : Int} (d : Dv m h) : 0 ≤ m / h := Int.ediv_nonneg (by have := d.lo; have := d.hi; omega) (by have := d.lo; omega)
end DL

set_option Elab.async false
set_option linter.all false
set_option maxRecDepth 100000
set_option maxHeartbeats 4000000
namespace DL
open PySem PySem.Spec PyProof.Rows L2 DS
structure LeastK (m : Int) (xs : List Int) (g : Int) : Prop where
  pos : 0 < g
  le : g ≤ m
  keep : movF m xs g = xs
  least : ∀ k, movF m xs k = xs → 0 < k → g ≤ k
end DL
namespace DL
end DL

set_option Elab.async false
set_option linter.all false
set_option maxRecDepth 100000
set_option maxHeartbeats 4000000
namespace DL
open PySem PySem.Spec PyProof.Rows L2 DS

def fstF (w : Int) (p : Int → Bool) : Int := ((rngI w).find? p).getD w
structure IsFst (w : Int) (p : Int → Bool) (n : Int) : Prop where
  lo : 0 ≤ n
  hi : n ≤ w
  no : ∀ i, 0 ≤ i → i < n → p i = false
  yes : n < w → p n = true
theorem IsFst.uniq {w n k : Int} {p : Int → Bool} (a : IsFst w p n) (b : IsFst w p k) : n = k := by
  rcases Int.lt_trichotomy n k with h | h | h
  · have h1 := b.no n a.lo h
    rw [a.yes (by have := b.hi; omega)] at h1
    cases h1
  · exact h
  · have h1 := a.no k b.lo h
    rw [b.yes (by have := a.hi; omega)] at h1
    cases h1
theorem fst_is {w : Int} {p : Int → Bool} (hw : 0 ≤ w) : IsFst w p (fstF w p) := by
  unfold fstF
  cases h : (rngI w).find? p with
  | none =>
    refine ⟨hw, Int.le_refl _, fun i h0 h1 => ?_, fun q => ?_⟩
    · have := List.find?_eq_none.mp h i (mem_rngI.mpr ⟨h0, h1⟩)
      simpa using this
    · have : w < w := q
      omega
  | some n =>
    have h1 := List.find?_some h
    obtain ⟨as, bs, e, hb⟩ := (List.find?_eq_some_iff_append.mp h).2
    have hn := mem_rngI.mp (List.mem_of_find?_eq_some h)
    refine ⟨hn.1, by show n ≤ w; omega, fun i h0 h2 => ?_, fun _ => h1⟩
    have := hb i (rng_split e i h0 h2)
    simpa using this
theorem fst_eq {w n : Int} {p : Int → Bool} (h : IsFst w p n) : fstF w p = n := (fst_is (Int.le_trans h.lo h.hi)).uniq h

def rndF (m d : Int) : Int := 1 + fstF m fun i => decide ((1 + i) * d % m = 0)
def runF (m : Int) (xs : List Int) (d f : Int) : Int := fstF (rndF m d) fun i => !decide ((f + i * d) % m ∈ xs)
def gapF (m : Int) (xs : List Int) (d e : Int) : Int := fstF m fun i => decide ((e + (i + 1) * d) % m ∈ xs)
structure Rnd (m d w : Int) : Prop where
  lo : 1 ≤ w
  hi : w ≤ m
  zero : w * d % m = 0
  least : ∀ n, 1 ≤ n → n < w → n * d % m ≠ 0
theorem rnd_is {m d : Int} (hm : Ring m) : Rnd m d (rndF m d) := by
  have lo := hm.lo
  have h := fst_is (w := m) (p := fun i => decide ((1 + i) * d % m = 0)) (by omega)
  have lt : fstF m (fun i => decide ((1 + i) * d % m = 0)) < m := by
    rcases Int.lt_or_eq_of_le h.hi with q | q
    · exact q
    · have := h.no (m - 1) (by omega) (by omega)
      rw [show (1 + (m - 1)) = m by omega, Int.mul_emod_right] at this
      simp at this
  have l0 := h.lo
  unfold rndF
  refine ⟨by omega, by omega, by simpa using h.yes lt, fun n n0 n1 => ?_⟩
  have := h.no (n - 1) (by omega) (by omega)
  rw [show 1 + (n - 1) = n by omega] at this
  simpa using this
theorem Rnd.two {m d w : Int} (r : Rnd m d w) (d0 : 1 ≤ d) (d1 : d < m) : 2 ≤ w := by
  have := r.lo
  rcases Int.lt_or_eq_of_le this with q | q
  · omega
  · have z := r.zero
    rw [← q, Int.one_mul, emod_self (by omega) d1] at z
    omega

theorem neg_zero {m a : Int} (h : a % m = 0) : -a % m = 0 := Int.emod_eq_zero_of_dvd (Int.dvd_neg.mpr (Int.dvd_of_emod_eq_zero h))
theorem cg {m a b : Int} (h : a % m = b % m) (c : Int) : (a + c) % m = (b + c) % m := by rw [Int.add_emod, h, ← Int.add_emod]
section
variable {m d : Int} {xs : List Int}

structure Run (m : Int) (xs : List Int) (d w f n : Int) : Prop where
  lo : 0 ≤ n
  hi : n ≤ w
  all : ∀ i, 0 ≤ i → i < n → (f + i * d) % m ∈ xs
  stop : n < w → ¬ (f + n * d) % m ∈ xs
theorem run_is (hm : Ring m) (f : Int) : Run m xs d (rndF m d) f (runF m xs d f) := by
  have r := rnd_is (d := d) hm
  have h := fst_is (w := rndF m d) (p := fun i => !decide ((f + i * d) % m ∈ xs)) (by have := r.lo; omega)
  exact ⟨h.lo, h.hi, fun i h0 h1 => by simpa using h.no i h0 h1, fun q => by have := h.yes q; simp only [Bool.not_eq_true', decide_eq_false_iff_not] at this; exact this⟩
theorem run_eq {f n : Int} (h : Run m xs d (rndF m d) f n) : runF m xs d f = n := fst_eq ⟨h.lo, h.hi, fun i h0 h1 => by simpa using h.all i h0 h1, fun q => by simpa using h.stop q⟩
structure Gap (m : Int) (xs : List Int) (d e g : Int) : Prop where
  lo : 0 ≤ g
  hi : g < m
  no : ∀ i, 1 ≤ i → i ≤ g → ¬ (e + i * d) % m ∈ xs
  yes : (e + (g + 1) * d) % m ∈ xs
theorem gap_is (hm : Ring m) {e : Int} (he : e % m ∈ xs) : Gap m xs d e (gapF m xs d e) := by
  have lo := hm.lo
  have h := fst_is (w := m) (p := fun i => decide ((e + (i + 1) * d) % m ∈ xs)) (by omega)
  have lt : fstF m (fun i => decide ((e + (i + 1) * d) % m ∈ xs)) < m := by
    rcases Int.lt_or_eq_of_le h.hi with q | q
    · exact q
    · have := h.no (m - 1) (by omega) (by omega)
      rw [show (m - 1 + 1) = m by omega, Int.add_mul_emod_self_left] at this
      simp [he] at this
  exact ⟨h.lo, lt, fun i h0 h1 => by
    have := h.no (i - 1) (by omega) (by show i - 1 < gapF m xs d e; omega)
    rw [show i - 1 + 1 = i by omega] at this
    simpa using this, by have := h.yes lt; simp only [decide_eq_true_eq] at this; exact this⟩
def startsF (m : Int) (xs : List Int) (d : Int) : List Int := xs.filter fun f => !decide ((f - d) % m ∈ xs)
def endF (m : Int) (xs : List Int) (d f : Int) : Int := f + (runF m xs d f - 1) * d
theorem mem_starts {f : Int} : f ∈ startsF m xs d ↔ f ∈ xs ∧ ¬ (f - d) % m ∈ xs := by
  unfold startsF
  rw [List.mem_filter]
  simp

theorem start_run (hm : Ring m) (hx : IsSt m xs) {f : Int} (hf : f ∈ startsF m xs d) : 1 ≤ runF m xs d f ∧ runF m xs d f < rndF m d := by
  obtain ⟨h1, h2⟩ := mem_starts.mp hf
  have r := run_is (xs := xs) (d := d) hm f
  have w := rnd_is (d := d) hm
  have f0 : (f + 0 * d) % m ∈ xs := by rw [show f + 0 * d = f by simp, emod_self (hx.lo f h1) (hx.hi f h1)]; exact h1
  constructor
  · rcases Int.lt_or_eq_of_le r.lo with q | q
    · omega
    · have := r.stop (by rw [← q]; have := w.lo; omega)
      rw [← q] at this
      exact absurd f0 this
  · rcases Int.lt_or_eq_of_le r.hi with q | q
    · exact q
    · have := r.all (rndF m d - 1) (by have := w.lo; omega) (by omega)
      rw [show f + (rndF m d - 1) * d = f - d + rndF m d * d by rw [Int.sub_mul]; omega, Int.add_emod, w.zero, Int.add_zero, Int.emod_emod] at this
      exact absurd this h2
theorem end_in (hm : Ring m) (hx : IsSt m xs) {f : Int} (hf : f ∈ startsF m xs d) : endF m xs d f % m ∈ xs := by
  have s := start_run hm hx hf
  exact (run_is (xs := xs) (d := d) hm f).all _ (by omega) (by omega)

def newF (m : Int) (xs : List Int) (d k f : Int) : List Int := (rngI (min (gapF m xs d (endF m xs d f)) (k - 1))).map fun i => (endF m xs d f + (i + 1) * d) % m
theorem mem_newF {k f j : Int} : j ∈ newF m xs d k f ↔ ∃ i, 0 ≤ i ∧ i < gapF m xs d (endF m xs d f) ∧ i < k - 1 ∧ (endF m xs d f + (i + 1) * d) % m = j := by
  unfold newF
  simp only [List.mem_map, mem_rngI]
  constructor
  · rintro ⟨i, ⟨h0, h1⟩, e⟩; exact ⟨i, h0, by omega, by omega, e⟩
  · rintro ⟨i, h0, h1, h2, e⟩; exact ⟨i, ⟨h0, by omega⟩, e⟩
theorem start_inj (hm : Ring m) (hx : IsSt m xs) {f f' : Int} (hf : f ∈ startsF m xs d) (hf' : f' ∈ startsF m xs d) (le : runF m xs d f ≤ runF m xs d f') (e : endF m xs d f % m = endF m xs d f' % m) : f = f' := by
  obtain ⟨h1, h2⟩ := mem_starts.mp hf
  obtain ⟨h1', h2'⟩ := mem_starts.mp hf'
  have s := start_run hm hx hf
  have s' := start_run hm hx hf'
  have r' := run_is (xs := xs) (d := d) hm f'
  have e2 := cg e (-((runF m xs d f - 1) * d))
  rw [show endF m xs d f + -((runF m xs d f - 1) * d) = f by unfold endF; omega, show endF m xs d f' + -((runF m xs d f - 1) * d) = f' + (runF m xs d f' - runF m xs d f) * d by unfold endF; rw [Int.sub_mul, Int.sub_mul, Int.sub_mul]; omega] at e2
  rcases Int.lt_or_eq_of_le le with q | q
  · have i1 := r'.all (runF m xs d f' - runF m xs d f - 1) (by omega) (by omega)
    have e3 := cg e2 (-d)
    rw [show f' + (runF m xs d f' - runF m xs d f) * d + -d = f' + (runF m xs d f' - runF m xs d f - 1) * d by rw [Int.sub_mul (runF m xs d f' - runF m xs d f) 1 d]; omega] at e3
    rw [← e3, show f + -d = f - d by omega] at i1
    exact absurd i1 h2
  · rw [q, Int.sub_self, Int.zero_mul, Int.add_zero, emod_self (hx.lo f h1) (hx.hi f h1), emod_self (hx.lo f' h1') (hx.hi f' h1')] at e2
    exact e2
theorem new_out (hm : Ring m) (hx : IsSt m xs) {f k j : Int} (hf : f ∈ startsF m xs d) (hj : j ∈ newF m xs d k f) : ¬ j ∈ xs := by
  obtain ⟨i, h0, h1, _, rfl⟩ := mem_newF.mp hj
  exact (gap_is (d := d) hm (end_in hm hx hf)).no (i + 1) (by omega) (by omega)
theorem new_cross (hm : Ring m) (hx : IsSt m xs) {f f' i i' : Int} (hf : f ∈ startsF m xs d) (hf' : f' ∈ startsF m xs d) (i0 : 0 ≤ i) (le : i < i') (i1 : i' < gapF m xs d (endF m xs d f')) (e : (endF m xs d f + (i + 1) * d) % m = (endF m xs d f' + (i' + 1) * d) % m) : False := by
  have e2 := cg e (-((i + 1) * d))
  rw [show endF m xs d f + (i + 1) * d + -((i + 1) * d) = endF m xs d f by omega, show endF m xs d f' + (i' + 1) * d + -((i + 1) * d) = endF m xs d f' + (i' - i) * d by rw [Int.sub_mul, Int.add_mul, Int.add_mul]; omega] at e2
  have := (gap_is (d := d) hm (end_in hm hx hf')).no (i' - i) (by omega) (by omega)
  rw [← e2] at this
  exact this (end_in hm hx hf)
theorem new_nodup (hm : Ring m) (hx : IsSt m xs) {k : Int} : ((startsF m xs d).flatMap (newF m xs d k)).Nodup := by
  refine List.pairwise_flatMap.mpr ⟨fun f hf => ?_, ?_⟩
  · refine List.Pairwise.map _ (R := fun a b : Int => (a ∈ rngI (min (gapF m xs d (endF m xs d f)) (k - 1))) ∧ (b ∈ rngI (min (gapF m xs d (endF m xs d f)) (k - 1))) ∧ a < b) (fun a b h q => ?_) ?_
    · have h1 := mem_rngI.mp h.1
      have h2 := mem_rngI.mp h.2.1
      exact new_cross hm hx hf hf h1.1 h.2.2 (by omega) q
    · exact List.Pairwise.imp_of_mem (fun {a b} ha hb h => ⟨ha, hb, h⟩) (rngI_up _)
  · have nd := (hx.filter fun f => !decide ((f - d) % m ∈ xs)).nodup
    refine List.Pairwise.imp_of_mem (fun {f f'} hf hf' ne x hx1 y hy1 q => ?_) nd
    subst q
    obtain ⟨i, a0, a1, _, ea⟩ := mem_newF.mp hx1
    obtain ⟨i', b0, b1, _, eb⟩ := mem_newF.mp hy1
    have e := ea.trans eb.symm
    rcases Int.lt_trichotomy i i' with h | h | h
    · exact new_cross hm hx hf hf' a0 h b1 e
    · subst h
      have e2 := cg e (-((i + 1) * d))
      rw [show endF m xs d f + (i + 1) * d + -((i + 1) * d) = endF m xs d f by omega, show endF m xs d f' + (i + 1) * d + -((i + 1) * d) = endF m xs d f' by omega] at e2
      rcases Int.le_total (runF m xs d f) (runF m xs d f') with l | l
      · exact ne (start_inj hm hx hf hf' l e2)
      · exact ne (start_inj hm hx hf' hf l e2.symm).symm
    · exact new_cross hm hx hf' hf b0 h a1 e.symm

theorem end_of (hm : Ring m) (hx : IsSt m xs) (d0 : 1 ≤ d) (d1 : d < m) {e : Int} (he : e % m ∈ xs) (hn : ¬ (e + d) % m ∈ xs) : ∃ f ∈ startsF m xs d, endF m xs d f % m = e % m := by
  have w := rnd_is (d := d) hm
  have w2 := w.two d0 d1
  have h := fst_is (w := rndF m d) (p := fun b => !decide ((e - (b + 1) * d) % m ∈ xs)) (by omega)
  generalize fstF (rndF m d) (fun b => !decide ((e - (b + 1) * d) % m ∈ xs)) = b at h
  have hb : b ≤ rndF m d - 2 := by
    by_cases q : b ≤ rndF m d - 2
    · exact q
    · have := h.no (rndF m d - 2) (by omega) (by omega)
      rw [show e - (rndF m d - 2 + 1) * d = e + d + -(rndF m d * d) by rw [Int.add_mul, Int.sub_mul]; omega, Int.add_emod, neg_zero w.zero] at this
      rw [Int.add_zero, Int.emod_emod] at this
      simp [hn] at this
  have b0 := h.lo
  have hs : ¬ (e - (b + 1) * d) % m ∈ xs := by simpa using h.yes (by omega)
  have inn : ∀ i, 0 ≤ i → i ≤ b → (e - i * d) % m ∈ xs := fun i i0 i1 => by
    rcases Int.lt_or_eq_of_le i0 with q | q
    · have := h.no (i - 1) (by omega) (by omega)
      rw [show i - 1 + 1 = i by omega] at this
      simpa using this
    · rw [← q, show e - 0 * d = e by simp]; exact he
  have cf : (e - b * d) % m % m = (e - b * d) % m := Int.emod_emod _ _
  have hf : (e - b * d) % m ∈ startsF m xs d := mem_starts.mpr ⟨inn b b0 (Int.le_refl _), by
    have := cg cf (-d)
    rw [show (e - b * d) % m + -d = (e - b * d) % m - d by omega, show e - b * d + -d = e - (b + 1) * d by rw [Int.add_mul]; omega] at this
    rw [this]
    exact hs⟩
  have rn : runF m xs d ((e - b * d) % m) = b + 1 := run_eq ⟨by omega, by omega, fun i i0 i1 => by
    rw [cg cf (i * d), show e - b * d + i * d = e - (b - i) * d by rw [Int.sub_mul]; omega]
    exact inn (b - i) (by omega) (by omega), fun _ => by
    rw [cg cf ((b + 1) * d), show e - b * d + (b + 1) * d = e + d by rw [Int.add_mul]; omega]
    exact hn⟩
  refine ⟨_, hf, ?_⟩
  unfold endF
  rw [rn, cg cf, show e - b * d + (b + 1 - 1) * d = e by rw [show b + 1 - 1 = b by omega]; omega]

theorem grow_mem (hm : Ring m) (hx : IsSt m xs) (d0 : 1 ≤ d) (d1 : d < m) {k : Int} (k0 : 1 ≤ k) (j : Int) : (∃ t, 0 ≤ t ∧ t < k ∧ ∃ n ∈ xs, (n + t * d) % m = j) ↔ j ∈ xs ++ (startsF m xs d).flatMap (newF m xs d k) := by
  rw [List.mem_append, List.mem_flatMap]
  constructor
  · rintro ⟨t, t0, t1, n, hn, rfl⟩
    by_cases q : (n + t * d) % m ∈ xs
    · exact .inl q
    · refine .inr ?_
      have h := fst_is (w := t) (p := fun s => decide ((n + (t - 1 - s) * d) % m ∈ xs)) t0
      generalize fstF t (fun s => decide ((n + (t - 1 - s) * d) % m ∈ xs)) = s at h
      have s0 := h.lo
      have lt : s < t := by
        rcases Int.lt_or_eq_of_le h.hi with z | z
        · exact z
        · rcases Int.lt_or_eq_of_le t0 with y | y
          · have := h.no (t - 1) (by omega) (by omega)
            rw [show t - 1 - (t - 1) = 0 by omega, Int.zero_mul, Int.add_zero, emod_self (hx.lo n hn) (hx.hi n hn)] at this
            simp [hn] at this
          · rw [← y, Int.zero_mul, Int.add_zero, emod_self (hx.lo n hn) (hx.hi n hn)] at q
            exact absurd hn q
      have he : (n + (t - 1 - s) * d) % m ∈ xs := by simpa using h.yes lt
      have out : ∀ i, 1 ≤ i → i ≤ s + 1 → ¬ (n + (t - 1 - s) * d + i * d) % m ∈ xs := fun i i0 i1 => by
        rw [show n + (t - 1 - s) * d + i * d = n + (t - 1 - s + i) * d by rw [Int.add_mul (t - 1 - s)]; omega]
        rcases Int.lt_or_eq_of_le i1 with z | z
        · have := h.no (s - i) (by omega) (by omega)
          rw [show t - 1 - (s - i) = t - 1 - s + i by omega] at this
          simpa using this
        · rw [z, show t - 1 - s + (s + 1) = t by omega]; exact q
      obtain ⟨f, hf, ef⟩ := end_of hm hx d0 d1 he (by have := out 1 (by omega) (by omega); rwa [Int.one_mul] at this)
      have g := gap_is (d := d) hm (end_in hm hx hf)
      have gs : s < gapF m xs d (endF m xs d f) := by
        by_cases z : s < gapF m xs d (endF m xs d f)
        · exact z
        · have y := g.yes
          have gl := g.lo
          rw [cg ef] at y
          exact absurd y (out _ (by omega) (by omega))
      refine ⟨f, hf, mem_newF.mpr ⟨s, s0, gs, by omega, ?_⟩⟩
      rw [cg ef, show n + (t - 1 - s) * d + (s + 1) * d = n + t * d by rw [Int.add_assoc, ← Int.add_mul, show t - 1 - s + (s + 1) = t by omega]]
  · rintro (h | ⟨f, hf, h⟩)
    · exact ⟨0, by omega, by omega, j, h, by rw [Int.zero_mul, Int.add_zero]; exact emod_self (hx.lo j h) (hx.hi j h)⟩
    · obtain ⟨i, i0, i1, i2, rfl⟩ := mem_newF.mp h
      exact ⟨i + 1, by omega, by omega, _, end_in hm hx hf, by rw [mod_add]⟩
theorem grow_nodup (hm : Ring m) (hx : IsSt m xs) {k : Int} : (xs ++ (startsF m xs d).flatMap (newF m xs d k)).Nodup :=
  List.nodup_append.mpr ⟨hx.nodup, new_nodup hm hx, fun a ha b hb q => by
    obtain ⟨f, hf, h⟩ := List.mem_flatMap.mp hb
    exact new_out hm hx hf h (q ▸ ha)⟩
end
end DL

set_option Elab.async false
set_option linter.all false
set_option maxRecDepth 100000
set_option maxHeartbeats 4000000
namespace DL
open PySem PySem.Spec PyProof.Rows L2 DS
def pD (q : Int × Int) : D := .tup [.int q.1, .int q.2]
theorem lcP_ints {i i2 : Nat} {tt : DTT} {te : DTE} {ρw : DEnv} {fin : List D → Prop} {ps : List (Int × Int)} (p : Int × Int → Bool) (g : Int × Int → Int) (ht : ∀ q ∈ ps, ∀ Q : Bool → Prop, Q (p q) → tt ((ρw.set i (some (.int q.1))).set i2 (some (.int q.2))) Q)
    (he : ∀ q ∈ ps, p q = true → ∀ Q : D → Prop, Q (.int (g q)) → te ((ρw.set i (some (.int q.1))).set i2 (some (.int q.2))) Q) (hl : ps.length ≤ sizeLine) (h : fin (((ps.filter p).map g).map .int)) : compP i i2 tt te ρw fin (ps.map pD) [] := by
  refine ⟨fun rest acc => ∃ done l, ps = done ++ l ∧ rest = l.map pD ∧ acc = ((done.filter p).map g).map .int, ⟨[], ps, rfl, rfl, rfl⟩, ?_, ?_⟩
  · rintro acc ⟨done, l, e, el, rfl⟩
    have : l = [] := by cases l with | nil => rfl | cons _ _ => cases el
    subst this
    rw [List.append_nil] at e
    subst e
    exact h
  · rintro d rest acc ⟨done, l, e, el, rfl⟩
    cases l with
    | nil => cases el
    | cons q l =>
      cases el
      have hq : q ∈ ps := by rw [e]; simp
      refine ⟨_, _, rfl, ht q hq _ ?_⟩
      cases hp : p q with
      | false =>
        rw [if_neg (by simp)]
        exact ⟨done ++ [q], l, by rw [e]; simp, rfl, by simp [hp]⟩
      | true =>
        rw [if_pos rfl]
        refine he q hq hp _ ⟨rfl, ?_, done ++ [q], l, by rw [e]; simp, rfl, by simp [hp]⟩
        have h1 := List.length_filter_le p done
        have h2 : ps.length = done.length + (l.length + 1) := by rw [e]; simp
        rw [List.length_map, List.length_map]
        omega

def stB (m : Int) (xs : List Int) (d f : Int) : Bool := (decide (runF m xs d f = rndF m d) && decide (f < m / rndF m d)) || !decide ((f - d) % m ∈ xs)
def runsF (m : Int) (xs : List Int) (d : Int) : List (Int × Int) := (xs.filter (stB m xs d)).map fun f => (f, runF m xs d f)
def gapsF (m : Int) (xs : List Int) (d : Int) : List Int := ((runsF m xs d).filter fun q => decide (q.2 < rndF m d)).map fun q => gapF m xs d (q.1 + (q.2 - 1) * d)
theorem gaps_eq {m d : Int} {xs : List Int} (hm : Ring m) (hx : IsSt m xs) : gapsF m xs d = (startsF m xs d).map fun f => gapF m xs d (endF m xs d f) := by
  unfold gapsF runsF
  rw [List.filter_map, List.map_map, List.filter_filter]
  have e : (xs.filter fun f => ((fun q : Int × Int => decide (q.2 < rndF m d)) ∘ fun f => (f, runF m xs d f)) f && stB m xs d f) = startsF m xs d := by
    unfold startsF
    apply List.filter_congr
    intro f hf
    simp only [Function.comp_apply]
    unfold stB
    by_cases q : (f - d) % m ∈ xs
    · by_cases z : runF m xs d f = rndF m d
      · have : ¬ runF m xs d f < rndF m d := by omega
        simp [q, z]
      · simp [q, z]
    · have := (start_run hm hx (mem_starts.mpr ⟨hf, q⟩)).2
      simp [q, this]
  rw [e]
  rfl
theorem run_in {m d : Int} {xs : List Int} (hm : Ring m) {q : Int × Int} (h : q ∈ runsF m xs d) : q.1 ∈ xs ∧ 0 ≤ q.2 ∧ q.2 ≤ m ∧ q.2 = runF m xs d q.1 ∧ stB m xs d q.1 = true := by
  obtain ⟨f, hf, rfl⟩ := List.mem_map.mp h
  have r := run_is (xs := xs) (d := d) hm f
  have w := rnd_is (d := d) hm
  have l := r.lo
  have u := r.hi
  have v := w.hi
  exact ⟨(List.mem_filter.mp hf).1, l, by show runF m xs d f ≤ m; omega, rfl, (List.mem_filter.mp hf).2⟩

theorem run_end {m d : Int} {xs : List Int} (hm : Ring m) (hx : IsSt m xs) {q : Int × Int} (h : q ∈ runsF m xs d) (lt : q.2 < rndF m d) : (q.1 + (q.2 - 1) * d) % m ∈ xs := by
  obtain ⟨h1, _, _, h4, h5⟩ := run_in hm h
  have hs : q.1 ∈ startsF m xs d := by
    refine mem_starts.mpr ⟨h1, fun z => ?_⟩
    unfold stB at h5
    rw [h4] at lt
    have : runF m xs d q.1 ≠ rndF m d := by omega
    simp [z, this] at h5
  have := end_in hm hx hs
  unfold endF at this
  rwa [← h4] at this
def grownF (m : Int) (xs : List Int) (d k : Int) : Int := (xs.length : Int) + ((gapsF m xs d).map fun g => if k - 1 < g then k - 1 else g).sum
theorem sum_flat {α : Type} (f : Int → List α) : ∀ l : List Int, ((l.flatMap f).length : Int) = (l.map fun a => ((f a).length : Int)).sum
  | [] => rfl
  | a :: l => by simp only [List.flatMap_cons, List.length_append, List.map_cons, List.sum_cons, Int.natCast_add, sum_flat f l]
theorem grown_len {m d k : Int} {xs : List Int} (hm : Ring m) (hx : IsSt m xs) (k0 : 1 ≤ k) : grownF m xs d k = ((xs ++ (startsF m xs d).flatMap (newF m xs d k)).length : Int) := by
  unfold grownF
  rw [gaps_eq hm hx, List.length_append, Int.natCast_add, sum_flat, List.map_map]
  congr 2
  apply List.map_congr_left
  intro f hf
  have g := gap_is (d := d) hm (end_in hm hx hf)
  have gl := g.lo
  simp only [Function.comp_apply]
  unfold newF
  rw [List.length_map, rngI_len]
  split <;> omega
def S_round_many : DSp := fun ds R => ∃ m d, ds = [.int m, .int d] ∧ Ring m ∧ 1 ≤ d ∧ d < m ∧ R (.int (rndF m d))
def S_run_many : DSp := fun ds R => ∃ m xs d f, ds = [.int m, tI xs, .int d, .int f] ∧ Ring m ∧ IsSt m xs ∧ 1 ≤ d ∧ d < m ∧ R (.int (runF m xs d f))
def S_gap_behind : DSp := fun ds R => ∃ m xs d e, ds = [.int m, tI xs, .int d, .int e] ∧ Ring m ∧ IsSt m xs ∧ 1 ≤ d ∧ d < m ∧ e % m ∈ xs ∧ R (.int (gapF m xs d e))
def O_runs_by : DSo := fun ds R => ∃ m xs d, ds = [.int m, tI xs, .int d] ∧ Ring m ∧ IsSt m xs ∧ 1 ≤ d ∧ d < m ∧ R ((runsF m xs d).map pD)
def S_gaps : DSp := fun ds R => ∃ m xs d, ds = [.int m, tI xs, .int d] ∧ Ring m ∧ IsSt m xs ∧ 1 ≤ d ∧ d < m ∧ R (lI (gapsF m xs d))
def S_grown_many : DSp := fun ds R => ∃ m xs d k, ds = [.int m, tI xs, .int d, .int k] ∧ Ring m ∧ IsSt m xs ∧ 1 ≤ d ∧ d < m ∧ 1 ≤ k ∧ k ≤ m ∧ R (.int (grownF m xs d k))
def S_l_right_dk : DSp := fun ds R => ∃ m xs d k, ds = [.int m, tI xs, .int d, .int k] ∧ Ring m ∧ IsSt m xs ∧ 1 ≤ d ∧ d < m ∧ 1 ≤ k ∧ k ≤ m ∧ R (.bl true)
end DL
namespace DL
open PySem PySem.Spec PyProof.Rows L2 DS
section
variable {A B : Prop}
theorem inIf {x : Int} {ys : List Int} (a : x ∈ ys → A) (b : ¬ x ∈ ys → B) : rdIn false (.int x) (tI ys) fun d => d.blP fun k => if k = true then A else B := by
  refine in_tI ?_
  exact if2 a b
theorem notinIf {x : Int} {ys : List Int} (a : ¬ x ∈ ys → A) (b : x ∈ ys → B) : rdIn true (.int x) (tI ys) fun d => d.blP fun k => if k = true then A else B := by
  refine notin_tI ?_
  by_cases h : x ∈ ys
  · exact ifNN h (b h)
  · exact ifNY h (a h)
end
end DL

set_option Elab.async false
set_option linter.all false
set_option maxRecDepth 100000
set_option maxHeartbeats 4000000
namespace DL
open PySem PySem.Spec PyProof.Rows L2 DS
section
variable {m d : Int}
theorem Rnd.inj {w : Int} (r : Rnd m d w) {f i j : Int} (i0 : 0 ≤ i) (ij : i < j) (jw : j < w) (e : (f + d * i) % m = (f + d * j) % m) : False := by
  refine r.least (j - i) (by omega) (by omega) ?_
  have h := Int.emod_eq_emod_iff_emod_sub_eq_zero.mp e.symm
  rwa [show f + d * j - (f + d * i) = (j - i) * d by rw [Int.sub_mul, Int.mul_comm d j, Int.mul_comm d i]; omega] at h

theorem row_len {w f k : Int} (hm : Ring m) (r : Rnd m d w) (k0 : 0 ≤ k) (kw : k ≤ w) : ((rowF m f d k).length : Int) = k := by
  have key : (rowF m f d k).Perm ((rngI k).map fun t => (f + d * t) % m) := by
    refine (List.perm_ext_iff_of_nodup (rowF_st hm).nodup ?_).mpr fun j => ?_
    · refine List.Pairwise.map _ (R := fun a b : Int => a ∈ rngI k ∧ b ∈ rngI k ∧ a < b) (fun a b h q => ?_) (List.Pairwise.imp_of_mem (fun {a b} ha hb h => ⟨ha, hb, h⟩) (rngI_up _))
      have h1 := mem_rngI.mp h.1
      have h2 := mem_rngI.mp h.2.1
      exact r.inj h1.1 h.2.2 (by omega) q
    · rw [mem_rowF, List.mem_map]
      constructor
      · rintro ⟨t, t0, t1, e⟩; exact ⟨t, mem_rngI.mpr ⟨t0, t1⟩, e⟩
      · rintro ⟨t, ht, e⟩; exact ⟨t, (mem_rngI.mp ht).1, (mem_rngI.mp ht).2, e⟩
  have := key.length_eq
  rw [List.length_map, rngI_len] at this
  omega

def hsB (m : Int) (xs : List Int) (δ : Int) : Bool := xs.any fun f => decide (rowF m f δ (xs.length : Int) = xs)
def stepsF (m : Int) (xs : List Int) : List Int := if xs.length < 2 then [] else (rngL 1 (m / 2 + 1 - 1).toNat).filter (hsB m xs)
end
end DL

set_option Elab.async false
set_option linter.all false
set_option maxRecDepth 100000
set_option maxHeartbeats 4000000
namespace DL
open PySem PySem.Spec PyProof.Rows L2 DS

end DL

set_option Elab.async false
set_option linter.all false
set_option maxRecDepth 100000
set_option maxHeartbeats 4000000
namespace DL
open PySem PySem.Spec PyProof.Rows L2 DS
section
variable {m h g : Int} {xs : List Int}

structure Dv2 (m h g : Int) : Prop where
  dh : Dv m h
  dg : Dv m g
  z : g % h = 0
theorem Dv2.mm (d : Dv2 m h g) (y : Int) : y % g % h = y % h := Int.emod_emod_of_dvd _ (Int.dvd_of_emod_eq_zero d.z)
theorem Dv2.in (d : Dv2 m h g) : Dv g h := ⟨d.dh.lo, by
  have h1 := d.dh.lo
  have h2 := d.dg.lo
  rcases Int.lt_or_le g h with q | q
  · have := d.z
    rw [emod_self (by omega) q] at this
    omega
  · exact q, d.z⟩

end
section
variable {A B : Prop}
theorem neIfL {xs ys : List Int} (h : xs = ys) (b : B) : rdNeA (lI xs) (lI ys) fun d => d.blP fun k => if k = true then A else B := by
  refine ne_lI ?_
  exact ifNN h b
end

end DL
namespace DL
open PySem PySem.Spec PyProof.Rows L2 DS
end DL

set_option Elab.async false
set_option linter.all false
set_option maxRecDepth 100000
set_option maxHeartbeats 4000000
namespace DL
open PySem PySem.Spec PyProof.Rows L2 DS

def fewF (p : Int) (xs ys : List Int) : Int := min ((xs.length : Int) + ys.length - 1) p
def comF (p : Int) (xs ys : List Int) : List Int := (stepsF p xs).filter fun d => decide (d ∈ stepsF p ys)
end DL

set_option Elab.async false
set_option linter.all false
set_option maxRecDepth 100000
set_option maxHeartbeats 4000000
namespace DL
open PySem PySem.Spec PyProof.Rows L2 DS
end DL

set_option Elab.async false
set_option linter.all false
set_option maxRecDepth 100000
set_option maxHeartbeats 4000000
namespace DL
open PySem PySem.Spec PyProof.Rows L2 DS

def freeP (m : Int) (xs ys zs : List Int) : Prop := ∀ a ∈ xs, ∀ b ∈ ys, ∀ c ∈ zs, (a + b + c) % m ≠ 0
instance {m : Int} {xs ys zs : List Int} : Decidable (freeP m xs ys zs) := by unfold freeP; infer_instance
end DL

set_option Elab.async false
set_option linter.all false
set_option maxRecDepth 100000
set_option maxHeartbeats 4000000
namespace DL
open PySem PySem.Spec PyProof.Rows L2 DS
end DL

set_option Elab.async false
set_option linter.all false
set_option maxRecDepth 100000
set_option maxHeartbeats 4000000
namespace DL
open PySem PySem.Spec PyProof.Rows L2 DS
section
variable {m : Int} {xs ys zs : List Int}
theorem mov_len {a : Int} (hm : Ring m) (hx : IsSt m xs) : (movF m xs a).length = xs.length := by
  have key : (movF m xs a).Perm (xs.map fun x => (x + a) % m) := (List.perm_ext_iff_of_nodup (movF_st hm).nodup (map_nodup hx)).mpr fun j => by rw [mem_movF, List.mem_map]
  have := key.length_eq
  rwa [List.length_map] at this
end
end DL

set_option Elab.async false
set_option linter.all false
set_option maxRecDepth 100000
set_option maxHeartbeats 4000000
namespace DL
open PySem PySem.Spec PyProof.Rows L2 DS

def foldF (m : Int) (xs : List Int) : Nat → List Int
  | 0 => [0]
  | n + 1 => sumsF m (foldF m xs n) xs
end DL
namespace DL
open PySem PySem.Spec PyProof.Rows L2 DS
section
variable {m : Int} {xs ys zs : List Int}
structure GcdOk (m : Int) (xs : List Int) (g : Int) : Prop where
  lo : 1 ≤ g
  hi : g ≤ m
  dm : m % g = 0
  dx : ∀ x ∈ xs, x % g = 0
end
end DL
namespace DL
open PySem PySem.Spec PyProof.Rows L2 DS
end DL

set_option Elab.async false
set_option linter.all false
set_option maxRecDepth 100000
set_option maxHeartbeats 4000000
namespace DL
open PySem PySem.Spec PyProof.Rows L2
section
variable {X : Cx} {K : PySem.W.Frag} {M M1 : Mk} {H H1 : Hp} {a b c e tg : Expr} {wa wb wc we : DTE} {va vb vc : DTT} {pos : Pos} {rest : List Expr}

def D.lsP : D → (List D → Prop) → Prop
  | .lst ds, k => k ds
  | _, _ => False
theorem D.lsP_ex {d : D} {k : List D → Prop} (h : d.lsP k) : ∃ ds, d = .lst ds ∧ k ds := by cases d <;> first | exact ⟨_, rfl, h⟩ | exact h.elim
end
end DL

set_option Elab.async false
set_option linter.all false
set_option maxRecDepth 100000
set_option maxHeartbeats 4000000
namespace DL
open PySem PySem.Spec PyProof.Rows L2 DS
end DL

set_option Elab.async false
set_option linter.all false
set_option maxRecDepth 100000
set_option maxHeartbeats 4000000
namespace DL
open PySem PySem.Spec PyProof.Rows L2 DS
end DL

set_option Elab.async false
set_option linter.all false
set_option maxRecDepth 100000
set_option maxHeartbeats 4000000
namespace L2
open PySem PySem.Spec PyProof.Rows
section
variable {X : Cx} {e : Expr} {es : List Expr} {te : TE} {t : TA} {pos p : Pos}

end
end L2
namespace DL
open PySem PySem.Spec PyProof.Rows L2
section
variable {X : Cx} {K : PySem.W.Frag} {M M1 : Mk} {H H1 : Hp} {a b c e tg : Expr} {wa wb wc we : DTE} {va vb vc : DTT} {pos : Pos} {rest : List Expr}
theorem DVs.append {vs ws : List V} {ds es : List D} (h : DVs K M H vs ds) (h' : DVs K M H ws es) : DVs K M H (vs ++ ws) (ds ++ es) := by
  induction h with
  | nil => exact h'
  | cons a _ ih => exact .cons a ih
theorem DV.dpL {v : V} {d : D} {es : List D} {ps : List PyData} (h : DV K M H v d) (e : d = .lst es ∨ d = .own es) (hp : D.toPs es = some ps) : Dp K H v (.list ps) := by
  rcases h with h | ⟨a, vs, ds, rfl, od, m2, ha, hd⟩
  · rcases e with rfl | rfl
    · cases h with | lst h1 h2 => exact .lst h1.sq (DRs.dp _ _ _ h2 hp)
    · cases h
  · rcases e with rfl | rfl
    · cases od
    · cases od
      exact .lst (.inl (.inl ha)) (DRs.dp _ _ _ hd hp)
def rNotInD (K : PySem.W.Frag) : R2 := fun x y H Q => ∃ d ys, Dp K H x d ∧ Dp K H y (.list ys) ∧ PyData.canLayAll0 ys = true ∧ d.canLay0 = true ∧ d.depth < 60 ∧ Q (.bl (!ys.any fun z => PyData.eqv z d)) H
theorem op_notInD (hu : X.A.units + 64 < cLine) : OpR X (compareOp .NotIn) (rNotInD X.K) := by
  intro pn s σ H x y v u Q I rx ry h
  obtain ⟨d, ys, hd, he, cy, cd, dp, q⟩ := h
  obtain ⟨as, r1⟩ := Dp.reads I d x v hd rx
  obtain ⟨bs, r2⟩ := Dp.reads I _ y u he ry
  have mn : min (PyData.depthAll ys) d.depth ≤ d.depth := Nat.min_le_right _ _
  exact SeqAt.notIn_list_reads r2 r1 cy cd (by omega) ⟨.bl _, H, I, rfl, q⟩
def rdNotInL : D2 := fun x y R => y.lstP fun es => ∃ p ps, x.toP = some p ∧ D.toPs es = some ps ∧ PyData.canLayAll0 ps = true ∧ p.canLay0 = true ∧ p.depth < 60 ∧ R (.bl (!ps.any fun z => PyData.eqv z p))
theorem cp_notInL : Cp2 K (rNotInD K) rdNotInL := by
  intro M H x y dx dy R Q w hx hy g0 o
  obtain ⟨es, e, p, ps, e1, e2, cy, cd, dp, q⟩ := D.lstP_ex g0
  exact ⟨p, ps, DR.dp _ _ _ (hx.dr (toP_nown e1)) e1, hy.dpL e e2, cy, cd, dp, o.nowR w q (.bl _)⟩
theorem dt_notInL (hu : X.A.units + 64 < cLine) (ha : DPE X a wa) (hb : DPE X b wb) (hm : behindInMarks .NotIn b = false := by rfl) : DPT X (.Compare a [.NotIn] [b] pos) (wT (wOp rdNotInL wa wb)) := dt_cmp (op_notInD hu) cp_notInL ha hb hm

end
end DL

set_option Elab.async false
set_option linter.all false
set_option maxRecDepth 100000
set_option maxHeartbeats 4000000
namespace DL
open PySem PySem.Spec PyProof.Rows L2 DS
section
variable {X : Cx} {K : PySem.W.Frag} {M M1 : Mk} {H H1 : Hp} {a b c e tg : Expr} {wa wb wc we : DTE} {va vb vc : DTT} {pos : Pos} {rest : List Expr}
theorem jdt_notInL (hu : X.A.units + 64 < cLine) (ha : JE X a wa) (hb : JE X b wb) (hm : behindInMarks .NotIn b = false := by rfl) : JT X (.Compare a [.NotIn] [b] pos) (wT (wOp rdNotInL wa wb)) := ⟨dt_notInL hu ha.p hb.p hm⟩
end
end DL

set_option Elab.async false
set_option linter.all false
set_option maxRecDepth 100000
set_option maxHeartbeats 4000000
namespace DL
open PySem PySem.Spec PyProof.Rows L2 DS

end DL

set_option Elab.async false
set_option linter.all false
set_option maxRecDepth 100000
set_option maxHeartbeats 4000000
namespace DL
open PySem PySem.Spec PyProof.Rows L2 DS

end DL

set_option Elab.async false
set_option linter.all false
set_option maxRecDepth 100000
set_option maxHeartbeats 4000000
namespace L2
open PySem PySem.Spec PyProof.Rows
section
variable {X : Cx} {pos : Pos}

end
end L2
namespace DL
open PySem PySem.Spec PyProof.Rows L2
end DL

set_option Elab.async false
set_option linter.all false
set_option maxRecDepth 100000
set_option maxHeartbeats 4000000
namespace DL
open PySem PySem.Spec PyProof.Rows L2 DS
end DL

set_option Elab.async false
set_option linter.all false
set_option maxRecDepth 100000
set_option maxHeartbeats 4000000
namespace DL
open PySem PySem.Spec PyProof.Rows L2 DS

end DL

set_option Elab.async false
set_option linter.all false
set_option maxRecDepth 100000
set_option maxHeartbeats 4000000
namespace DL
open PySem PySem.Spec PyProof.Rows L2 DS

abbrev lS (l : List (List Int)) : D := .lst (l.map tI)
def tupP' (xs : List Int) : PyData := .tuple (xs.map .int)
theorem toPs_sets : ∀ l : List (List Int), D.toPs (l.map tI) = some (l.map tupP')
  | [] => by simp [D.toPs]
  | a :: l => by
    rw [List.map_cons, D.toPs, toP_tI, toPs_sets l]
    rfl
theorem toP_lS (l : List (List Int)) : (lS l).toP = some (.list (l.map tupP')) := by
  show (D.toPs (l.map tI)).map PyData.list = _
  rw [toPs_sets]
  rfl
structure Sets (m : Int) (l : List (List Int)) : Prop where
  st : ∀ x ∈ l, IsSt m x
  len : l.length ≤ 5
section
variable {m : Int} {l : List (List Int)}
theorem Sets.take (h : Sets m l) (k : Nat) : Sets m (l.take k) := ⟨fun x q => h.st x (List.mem_of_mem_take q), Nat.le_trans (List.length_take_le' _ _) h.len⟩
theorem Sets.drop (h : Sets m l) (k : Nat) : Sets m (l.drop k) := ⟨fun x q => h.st x (List.mem_of_mem_drop q), by have := h.len; rw [List.length_drop]; omega⟩
end
end DL

set_option Elab.async false
set_option linter.all false
set_option maxRecDepth 100000
set_option maxHeartbeats 4000000
namespace DL
open PySem PySem.Spec PyProof.Rows L2 DS
end DL

set_option Elab.async false
set_option linter.all false
set_option maxRecDepth 100000
set_option maxHeartbeats 4000000
namespace DL
open PySem PySem.Spec PyProof.Rows L2 DS
section
variable {m : Int} {xs ys zs : List Int}
def fl (m : Int) (xs : List Int) (k : Nat) : Nat := (foldF m xs k).length
structure IsStop (m : Int) (xs : List Int) (k : Nat) : Prop where
  lo : 1 ≤ k
  up : ∀ i, 1 ≤ i → i < k → fl m xs i < fl m xs (i + 1)
  st : fl m xs (k + 1) ≤ fl m xs k
theorem IsStop.uniq {k k' : Nat} (a : IsStop m xs k) (b : IsStop m xs k') : k = k' := by
  rcases Nat.lt_trichotomy k k' with h | h | h
  · have := b.up k a.lo h; have := a.st; omega
  · exact h
  · have := a.up k' b.lo h; have := b.st; omega
def szsF (m : Int) (xs : List Int) (k : Nat) : List Int := (List.range k).map fun i => (fl m xs (i + 1) : Int)
theorem IsStop.sorted {k : Nat} (s : IsStop m xs k) : (szsF m xs k).Pairwise (· < ·) := by
  have mono : ∀ i j : Nat, 1 ≤ i → i < j → j ≤ k → fl m xs i < fl m xs j := fun i j hi hj hk => by
    induction j with
    | zero => omega
    | succ j ih =>
      by_cases q : i = j
      · subst q; exact s.up i hi (by omega)
      · have := ih (by omega) (by omega)
        have := s.up j (by omega) (by omega)
        omega
  unfold szsF
  rw [List.pairwise_map]
  refine List.Pairwise.imp_of_mem (R := (· < ·)) (fun {a b} ha hb h => ?_) List.pairwise_lt_range
  have := mono (a + 1) (b + 1) (by omega) (by omega) (by have := List.mem_range.mp hb; omega)
  omega
end
end DL

set_option Elab.async false
set_option linter.all false
set_option maxRecDepth 100000
set_option maxHeartbeats 4000000
namespace L2
open PySem PySem.Spec PyProof.Rows
section
variable {X : Cx} {pos : Pos}

end
end L2
namespace DL
open PySem PySem.Spec PyProof.Rows L2
end DL

set_option Elab.async false
set_option linter.all false
set_option maxRecDepth 100000
set_option maxHeartbeats 4000000
namespace DL
open PySem PySem.Spec PyProof.Rows L2 DS
end DL

set_option Elab.async false
set_option linter.all false
set_option maxRecDepth 100000
set_option maxHeartbeats 4000000
namespace DL
open PySem PySem.Spec PyProof.Rows L2 DS

theorem shaped_lS (l : List (List Int)) : SeqAt.shaped (.list (l.map tupP')) = true := by
  have a1 : ∀ l : List (List Int), PyData.canLayAll0 (l.map tupP') = true := fun l => by
    induction l with
    | nil => simp [PyData.canLayAll0]
    | cons x l ih => simp [PyData.canLayAll0, tupP', PyData.canLay0, canLay_ints, ih]
  have a3 : ∀ l : List (List Int), PyData.depthAll (l.map tupP') ≤ 1 := fun l => by
    induction l with
    | nil => simp [PyData.depthAll]
    | cons x l ih => simp [PyData.depthAll, tupP', PyData.depth, depth_ints]; omega
  have := a3 l
  simp [SeqAt.shaped, PyData.canLay0, a1, PyData.depth]
  omega
end DL

set_option Elab.async false
set_option linter.all false
set_option maxRecDepth 100000
set_option maxHeartbeats 4000000
namespace PySem
open Sem (wp)

section
variable {prog : Program} {w : World} {A : Around} {R : Result → Shared → Prop} {I : Addr} {fp wr : List Addr} {n : Nat} {P : Nat → Value → Prop} {St : Nat → Heap → Prop} {kw : List (Str × Value)}
theorem maxK_loop (W : Walks prog w A.in1 I fp wr n P St) (bt : Nat → Nat → Bool) (hcmp : CmpOf prog w A.in1 .Gt P bt) (S : Addr) (hSf : S ∉ fp) :
    ∀ (k j : Nat) (s : Shared) (vb : Value) (c : Nat), n - (j + 1) = k → j + 1 ≤ n → St (j + 1) s.heap → P (argBest bt j) vb →
    s.heap.get? S = some { cls := .type "list", dict := none, data := .seq #[vb, vb] c, slots := #[] } →
    (∀ v h' tk, P (argBest bt (n - 1)) v → (∀ b o, b ∉ wr → b ≠ S → s.heap.get? b = some o → h'.get? b = some o) → R (.ok (.ret v)) { s with heap := h', toks := tk }) →
    codeAny (model prog w) A (.builtin "max.loop" ⟨[.ref I, .none, .ref S], kw⟩) R s := by
  have hSw : S ∉ wr := fun h => hSf (W.sub _ h)
  have hname : (toString "max" ++ toString ".loop" : String) = "max.loop" := by decide
  intro k
  induction k with
  | zero =>
    intro j s vb c hk hj hst hPb hS hR
    have hin : j + 1 = n := by omega
    refine codeAny_builtin F.entry_max_loop ?_
    rw [Around.under_plainId F.plain_max_loop _]
    show wpAny _ A.in1 (seqItems? (.ref S) >>= _) _ _ s
    refine wpAny_bind (wpAny_seqItems hS rfl ?_)
    show wpAny _ A.in1 (tryCatch (pyNext (.ref I)) _ >>= _) _ _ s
    refine wpAny_bind (wpAny_tryCatch (W.done s _ _ (hin ▸ hst) fun h' tk hk' => ?_))
    have hS' := hk' S _ hSw hS
    show wpAny _ A.in1 (updateSeq S (fun _ => #[]) >>= _) _ _ _
    refine wpAny_bind ?_
    refine wpAny_updateSeq hS' rfl (wpAny_bind (wpAny_letGo (wpAny_pure ?_)))
    refine hR vb _ tk (by rw [← hin]; exact hPb) fun b o hbw hbS e => (Heap.get?_update_other _ _ (Ne.symm hbS)).trans (hk' b o hbw e)
  | succ k ih =>
    intro j s vb c hk hj hst hPb hS hR
    have hlt : j + 1 < n := by omega
    refine codeAny_builtin F.entry_max_loop ?_
    rw [Around.under_plainId F.plain_max_loop _]
    show wpAny _ A.in1 (seqItems? (.ref S) >>= _) _ _ s
    refine wpAny_bind (wpAny_seqItems hS rfl ?_)
    show wpAny _ A.in1 (tryCatch (pyNext (.ref I)) _ >>= _) _ _ s
    refine wpAny_bind (wpAny_tryCatch (W.item (j + 1) s _ _ hlt hst fun v h' tk hP hst' hk' => ?_))
    have hS' := hk' S _ hSw hS
    show wpAny _ A.in1 (tryCatch (holding [v, v] (richCompare .Gt v vb >>= _)) _ >>= _) _ _ _
    refine wpAny_bind (wpAny_tryCatch (wpAny_holding (wpAny_bind (hcmp (j + 1) (argBest bt j) v vb _ _ _ hP hPb ?_))))
    refine wpAny_bind (wpAny_holding (wpAny_truthy_bool ?_))
    refine wpAny_bind (wpAny_letGo (wpAny_pure ?_))
    cases hb : bt (j + 1) (argBest bt j) with
    | true =>
      simp only [if_true]
      refine wpAny_bind ?_
      refine wpAny_updateSeq hS' rfl (wpAny_bind (wpAny_letGo ?_))
      rw [hname]
      refine wpAny_pure ⟨plainId_quiet F.plain_max_loop _, ih (j + 1) _ v _ (by omega) hlt (W.frame _ _ _ hst' fun b hbf o e => ?_) (by simp only [argBest, hb, if_true]; exact hP) (Heap.get?_update_self _ hS' rfl) fun v' h'' tk'' hP' hk'' => ?_⟩
      · exact (Heap.get?_update_other _ _ (fun h : S = b => hSf (by rw [h]; exact hbf))).trans e
      · exact hR v' h'' tk'' hP' fun b o hbw hbS e => hk'' b o hbw hbS ((Heap.get?_update_other _ _ (Ne.symm hbS)).trans (hk' b o hbw e))
    | false =>
      simp only [Bool.false_eq_true, if_false]
      refine wpAny_bind (wpAny_letGo ?_)
      rw [hname]
      refine wpAny_pure ⟨plainId_quiet F.plain_max_loop _, ih (j + 1) _ vb c (by omega) hlt hst' (by simp only [argBest, hb, Bool.false_eq_true, if_false]; exact hPb) hS' fun v' h'' tk'' hP' hk'' => ?_⟩
      exact hR v' h'' tk'' hP' fun b o hbw hbS e => hk'' b o hbw hbS (hk' b o hbw e)
theorem maxK_first (W : Walks prog w A.in1 I fp wr n P St) (bt : Nat → Nat → Bool) (hcmp : CmpOf prog w A.in1 .Gt P bt) (S : Addr) (hSf : S ∉ fp) (hn : 0 < n) {s : Shared} {c : Nat} (hst : St 0 s.heap)
    (hS : s.heap.get? S = some { cls := .type "list", dict := none, data := .seq #[] c, slots := #[] })
    (hR : ∀ v h' tk, P (argBest bt (n - 1)) v → (∀ b o, b ∉ wr → b ≠ S → s.heap.get? b = some o → h'.get? b = some o) → R (.ok (.ret v)) { s with heap := h', toks := tk }) :
    codeAny (model prog w) A (.builtin "max.loop" ⟨[.ref I, .none, .ref S], kw⟩) R s := by
  have hSw : S ∉ wr := fun h => hSf (W.sub _ h)
  have hname : (toString "max" ++ toString ".loop" : String) = "max.loop" := by decide
  refine codeAny_builtin F.entry_max_loop ?_
  rw [Around.under_plainId F.plain_max_loop _]
  show wpAny _ A.in1 (seqItems? (.ref S) >>= _) _ _ s
  refine wpAny_bind (wpAny_seqItems hS rfl ?_)
  show wpAny _ A.in1 (tryCatch (pyNext (.ref I)) _ >>= _) _ _ s
  refine wpAny_bind (wpAny_tryCatch (W.item 0 s _ _ hn hst fun v h' tk hP hst' hk' => ?_))
  have hS' := hk' S _ hSw hS
  show wpAny _ A.in1 (updateSeq S (fun _ => #[v, v]) >>= _) _ _ _
  refine wpAny_bind ?_
  refine wpAny_updateSeq hS' rfl ?_
  rw [hname]
  refine wpAny_pure ⟨plainId_quiet F.plain_max_loop _, maxK_loop W bt hcmp S hSf _ 0 _ v _ rfl hn (W.frame _ _ _ hst' fun b hbf o e => ?_) hP (Heap.get?_update_self _ hS' rfl) fun v' h'' tk'' hP' hk'' => ?_⟩
  · exact (Heap.get?_update_other _ _ (fun h : S = b => hSf (by rw [h]; exact hbf))).trans e
  · exact hR v' h'' tk'' hP' fun b o hbw hbS e => hk'' b o hbw hbS ((Heap.get?_update_other _ _ (Ne.symm hbS)).trans (hk' b o hbw e))
theorem maxK_none (W : Walks prog w A.in1 I fp wr 0 P St) (S : Addr) (hSf : S ∉ fp) {s : Shared} {c : Nat} {nm : Str} {dv : Value} (hst : St 0 s.heap)
    (hS : s.heap.get? S = some { cls := .type "list", dict := none, data := .seq #[] c, slots := #[] })
    (hR : ∀ h' tk, (∀ b o, b ∉ wr → s.heap.get? b = some o → h'.get? b = some o) → R (.ok (.ret dv)) { s with heap := h', toks := tk }) :
    codeAny (model prog w) A (.builtin "max.loop" ⟨[.ref I, .none, .ref S], [(nm, dv)]⟩) R s := by
  have hSw : S ∉ wr := fun h => hSf (W.sub _ h)
  refine codeAny_builtin F.entry_max_loop ?_
  rw [Around.under_plainId F.plain_max_loop _]
  show wpAny _ A.in1 (seqItems? (.ref S) >>= _) _ _ s
  refine wpAny_bind (wpAny_seqItems hS rfl ?_)
  show wpAny _ A.in1 (tryCatch (pyNext (.ref I)) _ >>= _) _ _ s
  refine wpAny_bind (wpAny_tryCatch (W.done s _ _ hst fun h' tk hk' => ?_))
  show wpAny _ A.in1 (rule _ >>= fun _ => ret dv) _ _ _
  exact wpAny_bind (wpAny_rule (wpAny_pure (hR h' tk fun b o hb e => hk' b o hb e)))
end
theorem args_max_dflt (a v : Value) : argsOk "max" ⟨[a], [(Str.ofString "default", v)]⟩ := by unfold argsOk; kernel_rfl
section
variable {prog : Program} {w : World} {A : Around} {E : Value → Shared → Prop} {s : Shared}
theorem maxD_list {l : Addr} {xs : Array (Int × Tok)} {dv : Value} {Q : Value → Shared → Prop} (hh : A.handled = none) (hl : s.heap.IsList l (intItems xs))
    (h0 : xs.size = 0 → ∀ h' tk, (∀ b o, s.heap.get? b = some o → h'.get? b = some o) → Q dv { s with heap := h', toks := tk })
    (h1 : 0 < xs.size → ∀ v h' tk, (intItems xs)[argBest (fun i j => decide (numAt xs i > numAt xs j)) (xs.size - 1)]? = some v → (∀ b o, s.heap.get? b = some o → h'.get? b = some o) → Q v { s with heap := h', toks := tk }) :
    wpAny (model prog w) A (call (.builtin "max") [.ref l] [(Str.ofString "default", dv)]) Q E s := by
  have hname : (toString "max" ++ toString ".loop" : String) = "max.loop" := by decide
  have hlt : l < s.heap.objs.size := by obtain ⟨_, e, _⟩ := hl; exact Heap.lt_size e
  refine PyProof.Rows.kmk_tree F.kind_max F.plain_max F.entry_max (args_max_dflt _ _) ?_
  show wpAny _ A.in1 (Builtin.Builtins.bindParams "max" ["key", "default"] 0 ⟨[], [(Str.ofString "default", dv)]⟩ >>= _) _ _ s
  refine wpAny_bind (wpAny_of_eq (show Builtin.Builtins.bindParams "max" ["key", "default"] 0 ⟨[], [(Str.ofString "default", dv)]⟩ = pure [none, some dv] from rfl) ?_)
  refine wpAny_bind (wpAny_pure ?_)
  refine wpAny_bind (wpAny_pyIter_list hl ?_)
  refine wpAny_bind (wpAny_newObj_type ?_)
  rw [hname]
  have W := Walks.list (prog := prog) (w := w) (A := A.in1) hh s.heap.objs.size l (Nat.ne_of_lt hlt) (intItems xs)
  have hz : (s.heap.push { cls := .type "list_iterator", data := .fields #[.ref l, .int 0 0] }).objs.size = s.heap.objs.size + 1 := Heap.size_push ..
  have hSf : (s.heap.push { cls := .type "list_iterator", data := .fields #[.ref l, .int 0 0] }).objs.size ∉ [s.heap.objs.size, l] := by
    rw [hz]
    intro hm
    rcases List.mem_cons.mp hm with e | hm'
    · exact Nat.succ_ne_self _ e
    · have e := List.mem_singleton.mp hm'
      have : s.heap.objs.size + 1 < s.heap.objs.size := by rw [e]; exact hlt
      exact absurd this (Nat.not_lt.mpr (Nat.le_succ _))
  have nw : ∀ b o, s.heap.get? b = some o → b ∉ [s.heap.objs.size] := fun b o q hm => by
    have z := Heap.lt_size q
    rw [List.mem_singleton.mp hm] at z
    exact Nat.lt_irrefl _ z
  have nS : ∀ b o, s.heap.get? b = some o → b ≠ (s.heap.push { cls := .type "list_iterator", data := .fields #[.ref l, .int 0 0] }).objs.size := fun b o q => by
    rw [hz]; exact Nat.ne_of_lt (Nat.lt_succ_of_lt (Heap.lt_size q))
  have iz : (intItems xs).size = xs.size := by simp [intItems]
  by_cases c : xs.size = 0
  · have W0 := W
    rw [show (intItems xs).size = 0 by rw [iz]; exact c] at W0
    refine wpAny_pure ⟨plainId_quiet F.plain_max_loop _, maxK_none W0 _ hSf ⟨⟨_, Heap.get?_push_of_some _ (Heap.get?_push_size _ rfl), rfl, rfl⟩, (hl.push _).push _⟩ (Heap.get?_push_size _ rfl) fun h' tk hk => ?_⟩
    exact h0 c h' tk fun b o q => hk b o (nw b o q) (Heap.get?_push_of_some _ (Heap.get?_push_of_some _ q))
  · refine wpAny_pure ⟨plainId_quiet F.plain_max_loop _, maxK_first W _ (CmpOf.ints_gt (numAt xs) (fun _ _ => intItems_at)) _ hSf (by rw [iz]; omega) ⟨⟨_, Heap.get?_push_of_some _ (Heap.get?_push_size _ rfl), rfl, rfl⟩, (hl.push _).push _⟩ (Heap.get?_push_size _ rfl) fun v h' tk hP hk => ?_⟩
    rw [iz] at hP
    exact h1 (by omega) v h' tk hP fun b o q => hk b o (nw b o q) (nS b o q) (Heap.get?_push_of_some _ (Heap.get?_push_of_some _ q))
end
end PySem
namespace L2
open PySem PySem.Spec PyProof.Rows
section
variable {X : Cx} {e : Expr} {te td : TE} {p pos kp : Pos}

def tMaxD (K : PySem.W.Frag) (te td : TE) : TE := fun σ H Q => te σ H fun x H1 => td σ H1 fun y H2 => ∃ a ns, x = .ref a ∧ SqL K H2 a (ns.map V.int) ∧ (ns = [] → Q y H2) ∧ (ns ≠ [] → ∀ m, m ∈ ns → (∀ z, z ∈ ns → z ≤ m) → Q (.int m) H2)
def maxDY (K : PySem.W.Frag) (x : V) (Q : VK) : List V → Hp → Prop := fun ys H2 => match ys with
  | [y] => ∃ a ns, x = .ref a ∧ SqL K H2 a (ns.map V.int) ∧ (ns = [] → Q y H2) ∧ (ns ≠ [] → ∀ m, m ∈ ns → (∀ z, z ∈ ns → z ≤ m) → Q (.int m) H2)
  | _ => False
theorem maxDY_ex {K : PySem.W.Frag} {x : V} {Q : VK} {ys : List V} {H : Hp} (h : maxDY K x Q ys H) : ∃ y, ys = [y] ∧ ∃ a ns, x = .ref a ∧ SqL K H a (ns.map V.int) ∧ (ns = [] → Q y H) ∧ (ns ≠ [] → ∀ m, m ∈ ns → (∀ z, z ∈ ns → z ≤ m) → Q (.int m) H) := by
  match ys, h with
  | [y], h => exact ⟨y, rfl, h⟩
def maxDK (K : PySem.W.Frag) (td : TE) (σ : St) (Q : VK) : List V → Hp → Prop := fun xs H1 => match xs with
  | [x] => td σ H1 fun y H2 => maxDY K x Q [y] H2
  | _ => False
theorem maxDK_ex {K : PySem.W.Frag} {td : TE} {σ : St} {Q : VK} {xs : List V} {H : Hp} (h : maxDK K td σ Q xs H) : ∃ x, xs = [x] ∧ td σ H fun y H2 => maxDY K x Q [y] H2 := by
  match xs, h with
  | [x], h => exact ⟨x, rfl, h⟩
theorem pe_maxD {d : Expr} (hc : X.calm = true) (hg : Gl X "max") (hm : X.mg "max" = none) (hv : bootBuiltins "max" = some (.builtin "max")) (he : PE X e te) (hd : PE X d td)
    (hs : starEach [e] X.env = [(false, eval e X.env)] := by rfl) : PE X (.Call (.Name "max" p) [e] [⟨some "default", d, kp⟩] pos) (tMaxD X.K te td) := by
  intro pins s σ H Q I h
  refine wpAny_Call_Name_kw (ld_blt I hg hm hv ?_ (by decide) (by decide))
  refine PyProof.Rows.callWith_kw (thn (pa_cons he pa_nil hs pos pins s σ H (maxDK X.K td σ Q) I h) fun us s1 ⟨xs, H1, I1, r1, q1⟩ => ?_) (by rw [hs]; rfl) (by rw [hs]; rfl)
  obtain ⟨x, rfl, q1⟩ := maxDK_ex q1
  refine thn (pk_cons (nm := some "default") (kpos := kp) hd pk_nil pos pins s1 σ H1 (maxDY X.K x Q) I1 q1) fun ws s2 ⟨ys, H2, I2, r2, q2⟩ => ?_
  obtain ⟨y, rfl, a, ns, rfl, hq, n0, n1⟩ := maxDY_ex q2
  obtain ⟨u, rfl, ru⟩ := vals1 r1
  obtain ⟨dv, rfl, rd⟩ := vals1 r2
  cases ru
  obtain ⟨its, rv, hl, _⟩ := I2.list hq
  have hi := rv.ints
  obtain ⟨xs, ei⟩ := hi.allInts.items
  have hn : numsOf (intItems xs).toList = ns := by rw [← ei]; exact hi.numsOf
  rw [nums_intItems] at hn
  subst hn
  have hl' := hl.isList
  rw [ei] at hl'
  show wpAny _ _ (call (.builtin "max") [.ref a] [(Str.ofString "default", dv)]) _ _ _
  refine maxD_list (I.ok.hd hc) hl' (fun c h' tk hk => ?_) (fun c v h' tk hv' hk => ?_)
  · exact ⟨y, H2, I2.kept hk, rd, n0 (by simpa using c)⟩
  · obtain ⟨t, rfl⟩ := intItems_at hv'
    obtain ⟨h1, h2⟩ := argBest_gt (numAt xs) (xs.size - 1)
    refine ⟨.int _, H2, I2.kept hk, ⟨_, rfl⟩, n1 (fun z => ?_) _ ?_ fun z hz => ?_⟩
    · have e := congrArg List.length z
      rw [List.length_map, Array.length_toList] at e
      exact absurd e (Nat.ne_of_gt c)
    · rw [numAt_eq]; exact PySem.getD_mem (by rw [List.length_map, Array.length_toList]; omega)
    · obtain ⟨j, hj, rfl⟩ := mem_getD hz
      rw [List.length_map, Array.length_toList] at hj
      rw [← numAt_eq]; exact h2 j (by omega)
end
end L2
namespace DL
open PySem PySem.Spec PyProof.Rows L2
section
variable {X : Cx} {K : PySem.W.Frag} {M M1 : Mk} {H H1 : Hp} {a b c e tg : Expr} {wa wb wc we : DTE} {va vb vc : DTT} {pos : Pos} {rest : List Expr}
def wMaxD (wa wb : DTE) : DTE := fun ρ R => wa ρ fun x => wb ρ fun y => x.lsP fun es => intsP es fun ns => (ns = [] → R y) ∧ (ns ≠ [] → ∀ m, m ∈ ns → (∀ z, z ∈ ns → z ≤ m) → R (.int m))
theorem d_maxD {p kp : Pos} (hc : X.calm = true) (hg : Gl X "max") (hm : X.mg "max" = none) (ha : DPE X a wa) (hb : DPE X b wb) (hs : starEach [a] X.env = [(false, eval a X.env)] := by rfl) :
    DPE X (.Call (.Name "max" p) [a] [⟨some "default", b, kp⟩] pos) (wMaxD wa wb) := peC (pe_maxD hc hg hm (by decide +kernel) ha hb hs) fun σ H Q ⟨M, ρ, R, w, r, q, o⟩ => by
  refine ⟨M, ρ, _, w, r, q, fun v d M1 H1 q1 e1 dv => ?_⟩
  refine ⟨M1, ρ, _, e1.wf, r.ext e1, q1, fun v2 d2 M2 H2 q2 e2 dv2 => ?_⟩
  obtain ⟨es, rfl, q3⟩ := D.lsP_ex q2
  obtain ⟨ns, rfl, n0, n1⟩ := intsP_ex q3
  have dr := (dv.ext e2).dr rfl
  cases dr with
  | lst h1 h2 =>
    refine ⟨_, ns, rfl, by rw [← h2.ints]; exact h1.sq, fun z => o _ _ M2 H2 (n0 z) (e1.trans e2) dv2, fun z m hm hz => o _ _ M2 H2 (n1 z m hm hz) (e1.trans e2) (.inl (.int _))⟩
end
end DL

set_option Elab.async false
set_option linter.all false
set_option maxRecDepth 100000
set_option maxHeartbeats 4000000
namespace DL
open PySem PySem.Spec PyProof.Rows L2 DS
section
variable {X : Cx} {K : PySem.W.Frag} {M M1 : Mk} {H H1 : Hp} {a b c e tg : Expr} {wa wb wc we : DTE} {va vb vc : DTT} {pos : Pos} {rest : List Expr}
theorem jd_maxD {p kp : Pos} (hc : X.calm = true) (hg : Gl X "max") (hm : X.mg "max" = none) (ha : JE X a wa) (hb : JE X b wb) (hs : starEach [a] X.env = [(false, eval a X.env)] := by rfl) : JE X (.Call (.Name "max" p) [a] [⟨some "default", b, kp⟩] pos) (wMaxD wa wb) := ⟨d_maxD hc hg hm ha.p hb.p hs⟩
end
end DL

set_option Elab.async false
set_option linter.all false
set_option maxRecDepth 100000
set_option maxHeartbeats 4000000
namespace DL
open PySem PySem.Spec PyProof.Rows L2 DS
section
variable {m d : Int} {xs ys : List Int}
theorem run_row (hm : Ring m) {f n : Int} (r : Run m xs d (rndF m d) f n) : ∀ j ∈ rowF m f d n, j ∈ xs := fun j hj => by
  obtain ⟨t, t0, t1, e⟩ := mem_rowF.mp hj
  rw [← e, Int.mul_comm]
  exact r.all t t0 t1

theorem run_len (hm : Ring m) (hx : IsSt m xs) {q : Int × Int} (h : q ∈ runsF m xs d) : q.2 ≤ xs.length := by
  obtain ⟨_, h0, _, e, _⟩ := run_in hm h
  have r := run_is (xs := xs) (d := d) hm q.1
  rw [← e] at r
  have := row_len (f := q.1) hm (rnd_is (d := d) hm) r.lo r.hi
  have := st_sub_len (rowF_st hm) (run_row hm r)
  omega
end
def S_longest_run : DSp := fun ds R => ∃ m xs d, ds = [.int m, tI xs, .int d] ∧ Ring m ∧ IsSt m xs ∧ 1 ≤ d ∧ d < m ∧ ∀ n, 0 ≤ n → n ≤ (xs.length : Int) → (n = 0 ∧ runsF m xs d = [] ∨ (∃ q ∈ runsF m xs d, q.2 = n) ∧ ∀ q ∈ runsF m xs d, q.2 ≤ n) → R (.int n)
end DL

set_option Elab.async false
set_option linter.all false
set_option maxRecDepth 100000
set_option maxHeartbeats 4000000
namespace DL
open PySem PySem.Spec PyProof.Rows L2 DS

end DL

set_option Elab.async false
set_option linter.all false
set_option maxRecDepth 100000
set_option maxHeartbeats 4000000
namespace DL
open PySem PySem.Spec PyProof.Rows L2 DS
inductive Told (p : Int) (xs ys : List Int) : Str → Int → Prop
  | more {n : Int} : 0 < n → n = ((sumsF p xs ys).length : Int) - fewF p xs ys → Told p xs ys "more" n
  | lack {n : Int} : othF p (sumsF p xs ys) = [n] → Told p xs ys "lack" n
  | step {n : Int} : n ∈ comF p xs ys → Told p xs ys "step" n
section
variable {p : Int} {xs ys : List Int}

end
end DL

set_option Elab.async false
set_option linter.all false
set_option maxRecDepth 100000
set_option maxHeartbeats 4000000
namespace DL
open PySem PySem.Spec PyProof.Rows L2 DS
end DL

set_option Elab.async false
set_option linter.all false
set_option maxRecDepth 100000
set_option maxHeartbeats 4000000
namespace DL
open PySem PySem.Spec PyProof.Rows L2 DS
end DL

set_option Elab.async false
set_option linter.all false
set_option maxRecDepth 100000
set_option maxHeartbeats 4000000
namespace PySem.W
open PySem PySem.Calls PyProof.Rows

def KasT.ends {α : Type} (N : Nat) (P : α → Prop) : KasT α → Prop
  | .ret a => P a
  | .ask i j k => i < N ∧ j < N ∧ ∀ b, (k b).ends N P
section
variable {N : Nat}
theorem KasT.ends_bind {α β : Type} {P : α → Prop} {R : β → Prop} {f : α → KasT β} : ∀ (t : KasT α), t.ends N P → (∀ a, P a → (f a).ends N R) → (t.bind f).ends N R
  | .ret a, h, hf => hf a h
  | .ask _ _ k, h, hf => ⟨h.1, h.2.1, fun b => ends_bind (k b) (h.2.2 b) hf⟩
theorem ends_ite {α : Type} {P : α → Prop} {c : Prop} [Decidable c] {t u : KasT α} (h1 : t.ends N P) (h2 : u.ends N P) : (if c then t else u).ends N P := by split <;> assumption
abbrev PmR (N : Nat) (p : Array Nat) : Prop := 0 < N ∧ p.Perm (List.toArray (List.range N))
theorem PmR.lt {p : Array Nat} (h : PmR N p) (k : Nat) : p.getD k 0 < N := by
  by_cases hk : k < p.size
  · have e : p.getD k 0 = p[k] := by simp [Array.getD, hk]
    rw [e]
    have m : p[k] ∈ List.toArray (List.range N) := h.2.mem_iff.mp (Array.getElem_mem hk)
    simpa using m
  · have e : p.getD k 0 = 0 := by simp [Array.getD, hk]
    rw [e]; exact h.1
theorem PmR.rev {p : Array Nat} (i j : Nat) (h : PmR N p) : PmR N (kas_rev p i j) := ⟨h.1, (mirror_perm _ _ _ _).trans h.2⟩
theorem asc_pm {p : Array Nat} (h : PmR N p) : ∀ (f n : Nat), (kas_asc p f n).ends N fun _ => True
  | 0, n => trivial
  | f + 1, n => ⟨h.lt _, h.lt _, fun c => ends_ite trivial (asc_pm h f (n + 1))⟩
theorem place_pm {p : Array Nat} (h : PmR N p) (k : Nat) : ∀ (f l r : Nat), (kas_place p k f l r).ends N fun _ => True
  | 0, l, r => trivial
  | f + 1, l, r => by
    unfold kas_place
    exact ends_ite trivial ⟨h.lt _, h.lt _, fun c => ends_ite (place_pm h k f _ _) (place_pm h k f _ _)⟩
theorem desc_pm : ∀ (f : Nat) (p : Array Nat) (n q : Nat), PmR N p → (kas_desc f p n q).ends N fun r => PmR N r.1
  | 0, p, n, q, h => h
  | f + 1, p, n, q, h => ⟨h.lt _, h.lt _, fun c => ends_ite (ends_ite (desc_pm f _ _ _ (h.rev _ _)) (desc_pm f _ _ _ h)) ⟨h.lt _, h.lt _, fun d => ends_ite h (desc_pm f _ _ _ h)⟩⟩
theorem tail3_pm (n nrem : Nat) {p : Array Nat} (h : PmR N p) : (kas_tail3 n nrem p).ends N fun r => PmR N r.2 :=
  KasT.ends_bind (P := fun _ => True) _ (asc_pm (h.rev _ _) _ _) fun _ _ => h.rev _ _
theorem descPart_pm (n nrem : Nat) {p : Array Nat} (h : PmR N p) : (kas_descPart n nrem p).ends N fun r => PmR N r.2 :=
  KasT.ends_bind _ (desc_pm _ _ _ _ h) fun r hr => ends_ite (tail3_pm _ _ (hr.rev _ _)) (tail3_pm _ _ hr)
theorem count_pm (nrem : Nat) {p : Array Nat} (h : PmR N p) : (kas_count nrem p).ends N fun r => PmR N r.2 :=
  KasT.ends_bind (P := fun _ => True) _ (asc_pm h _ _) fun n _ => ends_ite h (ends_ite ⟨h.lt _, h.lt _, fun c => ends_ite h (descPart_pm _ _ (h.rev _ _))⟩ (descPart_pm _ _ h))
theorem bin_pm : ∀ (f : Nat) (p : Array Nat) (k : Nat), PmR N p → (kas_bin f p k).ends N fun r => PmR N r
  | 0, p, k, h => h
  | f + 1, p, k, h => KasT.ends_bind (P := fun _ => True) _ (place_pm h _ _ _ _) fun l _ => bin_pm f _ _ ⟨h.1, (bubble_perm _ _ _).trans h.2⟩
theorem sort_pm (h : 0 < N) : (kas_sort N).ends N fun r => PmR N r :=
  KasT.ends_bind _ (count_pm N ⟨h, Array.Perm.refl _⟩) fun r hr => ends_ite (bin_pm _ _ _ hr) hr
end
end PySem.W
namespace PyProof.Rows
open PySem PySem.Calls PySem.W
section
variable {prog : Program} {w : World} {A : Around} {E : Value → Shared → Prop} {s : Shared}

end
end PyProof.Rows
namespace L2
open PySem PySem.Spec PyProof.Rows
end L2
namespace DL
open PySem PySem.Spec PyProof.Rows L2
section
variable {X : Cx} {K : PySem.W.Frag} {M M1 : Mk} {H H1 : Hp}

end
end DL

set_option Elab.async false
set_option linter.all false
set_option maxRecDepth 100000
set_option maxHeartbeats 4000000
namespace DL
open PySem PySem.Spec PyProof.Rows L2 DS
section
variable {m : Int} {xs ys zs : List Int}

end
end DL

set_option Elab.async false
set_option linter.all false
set_option maxRecDepth 100000
set_option maxHeartbeats 4000000
namespace L2
open PySem PySem.Spec PyProof.Rows
section
variable {X : Cx} {a b e : Expr} {ta tb : TE} {pos : Pos} {rest : List Expr}

end

end L2
namespace DL
open PySem PySem.Spec PyProof.Rows L2 DS
end DL

set_option Elab.async false
set_option linter.all false
set_option maxRecDepth 100000
set_option maxHeartbeats 4000000
namespace PySem
open Sem (wp)


structure ZpOff (z TI TO i1 i2 : Addr) (fp1 fp2 : List Addr) : Prop where
  tz : TI ≠ z
  oz : TO ≠ z
  az : i1 ≠ z
  bz : i2 ≠ z
  tO : TI ≠ TO
  ta : TI ≠ i1
  tb : TI ≠ i2
  oa : TO ≠ i1
  ob : TO ≠ i2
  ab : i1 ≠ i2
  f1 : ∀ c ∈ fp1, c ≠ z ∧ c ≠ TO ∧ c ≠ i2
  f2 : ∀ c ∈ fp2, c ≠ z ∧ c ≠ TO ∧ c ≠ i1
section
variable {prog : Program} {w : World} {A : Around} {E : Value → Shared → Prop} {s : Shared} {z TI TO i1 i2 : Addr} {fp1 fp2 : List Addr} {n1 n2 k : Nat} {P1 P2 : Nat → Value → Prop} {S1 S2 : Nat → Heap → Prop} {a b : Value}
theorem ZpOff.keep {h h' : Heap} {c : Addr} {o : Obj} (hs : Heap.SameBut c h h') {d : Addr} (ne : d ≠ c) (e : h.get? d = some o) : h'.get? d = some o := hs.extBut _ _ ne e
end

end PySem

set_option Elab.async false
set_option linter.all false
set_option maxRecDepth 100000
set_option maxHeartbeats 4000000
namespace L2
open PySem PySem.Spec PyProof.Rows
end L2
namespace DL
open PySem PySem.Spec PyProof.Rows L2
end DL

set_option Elab.async false
set_option linter.all false
set_option maxRecDepth 100000
set_option maxHeartbeats 4000000
namespace DL
open PySem PySem.Spec PyProof.Rows L2 DS
end DL

set_option Elab.async false
set_option linter.all false
set_option maxRecDepth 100000
set_option maxHeartbeats 4000000
namespace DL
open PySem PySem.Spec PyProof.Rows L2 DS
section
variable {m : Int} {x : List Int} {l : List (List Int)}

end
end DL

set_option Elab.async false
set_option linter.all false
set_option maxRecDepth 100000
set_option maxHeartbeats 4000000
namespace DL
open PySem PySem.Spec PyProof.Rows L2 DS
section
variable {m : Int} {x ys : List Int} {r l : List (List Int)} {K : D → Prop} {a0 a1 a2 a5 a6 a7 a8 a9 a10 : Option D}
theorem Sets.rev (h : Sets m l) : Sets m l.reverse := ⟨fun x q => h.st x (List.mem_reverse.mp q), by rw [List.length_reverse]; exact h.len⟩

end
end DL

set_option Elab.async false
set_option linter.all false
set_option maxRecDepth 100000
set_option maxHeartbeats 4000000
namespace DL
open PySem PySem.Spec PyProof.Rows L2 DS

def subsN : List Int → Nat → List (List Int)
  | _, 0 => [[]]
  | [], _ + 1 => []
  | x :: r, k + 1 => (subsN r k).map (x :: ·) ++ subsN r (k + 1)
theorem subs_cnt {x : Int} {r : List Int} {k : Nat} : (subsN (x :: r) (k + 1)).length = (subsN r k).length + (subsN r (k + 1)).length := by
  show ((subsN r k).map (x :: ·) ++ subsN r (k + 1)).length = _
  rw [List.length_append, List.length_map]
theorem subs_left {x : Int} {r : List Int} {k q : Nat} (h : q < (subsN r k).length) : (subsN (x :: r) (k + 1)).getD q [] = x :: (subsN r k).getD q [] := by
  show ((subsN r k).map (x :: ·) ++ subsN r (k + 1)).getD q [] = _
  rw [List.getD_eq_getElem?_getD, List.getElem?_append_left (by rw [List.length_map]; exact h), List.getElem?_map, List.getD_eq_getElem?_getD, List.getElem?_eq_getElem h]
  rfl
theorem subs_right {x : Int} {r : List Int} {k q : Nat} (h : (subsN r k).length ≤ q) : (subsN (x :: r) (k + 1)).getD q [] = (subsN r (k + 1)).getD (q - (subsN r k).length) [] := by
  show ((subsN r k).map (x :: ·) ++ subsN r (k + 1)).getD q [] = _
  rw [List.getD_eq_getElem?_getD, List.getElem?_append_right (by rw [List.length_map]; exact h), List.length_map, List.getD_eq_getElem?_getD]
end DL

set_option Elab.async false
set_option linter.all false
set_option maxRecDepth 100000
set_option maxHeartbeats 4000000
namespace DL
open PySem PySem.Spec PyProof.Rows L2 DS

def isLeast (m : Int) (xs : List Int) : Bool := (movs m xs).all fun ms => !HT.lexLt ms xs
end DL

set_option Elab.async false
set_option linter.all false
set_option maxRecDepth 100000
set_option maxHeartbeats 4000000
namespace DL
open PySem PySem.Spec PyProof.Rows L2 DS
theorem least_dec {m : Int} {xs ns : List Int} (hm : Ring m) (hx : IsSt m xs) (h : Least m xs ns) : decide (ns = xs) = isLeast m xs := by
  rw [Bool.eq_iff_iff, decide_eq_true_iff]
  constructor
  · rintro rfl
    exact List.all_eq_true.mpr fun ms q => by rw [h.least ms q]; rfl
  · intro q
    refine h.uniq ⟨(mem_movs hm).mpr ⟨0, (mov_zero hm hx).symm⟩, fun ms z => ?_⟩
    have := List.all_eq_true.mp q ms z
    simpa using this
end DL

set_option Elab.async false
set_option linter.all false
set_option maxRecDepth 100000
set_option maxHeartbeats 4000000
namespace DL
open PySem PySem.Spec PyProof.Rows L2
open Sem (wp)

def DK (h h' : Heap) : Prop := ∀ b o, h.get? b = some o → ∃ o', h'.get? b = some o' ∧ o'.dict = o.dict
theorem DK.refl (h : Heap) : DK h h := fun _ o e => ⟨o, e, rfl⟩
theorem DK.trans {h1 h2 h3 : Heap} (a : DK h1 h2) (b : DK h2 h3) : DK h1 h3 := fun c o e => by
  obtain ⟨o1, e1, d1⟩ := a c o e
  obtain ⟨o2, e2, d2⟩ := b c o1 e1
  exact ⟨o2, e2, d2.trans d1⟩
structure KeepsD {α : Type} (t : Sem α) : Prop where
  out : ∀ (M : Model) (Γ : PySem.Ctx) (P : α → Pos → Shared → Prop) (Ee : Value → Pos → Shared → Prop) (p : Pos) (s : Shared), wp M Γ t P Ee p s → wp M Γ t (fun a p' s' => P a p' s' ∧ DK s.heap s'.heap) Ee p s
namespace KeepsD
variable {α β : Type}
theorem pure (a : α) : KeepsD (Pure.pure a : Sem α) := ⟨fun M Γ P Ee p s h => by
  rw [Sem.wp_pure'] at h ⊢
  exact ⟨h, .refl _⟩⟩
theorem unsupported (w : String) : KeepsD (PySem.unsupported w : Sem α) := ⟨fun _ _ _ _ _ _ h => h.elim⟩
theorem bind {m : Sem α} {f : α → Sem β} (hm : KeepsD m) (hf : ∀ a, KeepsD (f a)) : KeepsD (m >>= f) := ⟨fun M Γ P Ee p s h => by
  rw [Sem.wp_bind'] at h ⊢
  refine Sem.wp_mono M Γ m (fun a p1 s1 h1 => ?_) (fun _ _ _ x => x) p s (hm.out M Γ _ Ee p s h)
  exact Sem.wp_mono M Γ (f a) (fun b p2 s2 h2 => ⟨h2.1, h1.2.trans h2.2⟩) (fun _ _ _ x => x) p1 s1 ((hf a).out M Γ P Ee p1 s1 h1.1)⟩
theorem ite {c : Prop} [Decidable c] {t u : Sem α} (ht : KeepsD t) (hu : KeepsD u) : KeepsD (if c then t else u) := by split <;> assumption
theorem load (a : Addr) : KeepsD (PySem.load a) := ⟨fun M Γ P Ee p s h => by
  unfold PySem.load at h ⊢
  rw [Sem.wp_load] at h ⊢
  obtain ⟨o, ho, h⟩ := h
  exact ⟨o, ho, h, .refl _⟩⟩
theorem alloc (o : Obj) : KeepsD (PySem.alloc o) := ⟨fun M Γ P Ee p s h => by
  unfold PySem.alloc at h ⊢
  rw [Sem.wp_alloc] at h ⊢
  exact ⟨h, fun b u e => ⟨u, Heap.get?_push_of_some _ e, rfl⟩⟩⟩
theorem update (a : Addr) {f : Obj → Obj} (hd : ∀ o, (f o).dict = o.dict) (hf : ∀ o, (f o).isFreed = o.isFreed) : KeepsD (PySem.update a f) := ⟨fun M Γ P Ee p s h => by
  unfold PySem.update at h ⊢
  rw [Sem.wp_update] at h ⊢
  refine ⟨h.1, h.2, fun b u e => ?_⟩
  by_cases z : b = a
  · subst z
    have nf : u.isFreed = false := (Heap.get?_some_iff.mp e).2
    exact ⟨f u, Heap.get?_update_self f e (by rw [hf]; exact nf), hd u⟩
  · exact ⟨u, (Heap.get?_update_other _ _ (Ne.symm z)).trans e, rfl⟩⟩
theorem stack : KeepsD PySem.stack := ⟨fun M Γ P Ee p s h => by
  unfold PySem.stack at h ⊢
  rw [Sem.wp_stack] at h ⊢
  exact ⟨h, .refl _⟩⟩
theorem map_dict (o : Obj) (g : Array Value → Array Value) : (Obj.mapFields g o).dict = o.dict := by
  obtain ⟨c, d, dt, sl⟩ := o
  cases dt <;> rfl
theorem map_free (o : Obj) (g : Array Value → Array Value) : (Obj.mapFields g o).isFreed = o.isFreed := by
  obtain ⟨c, d, dt, sl⟩ := o
  cases dt <;> rfl
theorem fieldsOf (v : Value) : KeepsD (PySem.fieldsOf v) := by
  unfold PySem.fieldsOf
  cases v <;> first
    | exact unsupported _
    | (refine bind (load _) fun o => ?_
       split <;> first | exact pure _ | exact unsupported _)
theorem field (v : Value) (i : Nat) : KeepsD (PySem.field v i) := by
  unfold PySem.field
  refine bind (fieldsOf v) fun vs => ?_
  split <;> first | exact pure _ | exact unsupported _
theorem setField (v : Value) (i : Nat) (x : Value) : KeepsD (PySem.setField v i x) := by
  unfold PySem.setField
  cases v <;> first
    | exact unsupported _
    | (unfold PySem.updateField
       refine bind (load _) fun o => ?_
       split
       · exact ite (update _ (fun o => map_dict o _) fun o => map_free o _) (unsupported _)
       · exact unsupported _)
theorem caller : KeepsD PySem.underTheClaimsCaller := by
  unfold PySem.underTheClaimsCaller
  repeat' with_reducible first
    | assumption
    | exact pure _
    | exact unsupported _
    | exact field _ _
    | exact setField _ _ _
    | exact load _
    | exact stack
    | exact alloc _
    | exact update _ (fun _ => rfl) fun _ => rfl
    | apply ite
    | apply bind
    | intro _
    | split
theorem kept (env : Env) (i : Bool) (l : List Env) : KeepsD (PySem.keptBack env i l) := by
  have := caller
  cases l
  · unfold PySem.keptBack
    repeat' with_reducible first
      | assumption
      | exact pure _
      | exact unsupported _
      | exact field _ _
      | exact setField _ _ _
      | exact load _
      | exact stack
      | exact alloc _
      | exact update _ (fun _ => rfl) fun _ => rfl
      | apply ite
      | apply bind
      | intro _
      | split
  · unfold PySem.keptBack
    exact pure _
theorem any {α : Type} {t : Sem α} (k : KeepsD t) {M : Model} {A : Around} {Q : α → Shared → Prop} {E : Value → Shared → Prop} {s : Shared} (h : wpAny M A t Q E s) : wpAny M A t (fun a s' => Q a s' ∧ DK s.heap s'.heap) E s :=
  fun Γ p hΓ => k.out M Γ _ _ p s (h Γ p hΓ)
end KeepsD
end DL

set_option Elab.async false
set_option linter.all false
set_option maxRecDepth 100000
set_option maxHeartbeats 4000000
namespace DL
open PySem PySem.Spec PyProof.Rows L2

structure Fly (h0 : Heap) (H : Hp) (e : Addr) (cls : Value) (dx : Option Addr) (h : Heap) : Prop where
  ex : ∃ oe vs T oT ts a0, h.get? e = some oe ∧ oe.cls = cls ∧ oe.data = .fields vs ∧ vs[0]? = some a0 ∧ vs[1]? = some (.ref T) ∧ T ≠ e ∧ h.get? T = some oT ∧ oT.data = .fields ts ∧ ts[3]? = some .none ∧ h0.get? T = none ∧ H T = none
  new : h0.get? e = none
  free : H e = none
  own : ∀ o, h.get? e = some o → o.dict = dx
def CXD (P : Program) (w : World) : CXT := fun outer H s E e s' =>
  ∃ ea cls dx H', e = .ref ea ∧ s'.os = s.os ∧ AllBare s'.gens ∧ Un (frs outer) [] H H' s.heap s'.heap ∧ HOk P w H' s'.heap ∧ Fly s.heap H' ea cls dx s'.heap ∧ E cls dx H'
theorem ObjOk.some {P : Program} {w : World} {H : Hp} {h : Heap} {a : Addr} {o : HO} (x : ObjOk P w H h a o) : ∃ u, h.get? a = some u := by
  cases o with
  | lst xs => obtain ⟨_, _, _, _, e⟩ := x; exact ⟨_, e⟩
  | tup xs => obtain ⟨_, _, _, _, _, e, _⟩ := x; exact ⟨_, e⟩
  | dK kvs => obtain ⟨_, _, _, _, o, _, _, e, _⟩ := x; exact ⟨_, e⟩
  | dT kvs => obtain ⟨_, _, _, _, o, _, _, e, _⟩ := x; exact ⟨_, e⟩
  | set S n => obtain ⟨o, _, _, _, e, _⟩ := x; exact ⟨_, e⟩
  | ins C dx fs => obtain ⟨_, _, _, e, _⟩ := x; exact ⟨_, e⟩
  | own y => exact x
  | xd fs => obtain ⟨_, ⟨_, _, _, e, _⟩, _⟩ := x; exact ⟨_, e⟩
  | rng lo hi => obtain ⟨_, _, _, e⟩ := x; exact ⟨_, e⟩
  | frz ob u => exact ⟨_, x.1⟩
  | tbl ps => exact ⟨_, show h.get? a = Option.some _ from x⟩
  | met f y => exact ⟨_, show h.get? a = Option.some _ from x⟩
  | ext φ => exact x.2.1
structure XOk (X : Cx) (E : XK) : Prop where
  pass : Passes (CXD X.prog X.w) X E
  raise : ∀ (pins : List (Addr × Obj)) (σ : L2.St) (H : Hp) (s : Shared) (h' : Heap) (e C : Addr) (vs : List Value), Inv X pins σ H s → Heap.MadeExcOf s.heap h' e (.ref C) vs → E (.ref C) none H → X.xe (.ref e) { s with heap := h' }
  own : PassesOwn (model X.prog X.w) X.A X.env X.xe
theorem Fly.old {h0 h1 h : Heap} {H : Hp} {e : Addr} {cls : Value} {dx : Option Addr} (x : Fly h1 H e cls dx h) (k : ∀ b o, h0.get? b = some o → ∃ o', h1.get? b = some o') : Fly h0 H e cls dx h := by
  have back : ∀ b, h1.get? b = none → h0.get? b = none := fun b n => by
    cases e : h0.get? b with
    | none => rfl
    | some o => obtain ⟨o', e1⟩ := k b o e; rw [n] at e1; cases e1
  obtain ⟨oe, vs, T, oT, ts, a0, t1, t2, t4, t3, t5, t7, t8, t9, t10, t11, t12⟩ := x.ex
  exact ⟨⟨oe, vs, T, oT, ts, a0, t1, t2, t4, t3, t5, t7, t8, t9, t10, back T t11, t12⟩, back e x.new, x.free, x.own⟩
end DL

set_option Elab.async false
set_option linter.all false
set_option maxRecDepth 100000
set_option maxHeartbeats 4000000
namespace DL
open PySem PySem.Spec PyProof.Rows L2 DS

abbrev Ex := Str × List (Str × Int)
structure OutX (K : PySem.W.Frag) (M : Mk) (H : Hp) (XR : Ex → Prop) (E : XK) : Prop where
  pl : ∀ x M' H' C, XR (x, []) → Ext M H M' H' → PySem.W.nsIn K mainGlobals x = some (some (.ref C)) → E (.ref C) none H'
  fl : ∀ x f fs M' H' C d, XR (x, f :: fs) → Ext M H M' H' → PySem.W.nsIn K mainGlobals x = some (some (.ref C)) → M' d = 0 → H' d = some (.xd ((f :: fs).map fun p => (p.1, V.int p.2))) → E (.ref C) (some d) H'
structure OutXS (K : PySem.W.Frag) (M : Mk) (H : Hp) (XR : Ex → Prop) (E : XK) : Prop where
  pl : ∀ x M' H' C, XR (x, []) → ExtS M H M' H' → PySem.W.nsIn K mainGlobals x = some (some (.ref C)) → E (.ref C) none H'
  fl : ∀ x f fs M' H' C d, XR (x, f :: fs) → ExtS M H M' H' → PySem.W.nsIn K mainGlobals x = some (some (.ref C)) → M' d = 0 → H' d = some (.xd ((f :: fs).map fun p => (p.1, V.int p.2))) → E (.ref C) (some d) H'
section
variable {K : PySem.W.Frag} {M M1 : Mk} {H H1 : Hp} {XR : Ex → Prop} {E : XK}
theorem OutX.ext (o : OutX K M H XR E) (e : Ext M H M1 H1) : OutX K M1 H1 XR E := ⟨fun x M' H' C q e' n => o.pl x M' H' C q (e.trans e') n, fun x f fs M' H' C d q e' n m h => o.fl x f fs M' H' C d q (e.trans e') n m h⟩
theorem OutXS.x (o : OutXS K M H XR E) : OutX K M H XR E := ⟨fun x M' H' C q e' n => o.pl x M' H' C q e'.toS n, fun x f fs M' H' C d q e' n m h => o.fl x f fs M' H' C d q e'.toS n m h⟩
end
abbrev XTE := DEnv → (D → Prop) → (Ex → Prop) → Prop
abbrev XTT := DEnv → (Bool → Prop) → (Ex → Prop) → Prop
abbrev XTA := DEnv → (List D → Prop) → (Ex → Prop) → Prop
abbrev XTS := DEnds → (Ex → Prop) → DEnv → Prop
def TDX (K : PySem.W.Frag) (E : XK) (w : XTE) : TE := fun σ H Q => ∃ M ρ R XR, Wf M H ∧ EnvR K M H σ ρ ∧ w ρ R XR ∧ Out K M H R Q ∧ OutX K M H XR E
def TDXT (K : PySem.W.Frag) (E : XK) (w : XTT) : TT := fun σ H Q => ∃ M ρ R XR, Wf M H ∧ EnvR K M H σ ρ ∧ w ρ R XR ∧ OutB M H R Q ∧ OutX K M H XR E
def TDXA (K : PySem.W.Frag) (E : XK) (w : XTA) : TA := fun σ H Q => ∃ M ρ R XR, Wf M H ∧ EnvR K M H σ ρ ∧ w ρ R XR ∧ OutA K M H R Q ∧ OutX K M H XR E
def TDXS (K : PySem.W.Frag) (E : XK) (w : XTS) : TS := fun En σ H => ∃ M ρ DD XR, Wf M H ∧ EnvR K M H σ ρ ∧ w DD XR ρ ∧ OutS K M H DD En ∧ OutXS K M H XR E
structure XE (X : Cx) (E : XK) (e : Expr) (w : XTE) : Prop where
  p : PE X e (TDX X.K E w)
structure XT (X : Cx) (E : XK) (e : Expr) (w : XTT) : Prop where
  p : PT X e (TDXT X.K E w)
structure XA (X : Cx) (E : XK) (e : List Expr) (w : XTA) : Prop where
  p : PA X e (TDXA X.K E w)
structure XS (X : Cx) (E : XK) (e : Stmt) (w : XTS) : Prop where
  p : PS X e (TDXS X.K E w)
structure XSs (X : Cx) (E : XK) (e : List Stmt) (w : XTS) : Prop where
  p : PSs X e (TDXS X.K E w)

abbrev RSp := List D → (Ex → Prop) → Prop
def spR (K : PySem.W.Frag) (n : Nat) (S : RSp) : Sp := fun vs H _ E => vs.length = n ∧ ∃ M ds XR, (Wf M H ∧ TabsIn K M) ∧ DRs K M H vs ds ∧ S ds XR ∧ OutX K M H XR E
structure RDef (P : Program) (w : World) (K : PySem.W.Frag) (mg : Str → Option Value) (base : Heap) (k : Nat) (x : Str) (ps : List Str) (S : RSp) : Prop where
  ex : ∃ (f : Addr) (fd : FuncData), mg x = some (.ref f) ∧ PySem.W.keepIn K (.ref f) = true ∧ Binds K fd ps [] ∧ FnOk P w K mg base (CXD P w) k f fd ps (spR K ps.length S)
  len : ∀ ds XR, S ds XR → ds.length = ps.length
structure CallX (X : Cx) (E : XK) (x : Str) (S : List D → (D → Prop) → (Ex → Prop) → Prop) : Prop where
  ex : ∃ f, X.mg x = some (.ref f) ∧ PySem.W.keepIn X.K (.ref f) = true ∧ ∀ pins s σ M H us vs ds R XR Q, Inv X pins σ H s → Vals vs us → (Wf M H ∧ TabsIn X.K M) → DRs X.K M H vs ds → S ds R XR → Out X.K M H R Q → OutX X.K M H XR E → wpAny (model X.prog X.w) X.A (call (.ref f) us) (EP X pins σ Q) X.xe s
section
variable {X : Cx} {E : XK} {e a b : Expr} {es : List Expr} {pos p : Pos} {k : Nat} {x : Str} {ps : List Str} {S : DSp} {SR : RSp}
theorem CallX.def (F : Def X.prog X.w X.K X.mg X.base k x ps S) (hr : Room k X.A) : CallX X E x (fun ds R _ => S ds R) := by
  obtain ⟨f, fd, hm, hk, hb, G⟩ := F.ex
  refine ⟨f, hm, hk, fun pins s σ M H us vs ds R XR Q I rv wf dr q o ox => ?_⟩
  exact run_fn (E := E0) (dvs := []) G hr hb .nil pass0 I rv (by rw [List.append_nil]; exact ⟨by rw [dr.length]; exact F.len ds R q, M, ds, R, wf, dr, q, o⟩)
end

abbrev bmVE : List Value := [.type "ValueError", .type "Exception", .type "BaseException", .type "object"]
end DL

set_option Elab.async false
set_option linter.all false
set_option maxRecDepth 100000
set_option maxHeartbeats 4000000
namespace DL
open PySem PySem.Spec PyProof.Rows L2 DS

end DL

set_option Elab.async false
set_option linter.all false
set_option maxRecDepth 100000
set_option maxHeartbeats 4000000
namespace DL
open PySem PySem.Spec PyProof.Rows L2 DS

structure Cells (scope : Scope) (cl : List (Str × Addr)) (N : List Str) (σ : L2.St) (H : Hp) (h : Heap) : Prop where
  inj : ∀ x y c, cl.lookup x = some c → cl.lookup y = some c → x = y
  has : ∀ x, scope.names.lookup x = some .free → ∃ c, cl.lookup x = some c
  cell : ∀ x c, cl.lookup x = some c → (∃ v, h.IsCell c v) ∧ H c = none
  val : ∀ (i : Nat) (x : Str) (v : V), N[i]? = some x → σ[i]? = some (some v) → scope.names.lookup x = some .free → ∃ c u, cl.lookup x = some c ∧ RelV v u ∧ h.IsCell c (some u)
structure LamScope (scope : Scope) : Prop where
  kind : scope.kind = .function
  co : scope.isCoroutine = false
  gen : scope.isGenerator = false
  nocell : ∀ x ∈ scope.names, x.2 ≠ .cell
  nolocal : ∀ x ∈ scope.names, x.2 ≠ .local
def Thunk (P : Program) (w : World) (K : PySem.W.Frag) (mg : Str → Option Value) (base : Heap) (k : Nat) (f : Addr) (h : Heap) (fs : List Addr) (H : Hp) (Q : VK) (E : XK) : Prop :=
  ∀ (A : Around) (outer : List Env) (s : Shared), Room k A → Env0 P w K mg base A outer s H → (∀ b o, h.get? b = some o → H b = none → b ∉ fs → s.heap.get? b = some o) →
    codeAny (model P w) A (.call (.ref f) ⟨[], []⟩) (CR (CXD P w) outer P w H s Q E) s
end DL

set_option Elab.async false
set_option linter.all false
set_option maxRecDepth 100000
set_option maxHeartbeats 4000000
namespace DL
open PySem PySem.Spec PyProof.Rows L2 DS

def excNames : List Str := ["NoRing", "NoPrime", "NoSet", "NoNumber", "NoTrades", "Apart", "NoRow", "NoList", "NoText", "TooGreat"]
def excWords : List (Str × Str) := [("NoRing", "ring"), ("NoPrime", "prime"), ("NoSet", "set"), ("NoNumber", "number"), ("NoTrades", "trades"), ("Apart", "apart"), ("NoRow", "row"), ("NoList", "list"), ("NoText", "text"), ("TooGreat", "great")]

def simpleX : List Str := ["NoRing", "NoPrime", "NoSet", "NoNumber", "NoTrades", "Apart", "NoRow"]
def GoodX (x : Ex) : Prop := (x.1 ∈ simpleX ∧ x.2 = []) ∨ ((x.1 = "NoList" ∨ x.1 = "NoText") ∧ ∃ i, x.2 = [(("at" : Str), i)]) ∨ (x.1 = "TooGreat" ∧ ∃ i j, x.2 = [(("many" : Str), i), (("most" : Str), j)])
theorem GoodX.mem {x : Ex} (h : GoodX x) : x.1 ∈ excNames := by
  rcases h with ⟨h, _⟩ | ⟨h | h, _⟩ | ⟨h, _⟩
  · have all : simpleX.all (fun y => excNames.contains y) = true := by decide
    exact List.contains_iff_mem.mp (List.all_eq_true.mp all _ h)
  · rw [h]; decide
  · rw [h]; decide
  · rw [h]; decide
def wordOf (x : Str) : Str := (excWords.lookup x).getD ""
def saidD (x : Ex) : D := .tup (.str (wordOf x.1) :: x.2.map fun p => D.int p.2)
def toldD (d : D) : D := .tup [.str "told", d]
def QD (K : PySem.W.Frag) (M : Mk) (H : Hp) (R : D → Prop) : VK := fun v H' => ∃ M' d, R d ∧ Ext M H M' H' ∧ DV K M' H' v d
def ED (K : PySem.W.Frag) (M : Mk) (H : Hp) (XR : Ex → Prop) : XK := fun cls dx H' => ∃ x C M', cls = Value.ref C ∧ (∃ fs : List (Str × Int), XR (x, fs) ∧ ((fs = [] ∧ dx = none) ∨ ∃ d, dx = some d ∧ M' d = 0 ∧ H' d = some (.xd (fs.map fun p => (p.1, V.int p.2))))) ∧ Ext M H M' H' ∧ PySem.W.nsIn K mainGlobals x = some (some (.ref C))
theorem QD.out {K : PySem.W.Frag} {M : Mk} {H : Hp} {R : D → Prop} : Out K M H R (QD K M H R) := fun v d M' H' q e dv => ⟨M', d, q, e, dv⟩
theorem ED.out {K : PySem.W.Frag} {M : Mk} {H : Hp} {XR : Ex → Prop} : OutX K M H XR (ED K M H XR) := ⟨fun x M' H' C q e n => ⟨x, C, M', rfl, ⟨[], q, .inl ⟨rfl, rfl⟩⟩, e, n⟩, fun x f fs M' H' C d q e n m h => ⟨x, C, M', rfl, ⟨f :: fs, q, .inr ⟨d, rfl, m, h⟩⟩, e, n⟩⟩

structure SaidOk (P : Program) (w : World) (K : PySem.W.Frag) (mg : Str → Option Value) (base : Heap) (k : Nat) : Prop where
  ex : ∃ fs, mg "_law_said" = some (.ref fs) ∧ PySem.W.keepIn K (.ref fs) = true ∧ ∀ (A : Around) (outer : List Env) (s : Shared) (H : Hp) (M : Mk) (f : Addr) (R : D → Prop) (Q : VK), Room (k + 1) A → Env0 P w K mg base A outer s H → Wf M H → TabsIn K M →
    PySem.W.FnAt f s.heap → H f = none → f ∉ frs outer → Thunk P w K mg base k f s.heap (frs outer) H (QD K M H fun d => d.nown = true ∧ R (toldD d)) (ED K M H fun x => GoodX x ∧ R (saidD x)) → Out K M H R Q →
    codeAny (model P w) A (.call (.ref fs) ⟨[.ref f], []⟩) (CR CX0 outer P w H s Q E0) s
end DL

set_option Elab.async false
set_option linter.all false
set_option maxRecDepth 100000
set_option maxHeartbeats 4000000
namespace DL
open PySem PySem.Spec PyProof.Rows L2 DS

structure LamB (K : PySem.W.Frag) (mg : Str → Option Value) (base : Heap) : Prop where
  hd : ∀ x n c P, (x, n) ∈ lamNames → PySem.W.tabIn K x = some (c, P) → PySem.W.CodeHd base c P
  bm : ∃ bm ob, mg "__builtins__" = some (.ref bm) ∧ bm ≠ builtinsNs ∧ base.get? bm = some ob ∧ ob.cls = .type "module" ∧ ob.dict = some builtinsNs ∧ ob.data = .plain
section
variable {X : Cx} {pins : List (Addr × Obj)} {σ : L2.St} {H : Hp} {s : Shared} {k : Nat}

end
end DL

set_option Elab.async false
set_option linter.all false
set_option maxRecDepth 100000
set_option maxHeartbeats 4000000
namespace DL
open PySem PySem.Spec PyProof.Rows L2 DS

end DL

set_option Elab.async false
set_option linter.all false
set_option maxRecDepth 100000
set_option maxHeartbeats 4000000
namespace DL
open PySem PySem.Spec PyProof.Rows L2 DS PySem.W

section
variable {prog : Program} {w : World} {A : Around} {E : Value → Shared → Prop} {s : Shared} {K : Frag} {x C : Addr} {ox : Obj} {od : Option Obj}
structure ExcC (K : Frag) (C : Addr) : Prop where
  ga : findIn K (.ref C) "__getattribute__" = some (some (.builtin "BaseException.__getattribute__"))
  gh : findIn K (.ref C) "__getattr__" = some none
  cl : findIn K (.ref C) "__class__" = some (some (.builtin "object.__class__"))
  gt : specialIn K (.builtin "object.__class__") "__get__" = some (some (.builtin "getset_descriptor.__get__"))
  tk : takesIn K (.builtin "object.__class__") = some true
  be : mroIn K C (.type "BaseException") = some true
  ob : mroIn K C (.type "object") = some true
  is : (clsIn K C).isSome = true
end

end DL

set_option Elab.async false
set_option linter.all false
set_option maxRecDepth 100000
set_option maxHeartbeats 4000000
namespace DL
open PySem PySem.Spec PyProof.Rows L2 DS
section
variable {X : Cx} {K : PySem.W.Frag} {M M1 : Mk} {H H1 : Hp} {a b c e : Expr} {wa wb we : DTE} {pos : Pos} {rest : List Expr}

theorem DV.exc {v : V} {x : Str} {fs : List (Str × Int)} (h : DV K M H v (.exc x fs)) : ∃ a C o, v = .ref a ∧ H a = some (.frz o (.own 0)) ∧ o.cls = .ref C ∧ PySem.W.nsIn K mainGlobals x = some (some (.ref C)) ∧ (∃ vs, o.data = .fields vs) ∧ ((fs = [] ∧ o.dict = none) ∨ ∃ dx, o.dict = some dx ∧ M dx = 0 ∧ H dx = some (.xd (fs.map fun p => (p.1, V.int p.2)))) := by
  rcases h with h | ⟨_, _, _, _, e, _⟩
  · cases h with | exc h1 h2 h3 h4 h6 h5 => exact ⟨_, _, _, rfl, h2, h3, h4, h6, h5⟩
  · cases e
end
end DL

set_option Elab.async false
set_option linter.all false
set_option maxRecDepth 100000
set_option maxHeartbeats 4000000
namespace DL
open PySem PySem.Spec PyProof.Rows L2 DS

structure RoomN (k : Nat) (A : Around) : Prop where
  dp : A.depth + 3 * k + 5 < recursionLimit
  un : A.units + 16 * k + 200 < cLine
  gd : A.guards = some []
theorem _root_.L2.Room.n {k : Nat} {A : Around} (r : Room k A) : RoomN k A := ⟨r.dp, r.un, r.gd⟩
theorem RoomN.mono {j k : Nat} {A : Around} (r : RoomN k A) (h : j ≤ k) : RoomN j A := ⟨by have := r.dp; omega, by have := r.un; omega, r.gd⟩
theorem RoomN.units {k : Nat} {A : Around} (r : RoomN k A) : A.units + 64 < cLine := by have := r.un; omega
structure DefN (P : Program) (w : World) (K : PySem.W.Frag) (mg : Str → Option Value) (base : Heap) (k : Nat) (x : Str) (ps : List Str) (S : DSp) : Prop where
  ex : ∃ f, mg x = some (.ref f) ∧ PySem.W.keepIn K (.ref f) = true ∧ ∀ (A : Around) (outer : List Env) (s : Shared) (H : Hp) (us : List Value) (vs : List V) (M : Mk) (ds : List D) (R : D → Prop) (Q : VK), RoomN k A → Env0 P w K mg base A outer s H → Vals vs us → Wf M H → TabsIn K M → DRs K M H vs ds → S ds R → Out K M H R Q →
    codeAny (model P w) A (.call (.ref f) ⟨us, []⟩) (CR CX0 outer P w H s Q E0) s
section
variable {X : Cx} {e : Expr} {es : List Expr} {pos p : Pos} {k : Nat} {x : Str} {ps : List Str} {S : DSp} {ta : DTA}
theorem DefN.def {P : Program} {w : World} {K : PySem.W.Frag} {mg : Str → Option Value} {base : Heap} {fd : FuncData} {f : Addr} (F : DefN P w K mg base k x ps S) (hm : mg x = some (.ref f)) (hb : Binds K fd ps []) (len : ∀ ds R, S ds R → ds.length = ps.length) : True := trivial
end
end DL

set_option Elab.async false
set_option linter.all false
set_option maxRecDepth 100000
set_option maxHeartbeats 4000000
namespace DL
open PySem PySem.Spec PyProof.Rows L2 DS

end DL

set_option Elab.async false
set_option linter.all false
set_option maxRecDepth 100000
set_option maxHeartbeats 4000000
namespace DL
open PySem PySem.Spec PyProof.Rows L2 DS

def markIn (K : PySem.W.Frag) (a : Addr) : List (Str × Nat) → Nat
  | [] => 0
  | p :: r => match PySem.W.tabIn K p.1 with
    | some (_, P) => if P == a then p.2 else markIn K a r
    | none => markIn K a r
def markOf (K : PySem.W.Frag) : Mk := fun a => markIn K a lamNames
theorem markIn_some {K : PySem.W.Frag} {a : Addr} : ∀ {l : List (Str × Nat)}, markIn K a l ≠ 0 → ∃ x n c, (x, n) ∈ l ∧ PySem.W.tabIn K x = some (c, a) ∧ markIn K a l = n
  | [], h => absurd rfl h
  | (x, n) :: r, h => by
    unfold markIn at h ⊢
    cases e : PySem.W.tabIn K x with
    | none =>
      rw [e] at h
      obtain ⟨y, m, c, h1, h2, h3⟩ := markIn_some h
      exact ⟨y, m, c, List.mem_cons_of_mem _ h1, h2, h3⟩
    | some q =>
      obtain ⟨c, P⟩ := q
      rw [e] at h
      by_cases z : (P == a) = true
      · have z' : P = a := beq_iff_eq.mp z
        subst z'
        exact ⟨x, n, c, List.mem_cons_self, e, by simp⟩
      · simp only [z] at h ⊢
        obtain ⟨y, m, c, h1, h2, h3⟩ := markIn_some (l := r) (by simpa using h)
        exact ⟨y, m, c, List.mem_cons_of_mem _ h1, h2, by simpa using h3⟩
def lamOk (q : Program) (K : PySem.W.Frag) : Bool := PySem.W.noTabs K && lamNames.all fun p => match PySem.W.tabIn K p.1 with
  | some (_, P) => markOf K P == p.2 && ((recsOf q).find? fun e => e.name == p.1).isSome
  | none => true
theorem lamOk_tabs {q : Program} {K : PySem.W.Frag} (h : lamOk q K = true) : TabsIn K (markOf K) := fun x n c P hm e => by
  have h2 := List.all_eq_true.mp (Bool.and_eq_true_iff.mp h).2 (x, n) hm
  rw [e] at h2
  exact beq_iff_eq.mp (Bool.and_eq_true_iff.mp h2).1
theorem lamOk_rec {q : Program} {K : PySem.W.Frag} (h : lamOk q K = true) {x : Str} {n : Nat} {c P : Addr} (hm : (x, n) ∈ lamNames) (e : PySem.W.tabIn K x = some (c, P)) : ∃ d, (recsOf q).find? (fun e => e.name == x) = some d := by
  have h2 := List.all_eq_true.mp (Bool.and_eq_true_iff.mp h).2 (x, n) hm
  rw [e] at h2
  exact Option.isSome_iff_exists.mp (Bool.and_eq_true_iff.mp h2).2
theorem law_callT {P q : Program} {w : World} {K : PySem.W.Frag} {loose : List Str} {mean : ExcName → Option Value} {mg mb : Str → Option Value} {k : Nat} {fa a : Addr} {fd : FuncData} {x : Str} {s₁ : Shared} {vs : List Value} {ns : List Int}
    (KX : K.In s₁.heap) (T : Top q loose mean mg mb s₁.heap) (ok : lamOk q K = true) (hg : s₁.gens = #[])
    (ha : s₁.heap.get? a = some { cls := .type "list", data := .seq vs.toArray }) (hi : IntsAre vs ns) (hl : ns.length ≤ 63) (hr : Room k callerA)
    (F : ∀ base : Heap, K.In base → base.Ns mainGlobals mg → LamB K mg base → FnOk P w K mg base CX0 k fa fd [x] (spD K 1 S_law)) (hbind : ∀ (s : Shared) (u : Value), BindsTo s fd ⟨[u], []⟩ [(x, u)]) :
    codeAny (model P w) callerA (.call (.ref fa) ⟨[.ref a], []⟩) (fun r s' => r = .ok (.ret (.bool true)) ∧ OldK s₁.heap s'.heap ∧ s'.os = s₁.os ∧ AllBare s'.gens) s₁ := by
  have rv := vals_ints hi
  have lenV := hi.length
  have hsl : (63 : Nat) ≤ sizeLine := by rw [sizeLine_eq]; decide
  -- the tables
  have tabAt : ∀ b, markOf K b ≠ 0 → 5 ≤ markOf K b ∧ s₁.heap.get? b = some (PySem.W.tabObj #[]) ∧ ∃ c, PySem.W.CodeHd s₁.heap c b := fun b hb => by
    obtain ⟨y, n, c, h1, h2, h3⟩ := markIn_some hb
    obtain ⟨d, hd⟩ := lamOk_rec ok h1 h2
    obtain ⟨t1, t2⟩ := PySem.W.tab_of T KX hd h2
    refine ⟨?_, t2, c, t1⟩
    show 5 ≤ markIn K b lamNames
    rw [h3]; exact lam_big h1
  have aT : markOf K a = 0 := Classical.byContradiction fun z => by
    have := (tabAt a z).2.1
    rw [ha] at this; cases this
  have core : ∀ (sc : Option HO), (sc = none ∨ sc = some (.frz { cls := .type "list", data := .seq vs.toArray } (.lst (ns.map V.int)))) → (sc ≠ none → K.lookup a = none) → SqL K (fun b => if b = a then sc else if markOf K b ≠ 0 then some (.tbl #[]) else none) a (ns.map V.int) →
      codeAny (model P w) callerA (.call (.ref fa) ⟨[.ref a], []⟩) (fun r s' => r = .ok (.ret (.bool true)) ∧ OldK s₁.heap s'.heap ∧ s'.os = s₁.os ∧ AllBare s'.gens) s₁ := by
    intro sc hsc hKa hS
    generalize hH : (fun b => if b = a then sc else if markOf K b ≠ 0 then some (.tbl #[]) else none : Hp) = H at hS
    have Ha : H a = sc := by rw [← hH]; exact if_pos rfl
    have Hb : ∀ b, b ≠ a → markOf K b ≠ 0 → H b = some (.tbl #[]) := fun b h1 h2 => by rw [← hH]; show (if b = a then _ else _) = _; rw [if_neg h1, if_pos h2]
    have Hn : ∀ b, b ≠ a → markOf K b = 0 → H b = none := fun b h1 h2 => by rw [← hH]; show (if b = a then _ else _) = _; rw [if_neg h1, if_neg (by rw [h2]; simp)]
    have free : ∀ {b : Addr} {o : Obj}, s₁.heap.get? b = some o → o ≠ PySem.W.tabObj #[] → (b = a → sc = none) → H b = none := fun {b o} e n1 n2 => by
      by_cases z : b = a
      · rw [z, Ha]; exact n2 z
      · refine Hn b z (Classical.byContradiction fun y => n1 ?_)
        have := (tabAt b y).2.1
        rw [e] at this; cases this; rfl
    have dictFree : ∀ {b : Addr} {o : Obj} {es : Array DictEntry} {ep : Nat}, s₁.heap.get? b = some o → o.data = .dict es ep → H b = none := fun {b o es ep} e d =>
      free e (fun z => by rw [z] at d; cases d) fun z => by subst z; rw [ha] at e; cases e; cases d
    have base_of : ∀ {b : Addr} {o : Obj}, s₁.heap.get? b = some o → H b = none → (hidT s₁.heap H).get? b = some o := fun e n => hidT_get e n
    have nsK : ∀ {b : Addr} {m : Str → Option Value}, s₁.heap.Ns b m → (hidT s₁.heap H).Ns b m := fun {b m} ⟨o, es, ep, e, d, r⟩ => ⟨o, es, ep, base_of e (dictFree e d), d, r⟩
    have hKb : K.In (hidT s₁.heap H) := fun b o e => base_of (KX b o e) (free (KX b o e) (fun z => by
        have h2 := List.all_eq_true.mp (Bool.and_eq_true_iff.mp ok).1 (b, o) (PySem.W.mem_of_lookupK e)
        subst z
        exact absurd (show false = true from h2) Bool.false_ne_true) fun z => Classical.byContradiction fun y => by
          have := hKa y
          rw [← z, e] at this; cases this)
    have hM : Mod K mg (hidT s₁.heap H) := ⟨hKb, nsK T.g, ⟨mb, nsK T.b, T.builtins⟩, let ⟨mc, h1, h2⟩ := T.nolimit; ⟨mc, nsK h1, h2⟩⟩
    have hLB : LamB K mg (hidT s₁.heap H) := by
      refine ⟨fun y n c Pt hm e => ?_, ?_⟩
      · obtain ⟨d, hd⟩ := lamOk_rec ok hm e
        obtain ⟨⟨o, us, fl, tf, fg, tg, inF, tx, tt, e1, e2, r⟩, _⟩ := PySem.W.tab_of T KX hd e
        exact ⟨o, us, fl, tf, fg, tg, inF, tx, tt, base_of e1 (free e1 (fun z => by rw [z] at e2; cases e2) fun z => by subst z; rw [ha] at e1; rw [← Option.some.inj e1] at e2; exact absurd (Value.type.inj e2) (by decide)), e2, r⟩
      · obtain ⟨bm, ob, b1, b2, b3, b4, b5, b6⟩ := T.bmain
        exact ⟨bm, ob, b1, b2, base_of b3 (free b3 (fun z => by rw [z] at b4; cases b4) fun z => by subst z; rw [ha] at b3; rw [← Option.some.inj b3] at b4; exact absurd (Value.type.inj b4) (by decide)), b4, b5, b6⟩
    have hok : HOk P w H s₁.heap := fun b u e => by
      by_cases z : b = a
      · subst z
        rw [Ha] at e
        rcases hsc with y | y
        · rw [y] at e; cases e
        · rw [y] at e; cases e
          exact ⟨ha, by rw [List.length_map]; exact Nat.le_trans hl hsl, vs, _, rv, ha⟩
      · by_cases y : markOf K b = 0
        · rw [Hn b z y] at e; cases e
        · rw [Hb b z y] at e; cases e
          exact (tabAt b y).2.1
    have e0 : Env0 P w K mg (hidT s₁.heap H) callerA [] s₁ H := ⟨rfl, hM, fun b o e => of_hidT e, Nat.le_of_eq (hidT_size _ _), trivial, fun b hb => absurd (show b ∈ ([] : List Addr) from hb) (by simp), hok, .of_eq hg⟩
    have wf : Wf (markOf K) H := by
      have nz : ∀ b, markOf K b ≠ 0 → H b = some (.tbl #[]) := fun b y => Hb b (fun z => by rw [z, aT] at y; exact y rfl) y
      refine ⟨fun b y => ⟨_, nz b y⟩, fun b y => ?_, fun b y => ⟨#[], nz b (fun z => by rw [z] at y; exact absurd y (by decide)), trivial, fun pos cv z => (by cases z)⟩⟩
      have := (tabAt b (by rw [y]; decide)).1
      rw [y] at this; exact absurd this (by decide)
    refine codeAny_mono ((F _ hKb (nsK T.g) hLB).run callerA [] s₁ H ⟨[.ref a], []⟩ [.ref a] [.ref a] (fun v _ => v = .bl true) E0 hr e0 (hbind s₁ (.ref a)) (.cons rfl .nil) (law_sp wf (lamOk_tabs ok) aT hl hS)) fun r s' h => ?_
    cases r with
    | error e => exact False.elim h
    | ok fl =>
      cases fl with
      | next => exact False.elim h
      | brk => exact False.elim h
      | cont => exact False.elim h
      | ret u =>
        obtain ⟨v, H', os, bare, un, hok', r', qv⟩ := h
        obtain rfl : v = .bl true := qv
        obtain rfl : u = Value.bool true := r'
        have nil1 : ∀ b : Addr, b ∉ frs ([] : List Env) := fun b z => absurd (show b ∈ ([] : List Addr) from z) (by simp)
        have nil2 : ∀ b : Addr, b ∉ ([] : List Addr) := fun b z => absurd z (by simp)
        refine ⟨rfl, ⟨fun b o e => ?_, fun b o e => un.there b o e (nil2 b)⟩, os, bare⟩
        cases y : H b with
        | none => exact .inl (un.keep b o e y (nil1 b) (nil2 b))
        | some u =>
          by_cases z : b = a
          · subst z
            rw [Ha] at y
            rcases hsc with z2 | z2
            · rw [z2] at y; cases y
            · have y' : H b = some (.frz { cls := .type "list", data := .seq vs.toArray } (.lst (ns.map V.int))) := by rw [Ha, z2]
              obtain ⟨e2, _⟩ := hok' b _ (un.frzs b _ _ y')
              rw [ha] at e; cases e
              exact .inl e2
          · by_cases y0 : markOf K b = 0
            · rw [Hn b z y0] at y; cases y
            · obtain ⟨_, t2, c, t1⟩ := tabAt b y0
              obtain ⟨more, e3⟩ := un.tbls b _ (Hb b z y0)
              have e4 : s'.heap.get? b = some (PySem.W.tabObj (#[] ++ more)) := hok' b _ e3
              rw [t2] at e; cases e
              exact .inr (.inl ⟨(t1.tab t2).isCodeTable, rfl, #[], more, rfl, e4⟩)
  cases hk : K.lookup a with
  | some o =>
    have e := KX a o hk
    rw [ha] at e
    cases e
    exact core none (.inl rfl) (fun z => absurd rfl z) (.inr ⟨_, vs.toArray, _, hk, rfl, rfl, rfl, by rw [List.size_toArray, lenV]; exact Nat.le_trans hl hsl, by simpa using rv⟩)
  | none => exact core _ (.inr rfl) (fun _ => hk) (.inl (.inr ⟨{ cls := .type "list", data := .seq vs.toArray }, if_pos rfl⟩))
theorem walk_ofT {l : PySem.W.OpenLaw} {k : Nat} {q : Program} {loose : List Str} {XP : (Str → Option Value) → Heap → Prop} {YP : World → Heap → Prop} {d : DefRec} {K : Params → PySem.W.Frag} {x : Str}
    (hn : l.most = some 63) (hdf : d.params.defaults = []) (hr : Room k callerA) (hY : ∀ (w : World) (h : Heap), YP w h → (K w.params).In h) (hok : ∀ w : World, lamOk q (K w.params) = true)
    (F : ∀ (w : World) (mg : Str → Option Value) (fa : Addr) (h : Heap), (K w.params).In h → h.Ns mainGlobals mg → mg d.name = some (.ref fa) →
      ∃ fd : FuncData, (∀ (s : Shared) (u : Value), BindsTo s fd ⟨[u], []⟩ [(x, u)]) ∧
        ∀ base : Heap, (K w.params).In base → base.Ns mainGlobals mg → LamB (K w.params) mg base → FnOk l.prog w (K w.params) mg base CX0 k fa fd [x] (spD (K w.params) 1 S_law)) :
    PySem.W.WalkO q loose XP YP l.row.toRowW d [] (fun f vs => PySem.call f vs) := by
  refine Att.attach_call hn hdf fun w s₀ s₁ mg mb fa o pm cd doc a vs ns G Y ho hd hcd hmg hobj hints hlen hg => ?_
  have KX := hY w _ Y
  obtain ⟨fd, hb, hF⟩ := F w mg fa _ KX G.T.g hmg
  exact law_callT KX G.T (hok w) hg hobj hints hlen hr hF hb
end DL

set_option Elab.async false
set_option linter.all false
set_option maxRecDepth 100000
set_option maxHeartbeats 4000000
namespace DL
open PySem PySem.Spec PyProof.Rows L2 DS

end DL

set_option Elab.async false
set_option linter.all false
set_option maxRecDepth 100000
set_option maxHeartbeats 4000000
namespace DL
open PySem PySem.Spec PyProof.Rows L2 DS PySem.W

end DL

set_option Elab.async false
set_option linter.all false
set_option maxRecDepth 100000
set_option maxHeartbeats 4000000
namespace DL
open PySem PySem.Spec PyProof.Rows L2 DS

def withinB (d : D) (lo hi : Int) : Option Bool := match d with
  | .int n => some (decide (lo ≤ n) && decide (n ≤ hi))
  | .ty _ => none
  | .fn _ => none
  | .exc _ _ => none
  | .own _ => none
  | .gh _ _ _ _ => none
  | _ => some false
def NoRg (d : D) : Prop := withinB d 2 24 = some false
def setItems (m : Int) : List D → Int → Option Bool
  | [], _ => some true
  | .int x :: r, last => if x ≤ last then some false else if m ≤ x then some false else setItems m r x
  | .ty _ :: _, _ => none
  | .fn _ :: _, _ => none
  | .exc _ _ :: _, _ => none
  | .own _ :: _, _ => none
  | .gh _ _ _ _ :: _, _ => none
  | _ :: _, _ => some false
def isSetB (m : Int) (d : D) : Option Bool := match d with
  | .tup ds => setItems m ds (-1)
  | .ty _ => none
  | .fn _ => none
  | .exc _ _ => none
  | .own _ => none
  | .gh _ _ _ _ => none
  | _ => some false
theorem within_nown {d : D} {lo hi : Int} {b : Bool} (h : withinB d lo hi = some b) : d.nown = true := by cases d <;> first | rfl | cases h
theorem NoRg.nown {d : D} (h : NoRg d) : d.nown = true := within_nown h
theorem isSet_nown {m : Int} {d : D} {b : Bool} (h : isSetB m d = some b) : d.nown = true := by cases d <;> first | rfl | cases h
def SetErr (d e : D) (XR : Ex → Prop) : Prop := (NoRg d ∧ e.nown = true ∧ XR ("NoRing", [])) ∨ ∃ m, d = .int m ∧ Ring m ∧ isSetB m e = some false ∧ XR ("NoSet", [])
theorem SetErr.n1 {d e : D} {XR : Ex → Prop} (h : SetErr d e XR) : d.nown = true := by
  rcases h with ⟨h, _⟩ | ⟨m, rfl, _⟩
  · exact within_nown h
  · rfl
theorem SetErr.n2 {d e : D} {XR : Ex → Prop} (h : SetErr d e XR) : e.nown = true := by
  rcases h with ⟨_, h, _⟩ | ⟨m, _, _, h, _⟩
  · exact h
  · exact isSet_nown h
end DL
namespace DL
open PySem PySem.Spec PyProof.Rows L2 DS
end DL

set_option Elab.async false
set_option linter.all false
set_option maxRecDepth 100000
set_option maxHeartbeats 4000000
namespace DL
open PySem PySem.Spec PyProof.Rows L2 DS
end DL

set_option Elab.async false
set_option linter.all false
set_option maxRecDepth 100000
set_option maxHeartbeats 4000000
namespace HT
open PySem PySem.Spec PyProof.Rows
variable {prog : Program} {w : World} {A : Around} {s : Shared} {E : Value → Shared → Prop}
end HT
namespace L2
open PySem PySem.Spec PyProof.Rows
variable {X : Cx}
end L2
namespace DL
open PySem PySem.Spec PyProof.Rows L2 DS
end DL

set_option Elab.async false
set_option linter.all false
set_option maxRecDepth 100000
set_option maxHeartbeats 4000000
namespace DL
open PySem PySem.Spec PyProof.Rows L2 DS
def PairErr (d e f : D) (XR : Ex → Prop) : Prop := (SetErr d e XR ∧ f.nown = true) ∨ ∃ m xs, d = .int m ∧ e = tI xs ∧ Ring m ∧ IsSt m xs ∧ isSetB m f = some false ∧ XR ("NoSet", [])
theorem PairErr.n1 {d e f : D} {XR : Ex → Prop} (h : PairErr d e f XR) : d.nown = true := by
  rcases h with ⟨h, _⟩ | ⟨m, xs, rfl, _⟩
  · exact h.n1
  · rfl
theorem PairErr.n2 {d e f : D} {XR : Ex → Prop} (h : PairErr d e f XR) : e.nown = true := by
  rcases h with ⟨h, _⟩ | ⟨m, xs, _, rfl, _⟩
  · exact h.n2
  · rfl
theorem PairErr.n3 {d e f : D} {XR : Ex → Prop} (h : PairErr d e f XR) : f.nown = true := by
  rcases h with ⟨_, h⟩ | ⟨m, xs, _, _, _, _, h, _⟩
  · exact h
  · exact isSet_nown h
def Bad2 (m : Int) (e f : D) : Prop := (isSetB m e = some false ∧ f.nown = true) ∨ ∃ xs, e = tI xs ∧ IsSt m xs ∧ isSetB m f = some false
theorem Bad2.n1 {m : Int} {e f : D} (h : Bad2 m e f) : e.nown = true := by
  rcases h with ⟨h, _⟩ | ⟨xs, rfl, _⟩
  · exact isSet_nown h
  · rfl
theorem Bad2.n2 {m : Int} {e f : D} (h : Bad2 m e f) : f.nown = true := by
  rcases h with ⟨_, h⟩ | ⟨xs, _, _, h⟩
  · exact h
  · exact isSet_nown h
end DL

set_option Elab.async false
set_option linter.all false
set_option maxRecDepth 100000
set_option maxHeartbeats 4000000
namespace DL
open PySem PySem.Spec PyProof.Rows L2 DS
section
variable {X : Cx} {E : XK} {e a b : Expr} {pos : Pos}

end
end DL

set_option Elab.async false
set_option linter.all false
set_option maxRecDepth 100000
set_option maxHeartbeats 4000000
namespace DL
open PySem PySem.Spec PyProof.Rows L2 DS
end DL

set_option Elab.async false
set_option linter.all false
set_option maxRecDepth 100000
set_option maxHeartbeats 4000000
namespace DL
open PySem PySem.Spec PyProof.Rows L2 DS

def Bad3 (m : Int) (e f g : D) : Prop := (Bad2 m e f ∧ g.nown = true) ∨ ∃ xs ys, e = tI xs ∧ f = tI ys ∧ IsSt m xs ∧ IsSt m ys ∧ isSetB m g = some false
theorem Bad3.n1 {m : Int} {e f g : D} (h : Bad3 m e f g) : e.nown = true := by
  rcases h with ⟨h, _⟩ | ⟨xs, ys, rfl, _⟩
  · exact h.n1
  · rfl
theorem Bad3.n2 {m : Int} {e f g : D} (h : Bad3 m e f g) : f.nown = true := by
  rcases h with ⟨h, _⟩ | ⟨xs, ys, _, rfl, _⟩
  · exact h.n2
  · rfl
theorem Bad3.n3 {m : Int} {e f g : D} (h : Bad3 m e f g) : g.nown = true := by
  rcases h with ⟨_, h⟩ | ⟨xs, ys, _, _, _, _, h⟩
  · exact h
  · exact isSet_nown h
end DL

set_option Elab.async false
set_option linter.all false
set_option maxRecDepth 100000
set_option maxHeartbeats 4000000
namespace DL
open PySem PySem.Spec PyProof.Rows L2 DS
section
variable {X : Cx} {E : XK} {e a b : Expr} {pos : Pos}

end

def NoWh (d : D) : Prop := isWhole d = some false ∧ d.nown = true
theorem NoWh.nown {d : D} (h : NoWh d) : d.nown = true := h.2
def MovErr (d e f : D) (XR : Ex → Prop) : Prop := (SetErr d e XR ∧ f.nown = true) ∨ ∃ m xs, d = .int m ∧ e = tI xs ∧ Ring m ∧ IsSt m xs ∧ NoWh f ∧ XR ("NoNumber", [])
theorem MovErr.n1 {d e f : D} {XR : Ex → Prop} (h : MovErr d e f XR) : d.nown = true := by
  rcases h with ⟨h, _⟩ | ⟨m, xs, rfl, _⟩
  · exact h.n1
  · rfl
theorem MovErr.n2 {d e f : D} {XR : Ex → Prop} (h : MovErr d e f XR) : e.nown = true := by
  rcases h with ⟨h, _⟩ | ⟨m, xs, _, rfl, _⟩
  · exact h.n2
  · rfl
end DL

set_option Elab.async false
set_option linter.all false
set_option maxRecDepth 100000
set_option maxHeartbeats 4000000
namespace DL
open PySem PySem.Spec PyProof.Rows L2 DS
section
variable {X : Cx} {E : XK} {e a b : Expr} {pos : Pos}

end
end DL

set_option Elab.async false
set_option linter.all false
set_option maxRecDepth 100000
set_option maxHeartbeats 4000000
namespace DL
open PySem PySem.Spec PyProof.Rows L2 DS
def ApErr (d e f : D) (XR : Ex → Prop) : Prop := PairErr d e f XR ∨ ∃ m xs ys, d = .int m ∧ e = tI xs ∧ f = tI ys ∧ Ring m ∧ IsSt m xs ∧ IsSt m ys ∧ (xs = [] ∨ ys = []) ∧ XR ("Apart", [])
theorem ApErr.n1 {d e f : D} {XR : Ex → Prop} (h : ApErr d e f XR) : d.nown = true := by
  rcases h with h | ⟨m, xs, ys, rfl, _⟩
  · exact h.n1
  · rfl
theorem ApErr.n2 {d e f : D} {XR : Ex → Prop} (h : ApErr d e f XR) : e.nown = true := by
  rcases h with h | ⟨m, xs, ys, _, rfl, _⟩
  · exact h.n2
  · rfl
theorem ApErr.n3 {d e f : D} {XR : Ex → Prop} (h : ApErr d e f XR) : f.nown = true := by
  rcases h with h | ⟨m, xs, ys, _, _, rfl, _⟩
  · exact h.n3
  · rfl
def primes9 : List Int := [2, 3, 5, 7, 11, 13, 17, 19, 23]
def PrErr (d e f : D) (XR : Ex → Prop) : Prop := (NoRg d ∧ e.nown = true ∧ f.nown = true ∧ XR ("NoRing", [])) ∨ (∃ m, d = .int m ∧ Ring m ∧ ¬ m ∈ primes9 ∧ e.nown = true ∧ f.nown = true ∧ XR ("NoPrime", [])) ∨ ∃ p, d = .int p ∧ Ring p ∧ p ∈ primes9 ∧ ApErr d e f XR
theorem PrErr.n1 {d e f : D} {XR : Ex → Prop} (h : PrErr d e f XR) : d.nown = true := by
  rcases h with ⟨h, _⟩ | ⟨m, rfl, _⟩ | ⟨p, rfl, _⟩
  · exact h.nown
  · rfl
  · rfl
theorem PrErr.n2 {d e f : D} {XR : Ex → Prop} (h : PrErr d e f XR) : e.nown = true := by
  rcases h with ⟨_, h, _⟩ | ⟨m, _, _, _, h, _⟩ | ⟨p, _, _, _, h⟩
  · exact h
  · exact h
  · exact h.n2
theorem PrErr.n3 {d e f : D} {XR : Ex → Prop} (h : PrErr d e f XR) : f.nown = true := by
  rcases h with ⟨_, _, h, _⟩ | ⟨m, _, _, _, _, h, _⟩ | ⟨p, _, _, _, h⟩
  · exact h
  · exact h
  · exact h.n3
def Bad34 (p : Int) (e f : D) (x : Str) : Prop := (x = "set" ∧ Bad2 p e f) ∨ (x = "apart" ∧ ∃ xs ys, e = tI xs ∧ f = tI ys ∧ IsSt p xs ∧ IsSt p ys ∧ (xs = [] ∨ ys = []))
theorem Bad34.n1 {p : Int} {e f : D} {x : Str} (h : Bad34 p e f x) : e.nown = true := by
  rcases h with ⟨_, h⟩ | ⟨_, xs, ys, rfl, _⟩
  · exact h.n1
  · rfl
theorem Bad34.n2 {p : Int} {e f : D} {x : Str} (h : Bad34 p e f x) : f.nown = true := by
  rcases h with ⟨_, h⟩ | ⟨_, xs, ys, _, rfl, _⟩
  · exact h.n2
  · rfl
end DL

set_option Elab.async false
set_option linter.all false
set_option maxRecDepth 100000
set_option maxHeartbeats 4000000
namespace DL
open PySem PySem.Spec PyProof.Rows L2 DS

def NoIn (lo hi : Int) (d : D) : Prop := withinB d lo hi = some false
theorem NoIn.nown {lo hi : Int} {d : D} (h : NoIn lo hi d) : d.nown = true := within_nown h
def RunErr (d e s : D) (XR : Ex → Prop) : Prop := (SetErr d e XR ∧ s.nown = true) ∨ ∃ m xs, d = .int m ∧ e = tI xs ∧ Ring m ∧ IsSt m xs ∧ NoIn 1 (m - 1) s ∧ XR ("NoNumber", [])
theorem RunErr.n1 {d e s : D} {XR : Ex → Prop} (h : RunErr d e s XR) : d.nown = true := by
  rcases h with ⟨h, _⟩ | ⟨m, xs, rfl, _⟩
  · exact h.n1
  · rfl
theorem RunErr.n2 {d e s : D} {XR : Ex → Prop} (h : RunErr d e s XR) : e.nown = true := by
  rcases h with ⟨h, _⟩ | ⟨m, xs, _, rfl, _⟩
  · exact h.n2
  · rfl
theorem RunErr.n3 {d e s : D} {XR : Ex → Prop} (h : RunErr d e s XR) : s.nown = true := by
  rcases h with ⟨_, h⟩ | ⟨m, xs, _, _, _, _, h, _⟩
  · exact h
  · exact h.nown
section
variable {X : Cx} {E : XK} {a b : Expr} {pos : Pos}

end
end DL

set_option Elab.async false
set_option linter.all false
set_option maxRecDepth 100000
set_option maxHeartbeats 4000000
namespace DL
open PySem PySem.Spec PyProof.Rows L2 DS
theorem SetErr.mono {d e : D} {X Y : Ex → Prop} (h : SetErr d e X) (f : ∀ y, X y → Y y) : SetErr d e Y := by
  rcases h with ⟨a, b, c⟩ | ⟨m, a, b, c, q⟩
  · exact .inl ⟨a, b, f _ c⟩
  · exact .inr ⟨m, a, b, c, f _ q⟩
theorem RunErr.mono {d e s : D} {X Y : Ex → Prop} (h : RunErr d e s X) (f : ∀ y, X y → Y y) : RunErr d e s Y := by
  rcases h with ⟨a, b⟩ | ⟨m, xs, a, b, c, g, i, q⟩
  · exact .inl ⟨a.mono f, b⟩
  · exact .inr ⟨m, xs, a, b, c, g, i, f _ q⟩

end DL
namespace DL
open PySem PySem.Spec PyProof.Rows L2 DS

end DL

set_option Elab.async false
set_option linter.all false
set_option maxRecDepth 100000
set_option maxHeartbeats 4000000
namespace DL
open PySem PySem.Spec PyProof.Rows L2 DS
theorem PairErr.mono {d e f : D} {X Y : Ex → Prop} (h : PairErr d e f X) (g : ∀ y, X y → Y y) : PairErr d e f Y := by
  rcases h with ⟨a, b⟩ | ⟨m, xs, a, b, c, i, j, q⟩
  · exact .inl ⟨a.mono g, b⟩
  · exact .inr ⟨m, xs, a, b, c, i, j, g _ q⟩

end DL

set_option Elab.async false
set_option linter.all false
set_option maxRecDepth 100000
set_option maxHeartbeats 4000000
namespace DL
open PySem PySem.Spec PyProof.Rows L2 DS
section
variable {X : Cx} {K : PySem.W.Frag} {M M1 : Mk} {H H1 : Hp} {pos : Pos}

end
end DL

set_option Elab.async false
set_option linter.all false
set_option maxRecDepth 100000
set_option maxHeartbeats 4000000
namespace DL
open PySem PySem.Spec PyProof.Rows L2 DS

def BadH (m : Int) (h : D) : Prop := NoIn 2 m h ∨ ∃ j, h = .int j ∧ 2 ≤ j ∧ j ≤ m ∧ m % j ≠ 0
theorem BadH.nown {m : Int} {h : D} (b : BadH m h) : h.nown = true := by
  rcases b with b | ⟨j, rfl, _⟩
  · exact b.nown
  · rfl
def CPErr (d e h : D) (XR : Ex → Prop) : Prop := (SetErr d e XR ∧ h.nown = true) ∨ ∃ m xs, d = .int m ∧ e = tI xs ∧ Ring m ∧ IsSt m xs ∧ BadH m h ∧ XR ("NoNumber", [])
theorem CPErr.n1 {d e h : D} {XR : Ex → Prop} (q : CPErr d e h XR) : d.nown = true := by
  rcases q with ⟨q, _⟩ | ⟨m, xs, rfl, _⟩
  · exact q.n1
  · rfl
theorem CPErr.n2 {d e h : D} {XR : Ex → Prop} (q : CPErr d e h XR) : e.nown = true := by
  rcases q with ⟨q, _⟩ | ⟨m, xs, _, rfl, _⟩
  · exact q.n2
  · rfl
theorem CPErr.n3 {d e h : D} {XR : Ex → Prop} (q : CPErr d e h XR) : h.nown = true := by
  rcases q with ⟨_, q⟩ | ⟨m, xs, _, _, _, _, q, _⟩
  · exact q
  · exact q.nown
end DL

set_option Elab.async false
set_option linter.all false
set_option maxRecDepth 100000
set_option maxHeartbeats 4000000
namespace DL
open PySem PySem.Spec PyProof.Rows L2 DS

section
variable {X : Cx} {E : XK} {a b : Expr} {pos : Pos}

end
end DL

set_option Elab.async false
set_option linter.all false
set_option maxRecDepth 100000
set_option maxHeartbeats 4000000
namespace DL
open PySem PySem.Spec PyProof.Rows L2 DS

end DL

set_option Elab.async false
set_option linter.all false
set_option maxRecDepth 100000
set_option maxHeartbeats 4000000
namespace DL
open PySem PySem.Spec PyProof.Rows L2 DS

def itemOk : D → Bool
  | .ty _ => false
  | .fn _ => false
  | .exc _ _ => false
  | .own _ => false
  | .gh _ _ _ _ => false
  | _ => true

def Thing (d : D) : Prop := d.nown = true ∧ match d with
  | .tup ds => ds.length ≤ 100 ∧ ds.all itemOk = true
  | d => itemOk d = true
theorem items_some {m : Int} : ∀ (ds : List D) (last : Int), ds.all itemOk = true → ∃ b, setItems m ds last = some b
  | [], _, _ => ⟨_, rfl⟩
  | d :: ds, last, h => by
    rw [List.all_cons, Bool.and_eq_true] at h
    cases d with
    | int x =>
      show ∃ b, (if x ≤ last then some false else if m ≤ x then some false else setItems m ds x) = some b
      split
      · exact ⟨_, rfl⟩
      · split
        · exact ⟨_, rfl⟩
        · exact items_some ds x h.2
    | ty _ => cases h.1
    | fn _ => cases h.1
    | exc _ _ => cases h.1
    | own _ => cases h.1
    | gh _ _ _ _ => cases h.1
    | _ => exact ⟨_, rfl⟩
theorem Thing.set {m : Int} {d : D} (h : Thing d) : ∃ b, isSetB m d = some b := by
  obtain ⟨hn, h⟩ := h
  cases d with
  | tup ds => exact items_some ds (-1) h.2
  | ty _ => cases h
  | fn _ => cases h
  | exc _ _ => cases h
  | own _ => cases h
  | gh _ _ _ _ => cases h
  | _ => exact ⟨_, rfl⟩
end DL

set_option Elab.async false
set_option linter.all false
set_option maxRecDepth 100000
set_option maxHeartbeats 4000000
namespace DL
open PySem PySem.Spec PyProof.Rows L2 DS

def rk : List Int → List Int → Nat
  | _, [] => 0
  | [], _ :: _ => 0
  | p :: l, x :: r => if p = x then rk l r else (subsN l r.length).length + rk l (x :: r)
theorem getD_mem {l : List (List Int)} {n : Nat} (h : n < l.length) : l.getD n [] ∈ l := by
  rw [List.getD_eq_getElem?_getD, List.getElem?_eq_getElem h]
  exact List.getElem_mem h
theorem nth_rk : ∀ (l xs : List Int), xs.Sublist l → rk l xs < (subsN l xs.length).length ∧ (subsN l xs.length).getD (rk l xs) [] = xs
  | [], xs, h => by
    have : xs = [] := by simpa using h
    subst this
    exact ⟨by decide, rfl⟩
  | p :: l, [], h => ⟨by show 0 < 1; decide, rfl⟩
  | p :: l, x :: r, h => by
    by_cases c : p = x
    · subst c
      have hr : r.Sublist l := by simpa using h
      obtain ⟨a, b⟩ := nth_rk l r hr
      have e : rk (p :: l) (p :: r) = rk l r := by show (if p = p then _ else _) = _; rw [if_pos rfl]
      rw [e, List.length_cons]
      exact ⟨by rw [subs_cnt]; omega, by rw [subs_left a, b]⟩
    · have hr : (x :: r).Sublist l := by
        cases h with
        | cons _ h => exact h
        | cons_cons _ h => exact absurd rfl c
      obtain ⟨a, b⟩ := nth_rk l (x :: r) hr
      have e : rk (p :: l) (x :: r) = (subsN l r.length).length + rk l (x :: r) := by show (if p = x then _ else _) = _; rw [if_neg c]
      rw [List.length_cons] at a b
      rw [e, List.length_cons]
      refine ⟨by rw [subs_cnt]; omega, ?_⟩
      rw [subs_right (by omega), Nat.add_sub_cancel_left, b]
theorem st_subR {m : Int} {xs : List Int} (h : IsSt m xs) : xs.Sublist (rngI m) := by
  have : (rngI m).filter (fun j => decide (j ∈ xs)) = xs := st_ext (filter_st _) h fun j j0 j1 => by
    rw [List.mem_filter, mem_rngI]; simp [j0, j1]
  rw [← this]; exact List.filter_sublist
def SmErr (d a : D) (XR : Ex → Prop) : Prop := (NoRg d ∧ a.nown = true ∧ XR ("NoRing", [])) ∨ ∃ m, d = .int m ∧ Ring m ∧ NoIn 0 m a ∧ XR ("NoNumber", [])
theorem SmErr.n1 {d a : D} {XR : Ex → Prop} (h : SmErr d a XR) : d.nown = true := by
  rcases h with ⟨h, _⟩ | ⟨m, rfl, _⟩
  · exact h.nown
  · rfl
theorem SmErr.n2 {d a : D} {XR : Ex → Prop} (h : SmErr d a XR) : a.nown = true := by
  rcases h with ⟨_, h, _⟩ | ⟨m, _, _, h, _⟩
  · exact h
  · exact h.nown
section
variable {X : Cx} {E : XK} {a b : Expr} {pos : Pos}

end
end DL

set_option Elab.async false
set_option linter.all false
set_option maxRecDepth 100000
set_option maxHeartbeats 4000000
namespace DL
open PySem PySem.Spec PyProof.Rows L2 DS


structure OkI (p : PyData) : Prop where
  sh : p.showable = true
  nd : p.hasDict = false
  dp : p.depth ≤ 10
  sz : p.shown.length ≤ 400
theorem okI_all : ∀ (ps : List PyData), (∀ p ∈ ps, OkI p) → PyData.showableAll ps = true ∧ PyData.hasDictAll ps = false ∧ PyData.depthAll ps ≤ 10 ∧ ((PyData.shownAll ps).map (·.length)).sum ≤ 400 * ps.length ∧ (PyData.shownAll ps).length = ps.length
  | [], _ => by simp [PyData.showableAll, PyData.hasDictAll, PyData.depthAll, PyData.shownAll]
  | p :: ps, h => by
    obtain ⟨a, b, c, d, e⟩ := okI_all ps fun q hq => h q (List.mem_cons_of_mem _ hq)
    have hp := h p List.mem_cons_self
    have h3 := hp.sz
    refine ⟨by simp [PyData.showableAll, hp.sh, a], by simp [PyData.hasDictAll, hp.nd, b], ?_, ?_, ?_⟩
    · simp only [PyData.depthAll]
      have := hp.dp
      omega
    · simp only [PyData.shownAll, List.map_cons, List.sum_cons, List.length_cons]
      omega
    · simp only [PyData.shownAll, List.length_cons, e]
theorem okR_tupI {ps : List PyData} (h : ∀ p ∈ ps, OkI p) (l : ps.length ≤ 100) : OkR (.tuple ps) := by
  obtain ⟨a, b, c, d, e⟩ := okI_all ps h
  refine ⟨by simp [PyData.showable, a], by simp [PyData.hasDict, b], by simp only [PyData.depth]; omega, ?_⟩
  have h3 := tupleText_len_le (PyData.shownAll ps)
  show (tupleText _).length ≤ _
  rw [sizeLine_eq]
  omega
theorem okR_lstI {ps : List PyData} (h : ∀ p ∈ ps, OkI p) (l : ps.length ≤ 100) : OkR (.list ps) := by
  obtain ⟨a, b, c, d, e⟩ := okI_all ps h
  refine ⟨by simp [PyData.showable, a], by simp [PyData.hasDict, b], by simp only [PyData.depth]; omega, ?_⟩
  have h3 := listText_len_le (PyData.shownAll ps)
  show (listText _).length ≤ _
  rw [sizeLine_eq]
  omega
theorem okI_int {x : Int} (h : x.natAbs < 10 ^ 40) : OkI (.int x) := by
  have h1 : x.natAbs.log2 < 1920 := by
    by_cases h0 : x.natAbs = 0
    · rw [h0]; decide
    · have h2 : x.natAbs < 2 ^ 140 := Nat.lt_trans h (by decide)
      have := (Nat.log2_lt h0).mpr h2
      omega
  refine ⟨by simp [PyData.showable, h1], by simp [PyData.hasDict], by simp [PyData.depth], ?_⟩
  have : (PyData.shown (.int x)).length ≤ 41 := by
    show (Str.ofString (toString x)).length ≤ 41
    rw [PySem.ofString_length]
    exact int_text_length_le10 (k := 40) (by decide) h
  omega
def RP (d : D) : Prop := d = .dic ∨ ∃ p, d.toP = some p ∧ OkR p
def ShI (ds : List D) : Prop := ∃ ps, D.toPs ds = some ps ∧ ∀ p ∈ ps, OkI p
theorem len_toPs : ∀ {ds : List D} {ps : List PyData}, D.toPs ds = some ps → ps.length = ds.length
  | [], ps, h => by
    have : ps = [] := by simpa [D.toPs] using h.symm
    subst this; rfl
  | a :: as, ps, h => by
    simp only [D.toPs] at h
    cases e : a.toP with
    | none => rw [e] at h; cases h
    | some p =>
      rw [e] at h
      cases e2 : D.toPs as with
      | none => rw [e2] at h; cases h
      | some r =>
        rw [e2] at h
        have h' : p :: r = ps := Option.some.inj h
        subst h'
        rw [List.length_cons, List.length_cons, len_toPs e2]
theorem ShI.tup {ds : List D} (h : ShI ds) (l : ds.length ≤ 100) : RP (.tup ds) := by
  obtain ⟨ps, e, o⟩ := h
  have := len_toPs e
  exact .inr ⟨.tuple ps, by simp [D.toP, e], okR_tupI o (by omega)⟩
theorem ShI.lst {ds : List D} (h : ShI ds) (l : ds.length ≤ 100) : RP (.lst ds) := by
  obtain ⟨ps, e, o⟩ := h
  have := len_toPs e
  exact .inr ⟨.list ps, by simp [D.toP, e], okR_lstI o (by omega)⟩
theorem ShI.one {d : D} {p : PyData} (e : d.toP = some p) (o : OkI p) : ShI [d] := ⟨[p], by simp [D.toPs, e], fun q hq => by rw [List.mem_singleton.mp hq]; exact o⟩
end DL

set_option Elab.async false
set_option linter.all false
set_option maxRecDepth 100000
set_option maxHeartbeats 4000000
namespace L2
open PySem PySem.Spec PyProof.Rows
end L2

set_option Elab.async false
set_option linter.all false
set_option maxRecDepth 100000
set_option maxHeartbeats 4000000
namespace DL
open PySem PySem.Spec PyProof.Rows L2 DS
section
variable {X : Cx} {pos : Pos}

end

end DL

set_option Elab.async false
set_option linter.all false
set_option maxRecDepth 100000
set_option maxHeartbeats 4000000
namespace L2
open PySem PySem.Spec PyProof.Rows
section
variable {X : Cx} {a b e : Expr} {ta tb : TE} {pos : Pos} {rest : List Expr}

end
end L2
namespace DL
open PySem PySem.Spec PyProof.Rows L2 DS
end DL

set_option Elab.async false
set_option linter.all false
set_option maxRecDepth 100000
set_option maxHeartbeats 4000000
namespace DL
open PySem PySem.Spec PyProof.Rows L2 DS
section
variable {X : Cx} {K : PySem.W.Frag} {a b : Expr} {wa wb : DTE} {pos : Pos}

end

def sI (x : Int) : Str := toString x
structure SFact (x : Int) : Prop where
  lo : 1 ≤ (sI x).length
  hi : (sI x).length ≤ 2
  no : 32 ∉ (sI x).cps.toList
  ne : sI x ≠ "none"
  sm : ∀ c ∈ (sI x).cps.toList, c < 128
  ok : PyData.strOk (sI x) = true
theorem join_list2 (c : Nat) (x y : Str) (r : List Str) : (Str.join ⟨#[c]⟩ (x :: y :: r)).cps.toList = x.cps.toList ++ c :: (Str.join ⟨#[c]⟩ (y :: r)).cps.toList := by
  show (x ++ ⟨#[c]⟩ ++ Str.join ⟨#[c]⟩ (y :: r)).cps.toList = _
  rw [Str.cps_append, Str.cps_append, Array.toList_append, Array.toList_append, List.append_assoc]
  rfl
theorem blank : (" " : Str) = ⟨#[32]⟩ := by decide +kernel
def isStr : D → Option Bool
  | .str _ => some true
  | .ty _ => none
  | .fn _ => none
  | .exc _ _ => none
  | .gh _ _ _ _ => none
  | _ => some false
end DL

set_option Elab.async false
set_option linter.all false
set_option maxRecDepth 100000
set_option maxHeartbeats 4000000
namespace PySem.W
open PySem PySem.Calls PyProof.Rows

def KasT.at {α : Type} (b : Nat → Nat → Bool) (P : α → Prop) : KasT α → Prop
  | .ret a => P a
  | .ask i j k => (k (b i j)).at b P
section
variable {b : Nat → Nat → Bool}
theorem KasT.at_bind {α β : Type} {P : β → Prop} {f : α → KasT β} : ∀ (t : KasT α), (t.bind f).at b P = t.at b fun a => (f a).at b P
  | .ret _ => rfl
  | .ask i j k => KasT.at_bind (k (b i j))
theorem KasT.at_mono {α : Type} {P Q : α → Prop} (h : ∀ a, P a → Q a) : ∀ (t : KasT α), t.at b P → t.at b Q
  | .ret a, q => h a q
  | .ask i j k, q => KasT.at_mono h (k (b i j)) q

theorem KasT.at_wp {α : Type} {N : Nat} {P P' : α → Prop} {cmp : Nat → Nat → (Bool → Shared → Prop) → Shared → Prop} {s : Shared} (hc : ∀ i j C, i < N → j < N → C (b i j) s → cmp i j C s) {Q : α → Shared → Prop} (hq : ∀ a, P a → P' a → Q a s) : ∀ (t : KasT α), t.ends N P → t.at b P' → t.kasWp cmp Q s
  | .ret a, h, h' => hq a h h'
  | .ask i j k, h, h' => hc i j _ h.1 h.2.1 (at_wp hc hq (k (b i j)) (h.2.2 _) h')
end
section
variable {key : Nat → Int} {N : Nat} {p : Array Nat}
def kb (key : Nat → Int) (i j : Nat) : Bool := decide (key i < key j)
abbrev KP (key : Nat → Int) (p : Array Nat) (i : Nat) : Int := key (p.getD i 0)
def Up (key : Nat → Int) (p : Array Nat) (n : Nat) : Prop := ∀ i j, i < j → j < n → KP key p i < KP key p j
def Dn (key : Nat → Int) (p : Array Nat) (n : Nat) : Prop := ∀ i j, i < j → j < n → KP key p j < KP key p i
def Apart (key : Nat → Int) (N : Nat) (p : Array Nat) : Prop := ∀ i j, i < N → j < N → i ≠ j → KP key p i ≠ KP key p j
theorem getD_q (p : Array Nat) (i : Nat) : p.getD i 0 = (p[i]?).getD 0 := by
  by_cases h : i < p.size <;> simp [Array.getD, h]
theorem pm_size (h : PmR N p) : p.size = N := by
  have := h.2.size_eq
  simpa using this
theorem pm_apart (inj : ∀ i j, i < N → j < N → key i = key j → i = j) (h : PmR N p) : Apart key N p := by
  intro i j hi hj hne e
  have hz := pm_size h
  have e1 := inj _ _ (h.lt i) (h.lt j) e
  have nd : p.toList.Nodup := by
    have hp : p.toList.Perm (List.range N) := by
      have := Array.perm_iff_toList_perm.mp h.2
      simpa using this
    exact hp.nodup_iff.mpr List.nodup_range
  have gi : p.getD i 0 = p.toList[i]'(by simpa [hz] using hi) := by simp [Array.getD, hz, hi]
  have gj : p.getD j 0 = p.toList[j]'(by simpa [hz] using hj) := by simp [Array.getD, hz, hj]
  rw [gi, gj] at e1
  have pw := List.pairwise_iff_getElem.mp nd
  rcases Nat.lt_or_gt_of_ne hne with q | q
  · exact pw i j _ _ q e1
  · exact pw j i _ _ q e1.symm
theorem rev_at (hn : n ≤ p.size) (i : Nat) : (kas_rev p 0 n).getD i 0 = if i < n then p.getD (n - 1 - i) 0 else p.getD i 0 := by
  rw [getD_q, getD_q, getD_q]
  show ((mirror p 0 n ((n - 0) / 2))[i]?).getD 0 = _
  rw [getElem?_mirror_all hn]
  by_cases h : i < n
  · rw [if_pos ⟨Nat.zero_le _, h⟩, if_pos h, show 0 + n - 1 - i = n - 1 - i by omega]
  · rw [if_neg (fun z => h z.2), if_neg h]
theorem bub_at {k l : Nat} (hk : k < p.size) (hl : l ≤ k) (i : Nat) : (bubble p k (k - l)).getD i 0 = if i = l then p.getD k 0 else if l < i ∧ i ≤ k then p.getD (i - 1) 0 else p.getD i 0 := by
  rw [getD_q, getD_q, getD_q, getD_q, getElem?_bubble hk _ (by omega), show k - (k - l) = l by omega]
  split
  · rfl
  · split <;> rfl
theorem asc_at : ∀ (f n : Nat), 1 ≤ n → n + f ≤ N → Apart key N p → Up key p n → (kas_asc p f n).at (kb key) fun m => n ≤ m ∧ m ≤ n + f ∧ Up key p m ∧ (m < n + f → KP key p m < KP key p (m - 1))
  | 0, n, _, _, _, u => ⟨Nat.le_refl _, by omega, u, fun h => by omega⟩
  | f + 1, n, n1, hN, ap, u => by
    show (if kb key (p.getD n 0) (p.getD (n - 1) 0) = true then KasT.ret n else kas_asc p f (n + 1)).at (kb key) _
    by_cases c : KP key p n < KP key p (n - 1)
    · rw [show kb key (p.getD n 0) (p.getD (n - 1) 0) = true from decide_eq_true c, if_pos rfl]
      exact ⟨Nat.le_refl _, by omega, u, fun _ => c⟩
    · rw [show kb key (p.getD n 0) (p.getD (n - 1) 0) = false from decide_eq_false c, if_neg (by decide)]
      have ne := ap n (n - 1) (by omega) (by omega) (by omega)
      have u' : Up key p (n + 1) := fun i j hij hj => by
        by_cases q : j < n
        · exact u i j hij q
        · obtain rfl : j = n := by omega
          by_cases r : i = j - 1
          · subst r; omega
          · have := u i (j - 1) (by omega) (by omega)
            omega
      refine KasT.at_mono (fun m h => ⟨by omega, by omega, h.2.2.1, fun q => h.2.2.2 (by omega)⟩) _ (asc_at f (n + 1) (by omega) (by omega) ap u')
theorem desc_at : ∀ (f n : Nat), 1 ≤ n → n + f ≤ N → Apart key N p → Dn key p n → (kas_desc f p n 0).at (kb key) fun r => r.1 = p ∧ r.2.2 = 0 ∧ Dn key p r.2.1 ∧ n ≤ r.2.1 ∧ r.2.1 ≤ n + f
  | 0, n, _, _, _, u => ⟨rfl, rfl, u, Nat.le_refl _, Nat.le_refl _⟩
  | f + 1, n, n1, hN, ap, u => by
    show (if kb key (p.getD n 0) (p.getD (n - 1) 0) = true then (if 0 > 0 then _ else kas_desc f p (n + 1) 0) else KasT.ask (p.getD (n - 1) 0) (p.getD n 0) fun d => if d = true then .ret (p, n, 0) else kas_desc f p (n + 1) (0 + 1)).at (kb key) _
    by_cases c : KP key p n < KP key p (n - 1)
    · rw [show kb key (p.getD n 0) (p.getD (n - 1) 0) = true from decide_eq_true c, if_pos rfl, if_neg (by omega)]
      have u' : Dn key p (n + 1) := fun i j hij hj => by
        by_cases q : j < n
        · exact u i j hij q
        · obtain rfl : j = n := by omega
          by_cases r : i = j - 1
          · subst r; omega
          · have := u i (j - 1) (by omega) (by omega)
            omega
      exact KasT.at_mono (fun r h => ⟨h.1, h.2.1, h.2.2.1, by omega, by omega⟩) _ (desc_at f (n + 1) (by omega) (by omega) ap u')
    · rw [show kb key (p.getD n 0) (p.getD (n - 1) 0) = false from decide_eq_false c, if_neg (by decide)]
      have ne := ap n (n - 1) (by omega) (by omega) (by omega)
      have c2 : KP key p (n - 1) < KP key p n := by omega
      show (if kb key (p.getD (n - 1) 0) (p.getD n 0) = true then KasT.ret (p, n, 0) else kas_desc f p (n + 1) (0 + 1)).at (kb key) _
      rw [show kb key (p.getD (n - 1) 0) (p.getD n 0) = true from decide_eq_true c2, if_pos rfl]
      exact ⟨rfl, rfl, u, Nat.le_refl _, Nat.le_add_right _ _⟩
theorem rev_up (hn : n ≤ p.size) (d : Dn key p n) : Up key (kas_rev p 0 n) n := fun i j hij hj => by
  show key ((kas_rev p 0 n).getD i 0) < key ((kas_rev p 0 n).getD j 0)
  rw [rev_at hn, rev_at hn, if_pos (by omega), if_pos hj]
  exact d (n - 1 - j) (n - 1 - i) (by omega) (by omega)
theorem tail3_at {n : Nat} (inj : ∀ i j, i < N → j < N → key i = key j → i = j) (h : PmR N p) (n1 : 1 ≤ n) (hn : n ≤ N) (d : Dn key p n) : (kas_tail3 n N p).at (kb key) fun r => PmR N r.2 ∧ 1 ≤ r.1 ∧ r.1 ≤ N ∧ Up key r.2 r.1 := by
  unfold kas_tail3
  rw [KasT.at_bind]
  have hr : PmR N (kas_rev p 0 n) := h.rev _ _
  exact KasT.at_mono (fun m q => ⟨hr, by omega, by omega, q.2.2.1⟩) _ (asc_at (N - n) n n1 (by omega) (pm_apart inj hr) (rev_up (by rw [pm_size h]; exact hn) d))
theorem kcount_at (inj : ∀ i j, i < N → j < N → key i = key j → i = j) (h : PmR N p) (N1 : 1 ≤ N) : (kas_count N p).at (kb key) fun r => PmR N r.2 ∧ 1 ≤ r.1 ∧ r.1 ≤ N ∧ Up key r.2 r.1 := by
  have ap := pm_apart inj h
  unfold kas_count
  rw [KasT.at_bind]
  refine KasT.at_mono (fun n q => ?_) _ (asc_at (p := p) (N - 1) 1 (Nat.le_refl _) (by omega) ap (fun i j _ _ => by omega))
  obtain ⟨q1, q2, q3, q4⟩ := q
  by_cases c : n = N
  · rw [if_pos (by simpa using c)]
    exact ⟨h, q1, by omega, q3⟩
  · rw [if_neg (by simpa using c)]
    by_cases c1 : n > 1
    · rw [if_pos c1]
      have lt := q3 0 (n - 1) (by omega) (by omega)
      show (if kb key (p.getD 0 0) (p.getD (n - 1) 0) = true then KasT.ret (n, p) else _).at (kb key) _
      rw [show kb key (p.getD 0 0) (p.getD (n - 1) 0) = true from decide_eq_true lt, if_pos rfl]
      exact ⟨h, q1, by omega, q3⟩
    · rw [if_neg c1]
      obtain rfl : n = 1 := by omega
      have lt := q4 (by omega)
      unfold kas_descPart
      rw [KasT.at_bind]
      have d2 : Dn key p 2 := fun i j hij hj => by
        obtain rfl : i = 0 := by omega
        obtain rfl : j = 1 := by omega
        exact lt
      refine KasT.at_mono (fun r q => ?_) _ (desc_at (p := p) (N - (1 + 1)) (1 + 1) (by omega) (by omega) ap d2)
      obtain ⟨r1, r2, r3, r4, r5⟩ := q
      rw [if_neg (by omega), r1]
      exact tail3_at inj h (by omega) (by omega) r3
theorem place_at {k : Nat} : ∀ (f l r : Nat), r - l ≤ f → r ≤ k → l ≤ r → Up key p k → (∀ i, i < k → KP key p i ≠ KP key p k) → (∀ i, i < l → KP key p i < KP key p k) → (∀ i, r ≤ i → i < k → KP key p k < KP key p i) →
    (kas_place p k f l r).at (kb key) fun m => m ≤ k ∧ (∀ i, i < m → KP key p i < KP key p k) ∧ ∀ i, m ≤ i → i < k → KP key p k < KP key p i
  | 0, l, r, hf, hr, hlr, _, _, h1, h2 => ⟨by omega, h1, fun i hi hk => h2 i (by omega) hk⟩
  | f + 1, l, r, hf, hr, hlr, u, ne, h1, h2 => by
    unfold kas_place
    by_cases c : l ≥ r
    · rw [if_pos c]
      exact ⟨by omega, h1, fun i hi hk => h2 i (by omega) hk⟩
    · rw [if_neg c]
      show (if kb key (p.getD k 0) (p.getD ((l + r) / 2) 0) = true then kas_place p k f l ((l + r) / 2) else kas_place p k f ((l + r) / 2 + 1) r).at (kb key) _
      have m1 : (l + r) / 2 < r := by omega
      have m0 : l ≤ (l + r) / 2 := by omega
      generalize (l + r) / 2 = m at m0 m1
      by_cases q : KP key p k < KP key p m
      · rw [show kb key (p.getD k 0) (p.getD m 0) = true from decide_eq_true q, if_pos rfl]
        refine place_at f l m (by omega) (by omega) m0 u ne h1 fun i hi hk => ?_
        by_cases e : i = m
        · subst e; exact q
        · have := u m i (by omega) hk
          omega
      · rw [show kb key (p.getD k 0) (p.getD m 0) = false from decide_eq_false q, if_neg (by decide)]
        have nm := ne m (by omega)
        refine place_at f (m + 1) r (by omega) hr (by omega) u ne (fun i hi => ?_) h2
        by_cases e : i = m
        · subst e; omega
        · have := u i m (by omega) (by omega)
          omega
theorem bin_at (inj : ∀ i j, i < N → j < N → key i = key j → i = j) : ∀ (f : Nat) (p : Array Nat) (k : Nat), PmR N p → k + f = N → Up key p k → (kas_bin f p k).at (kb key) fun r => Up key r N
  | 0, p, k, _, hk, u => by
    have : k = N := by omega
    subst this
    exact u
  | f + 1, p, k, h, hk, u => by
    have ap := pm_apart inj h
    have hz := pm_size h
    unfold kas_bin
    rw [KasT.at_bind]
    refine KasT.at_mono (fun l q => ?_) _ (place_at (p := p) (k := k) k 0 k (by omega) (Nat.le_refl _) (Nat.zero_le _) u (fun i hi => ap i k (by omega) (by omega) (by omega)) (fun i hi => by omega) (fun i hi hk => by omega))
    obtain ⟨hl, h1, h2⟩ := q
    refine bin_at inj f _ (k + 1) ⟨h.1, (bubble_perm _ _ _).trans h.2⟩ (by omega) fun i j hij hj => ?_
    show key ((bubble p k (k - l)).getD i 0) < key ((bubble p k (k - l)).getD j 0)
    rw [bub_at (by omega) hl, bub_at (by omega) hl]
    by_cases ci : i = l
    · rw [if_pos ci, if_neg (by omega), if_pos (by omega)]
      exact h2 (j - 1) (by omega) (by omega)
    · rw [if_neg ci]
      by_cases cj : j = l
      · rw [if_pos cj, if_neg (by omega)]
        exact h1 i (by omega)
      · rw [if_neg cj]
        by_cases di : l < i ∧ i ≤ k
        · rw [if_pos di, if_pos (by omega)]
          exact u (i - 1) (j - 1) (by omega) (by omega)
        · rw [if_neg di]
          by_cases dj : l < j ∧ j ≤ k
          · rw [if_pos dj]
            by_cases e : i = j - 1
            · omega
            · exact u i (j - 1) (by omega) (by omega)
          · rw [if_neg dj]
            exact u i j hij (by omega)

theorem sort_at (N1 : 1 ≤ N) (inj : ∀ i j, i < N → j < N → key i = key j → i = j) : (kas_sort N).at (kb key) fun r => Up key r N := by
  unfold kas_sort
  rw [KasT.at_bind]
  refine KasT.at_mono (fun r q => ?_) _ (kcount_at inj ⟨by omega, Array.Perm.refl _⟩ N1)
  obtain ⟨q1, q2, q3, q4⟩ := q
  by_cases c : r.1 < N
  · rw [if_pos c]
    have e : max r.1 1 = r.1 := by omega
    rw [e]
    exact bin_at inj _ _ _ q1 (by omega) q4
  · rw [if_neg c]
    have : r.1 = N := by omega
    rw [this] at q4
    exact q4
end
end PySem.W

set_option Elab.async false
set_option linter.all false
set_option maxRecDepth 100000
set_option maxHeartbeats 4000000
namespace HT
open PySem PyProof.Rows

end HT

set_option Elab.async false
set_option linter.all false
set_option maxRecDepth 100000
set_option maxHeartbeats 4000000
namespace DL
open PySem PySem.Spec PyProof.Rows L2 DS

abbrev PI2 := List Int × List Int
def pairD (p : PI2) : D := .tup [tI p.1, tI p.2]
def keyD (n : Int) (p : PI2) : D := .tup [.int n, pairD p]

structure LamScope1 (scope : Scope) (pn : Str) : Prop where
  kind : scope.kind = .function
  co : scope.isCoroutine = false
  gen : scope.isGenerator = false
  nocell : ∀ x ∈ scope.names, x.2 ≠ .cell
  loc : ∀ x ∈ scope.names, x.2 = .local → x.1 = pn
  par : scope.names.lookup pn = some .local
end DL

set_option Elab.async false
set_option linter.all false
set_option maxRecDepth 100000
set_option maxHeartbeats 4000000
namespace DL
open PySem PySem.Spec PyProof.Rows L2 DS
theorem CodeAt.ext {M M' : Mk} {H H' : Hp} {q : Str} {cv : Value} (x : CodeAt M H q cv) (e : Ext M H M' H') : CodeAt M' H' q cv := x.step fun c o h m => by
  obtain ⟨a, b⟩ := e.keep c o h (by rw [m]; decide)
  exact ⟨a, b.trans m⟩
end DL

set_option Elab.async false
set_option linter.all false
set_option maxRecDepth 100000
set_option maxHeartbeats 4000000
namespace DL
open PySem PySem.Spec PyProof.Rows L2 DS


end DL

set_option Elab.async false
set_option linter.all false
set_option maxRecDepth 100000
set_option maxHeartbeats 4000000
namespace DL
open PySem PySem.Spec PyProof.Rows L2 DS

def sumL (m : Int) (p : PI2) : Int := ((sumsF m p.1 p.2).length : Int)
theorem st_subs {m : Int} {xs : List Int} (h : IsSt m xs) : xs ∈ subsN (rngI m) xs.length := by
  obtain ⟨h1, h2⟩ := nth_rk (rngI m) xs (st_subR h)
  have := DL.getD_mem h1
  rwa [h2] at this
end DL

set_option Elab.async false
set_option linter.all false
set_option maxRecDepth 100000
set_option maxHeartbeats 4000000
namespace DL
open PySem PySem.Spec PyProof.Rows L2 DS

end DL

set_option Elab.async false
set_option linter.all false
set_option maxRecDepth 100000
set_option maxHeartbeats 4000000
namespace DL
open PySem PySem.Spec PyProof.Rows L2 DS

theorem Least.st {m : Int} {xs ns : List Int} (hm : Ring m) (h : Least m xs ns) : IsSt m ns := by
  obtain ⟨k, rfl⟩ := (mem_movs hm).mp h.mem
  exact movF_st hm
theorem Least.len {m : Int} {xs ns : List Int} (hm : Ring m) (hx : IsSt m xs) (h : Least m xs ns) : ns.length = xs.length := by
  obtain ⟨k, rfl⟩ := (mem_movs hm).mp h.mem
  exact mov_len hm hx
theorem Least.self {m : Int} {xs ns : List Int} (hm : Ring m) (h : Least m xs ns) : isLeast m ns = true := by
  have hs := h.st hm
  have l : Least m ns ns := by
    refine ⟨(mem_movs hm).mpr ⟨0, (mov_zero hm hs).symm⟩, fun ms q => h.least ms ?_⟩
    obtain ⟨k, rfl⟩ := (mem_movs hm).mp h.mem
    exact movs_sub hm q
  rw [← least_dec hm hs l]
  simp
theorem Least.back {m : Int} {xs ns : List Int} (hm : Ring m) (hx : IsSt m xs) (h : Least m xs ns) : ∃ k ∈ rngI m, movF m ns k = xs := by
  obtain ⟨k, rfl⟩ := (mem_movs hm).mp h.mem
  refine ⟨(-k) % m, mem_rngI.mpr ⟨Int.emod_nonneg _ (by have := hm.lo; omega), Int.emod_lt_of_pos _ hm.pos⟩, ?_⟩
  rw [mov_mod hm, mov_mov hm, show k + -k = 0 by omega, mov_zero hm hx]
theorem Least.sums {m : Int} {xs ns ys : List Int} (hm : Ring m) (h : Least m xs ns) : (sumsF m ns ys).length = (sumsF m xs ys).length := by
  obtain ⟨k, rfl⟩ := (mem_movs hm).mp h.mem
  rw [sums_mov hm, mov_len hm (sums_st hm)]
theorem Least.kind {m : Int} {xs ns : List Int} (hm : Ring m) (hx : IsSt m xs) (h : Least m xs ns) : ns ∈ (subsN (rngI m) xs.length).filter (isLeast m) := by
  refine List.mem_filter.mpr ⟨?_, h.self hm⟩
  have := st_subs (h.st hm)
  rwa [h.len hm hx] at this

end DL

set_option Elab.async false
set_option linter.all false
set_option maxRecDepth 100000
set_option maxHeartbeats 4000000
namespace DL
open PySem PySem.Spec PyProof.Rows L2 DS

end DL

set_option Elab.async false
set_option linter.all false
set_option maxRecDepth 100000
set_option maxHeartbeats 4000000
namespace DL
open PySem PySem.Spec PyProof.Rows L2 DS
end DL

set_option Elab.async false
set_option linter.all false
set_option maxRecDepth 100000
set_option maxHeartbeats 4000000
namespace PyProof.Rows
open PySem PySem.Calls PySem.W
section
variable {prog : Program} {w : World} {A : Around} {E : Value → Shared → Prop} {s : Shared}
theorem lex_kat {Q : Bool → Shared → Prop} {fin : Bool} : ∀ (vs ws : List Value) (ns ms : List Int) (i : Nat), IntsAre vs ns → IntsAre ws ms → (∀ (ns' ms' : List Int), ns'.length + ms.length = ms'.length + ns.length → ns' = [] ∨ ms' = [] → HT.lexLt ns' ms' = fin) → Q (HT.lexLt ns ms) s → KatLex prog w A true fin Q (vs.zip ws) i s
  | [], ws, [], ms, i, .nil, hw, hf, hq => by
    rw [List.zip_nil_left]
    refine kat_nil ?_
    have := hf [] ms (by simp) (.inl rfl)
    rw [← this]; exact hq
  | _ :: vs, [], _ :: ns, [], i, .cons a t hv, .nil, hf, hq => by
    rw [List.zip_nil_right]
    refine kat_nil ?_
    have := hf (a :: ns) [] (by simp) (.inr rfl)
    rw [← this]; exact hq
  | _ :: vs, _ :: ws, _ :: ns, _ :: ms, i, .cons a t hv, .cons c u hw, hf, hq => by
    rw [List.zip_cons_cons]
    rw [HT.lexLt_cons] at hq
    refine kat_cons (SeqAt.EqAt.int_int a t c u prog w _ _ ?_)
    by_cases e : a = c
    · rw [if_pos e] at hq
      rw [show (a == c) = true from by simpa using e]
      exact kat_yes (lex_kat vs ws ns ms (i + 1) hv hw (fun ns' ms' h1 h2 => hf ns' ms' (by simp only [List.length_cons]; omega) h2) hq)
    · rw [if_neg e] at hq
      rw [show (a == c) = false from by simpa using e]
      refine kat_no ?_
      cases q : (true && i == 0) with
      | true => exact oneLt_int hq
      | false => exact kat_one _ _ (HT.rcLt_int A s a t c u prog w _ _ hq)
theorem two_lt_tups {x y : Addr} {xs ys : Array Value} {ns ms : List Int} {Q : Bool → Shared → Prop} (hx : IsTup s.heap x xs) (hy : IsTup s.heap y ys) (hi : IntsAre xs.toList ns) (hj : IntsAre ys.toList ms) (h : Q (HT.lexLt ns ms) s) :
    wpAny (model prog w) A (keyLt' (tuples' true) (.ref x) (.ref y)) Q E s := by
  obtain ⟨o, ho, hc, n, hd⟩ := id hx
  obtain ⟨o2, ho2, hc2, n2, hd2⟩ := id hy
  refine kat_lt ho hd ho2 hd2 (lex_kat _ _ ns ms 0 hi hj (fun ns' ms' h1 h2 => ?_) h)
  have z1 : xs.size = ns.length := by rw [← hi.length]; simp
  have z2 : ys.size = ms.length := by rw [← hj.length]; simp
  rcases h2 with rfl | rfl
  · cases ms' with
    | nil => simp at h1; rw [HT.lexLt_nil_nil]; exact (decide_eq_false (by omega)).symm
    | cons => simp at h1; rw [HT.lexLt_nil_cons]; exact (decide_eq_true (by omega)).symm
  · cases ns' with
    | nil => simp at h1; rw [HT.lexLt_nil_nil]; exact (decide_eq_false (by omega)).symm
    | cons => simp at h1; rw [HT.lexLt_cons_nil]; exact (decide_eq_false (by omega)).symm

theorem list_sort_keys {a : Addr} {vs : List Value} {n : Nat} {P : PySem.Fin → Shared → Prop} (ho : s.heap.get? a = some (seqObj "list" vs.toArray n)) {nss : List (List Int)} (h2 : 2 ≤ vs.length) (h64 : vs.length < 64) (hl : nss.length = vs.length)
    (hk : ∀ i v, vs[i]? = some v → ∃ (p : Addr) (xs : Array Value), v = .ref p ∧ p ≠ a ∧ IsTup s.heap p xs ∧ IntsAre xs.toList (nss.getD i [])) (hne : ∀ ns ∈ nss, ns ≠ []) (inj : ∀ i j, i < vs.length → j < vs.length → (nss.getD i []).headD 0 = (nss.getD j []).headD 0 → i = j)
    (h : ∀ p : Array Nat, PmR vs.length p → Up (fun i => (nss.getD i []).headD 0) p vs.length → P (.done (.ret .none)) { s with heap := sortedHeap s.heap a vs (p.toList.map fun i => vs.getD i Value.none).toArray }) :
    wpAny (model prog w) A (Builtin.«list.sort» ⟨[.ref a], []⟩) P E s := by
  rw [list_sort_plain]
  have ha : a < s.heap.objs.size := Heap.lt_size ho
  refine wpAny_bind (listItems_at ho rfl ?_)
  refine wpAny_bind (listUpdate_at ho rfl ?_ (by rw [List.size_toArray, sizeLine_eq]; omega) (Nat.zero_le _))
  obtain ⟨e1, ho1⟩ : ∃ e1, (s.heap.update a (Obj.mapSeq fun _ => (#[] : Array Value))).get? a = some (seqObj "list" #[] e1) := ⟨_, get?_update_seq ho fun _ => #[]⟩
  refine wpAny_bind (seqEpoch_at ho1 rfl ?_)
  refine wpAny_bind (wpAny_newTuple ?_ (by show vs.length ≤ _; rw [sizeLine_eq]; omega))
  refine wpAny_bind (wpAny_newList ?_ (Nat.zero_le _))
  refine wpAny_holding ?_
  have ho6 : (((s.heap.update a (Obj.mapSeq fun _ => (#[] : Array Value))).push (seqObj "tuple" vs.toArray 0)).push (seqObj "list" #[] 0)).get? a = some (seqObj "list" #[] e1) := by
    rw [Heap.get?_push_ne _ _ _ (by rw [size_push', Heap.size_update]; exact Nat.ne_of_lt (Nat.lt_succ_of_lt ha)), Heap.get?_push_ne _ _ _ (by rw [Heap.size_update]; exact Nat.ne_of_lt ha)]
    exact ho1
  have keep : ∀ {b : Addr} {xs : Array Value}, b ≠ a → IsTup s.heap b xs → IsTup (((s.heap.update a (Obj.mapSeq fun _ => (#[] : Array Value))).push (seqObj "tuple" vs.toArray 0)).push (seqObj "list" #[] 0)) b xs := fun {b xs} hb ⟨o, e, r⟩ =>
    ⟨o, Heap.get?_push_of_some _ (Heap.get?_push_of_some _ ((Heap.get?_update_other _ _ (Ne.symm hb)).trans e)), r⟩
  show wpAny (model prog w) A _ P E { s with heap := ((s.heap.update a (Obj.mapSeq fun _ => (#[] : Array Value))).push (seqObj "tuple" vs.toArray 0)).push (seqObj "list" #[] 0) }
  dsimp only
  have hn2 : ¬ vs.toArray.size < 2 := by rw [List.size_toArray]; omega
  rw [if_neg hn2, if_neg hn2]
  have fst : ∀ (us : List Value) (ms : List (List Int)), us.length = ms.length → (∀ i v, us[i]? = some v → ∃ (p : Addr) (xs : Array Value), v = .ref p ∧ p ≠ a ∧ IsTup s.heap p xs ∧ IntsAre xs.toList (ms.getD i [])) → (∀ ns ∈ ms, ns ≠ []) → ∃ fs : List Value, KatTups (((s.heap.update a (Obj.mapSeq fun _ => (#[] : Array Value))).push (seqObj "tuple" vs.toArray 0)).push (seqObj "list" #[] 0)) us fs ∧ fs.length = us.length ∧ ∀ v ∈ fs, ∃ n t, v = Value.int n t := by
    intro us
    induction us with
    | nil => intro ms hl _ _; exact ⟨[], trivial, rfl, fun _ h => nomatch h⟩
    | cons v us ih =>
      intro ms hl hk hne
      cases ms with
      | nil => simp at hl
      | cons n0 ms =>
        obtain ⟨fs, k1, k2, k3⟩ := ih ms (by simpa using hl) (fun i v h => by have := hk (i + 1) v (by simpa using h); simpa using this) fun ns hn => hne ns (.tail _ hn)
        obtain ⟨p, xs, rfl, hp, ht, hi⟩ := hk 0 v rfl
        obtain ⟨o, q1, q2, m, q3⟩ := keep hp ht
        have hi : IntsAre xs.toList n0 := hi
        have hn0 := hne n0 (.head _)
        cases n0 with
        | nil => exact absurd rfl hn0
        | cons c n0 =>
          have : ∃ t, xs[0]? = some (.int c t) := by
            obtain ⟨t, ht⟩ := hi.get 0 c rfl
            exact ⟨t, by simpa using ht⟩
          obtain ⟨t, ht0⟩ := this
          exact ⟨.int c t :: fs, KatTups.cons q1 q2 q3 ht0 k1, by simp [k2], fun v hv => by
            rcases List.mem_cons.mp hv with rfl | hv
            · exact ⟨c, t, rfl⟩
            · exact k3 v hv⟩
  obtain ⟨fs, k1, k2, k3⟩ := fst vs nss hl.symm hk hne
  have kind : wpAny (model prog w) A (keyKind' vs.toArray) (fun κ s' => κ = tuples' true ∧ s' = { s with heap := ((s.heap.update a (Obj.mapSeq fun _ => (#[] : Array Value))).push (seqObj "tuple" vs.toArray 0)).push (seqObj "list" #[] 0) }) E
      { s with heap := ((s.heap.update a (Obj.mapSeq fun _ => (#[] : Array Value))).push (seqObj "tuple" vs.toArray 0)).push (seqObj "list" #[] 0) } := by
    refine kat_kind (T := .type "int") k1 (by omega) (fun v hv => ?_) rfl ⟨rfl, rfl⟩
    obtain ⟨n, t, rfl⟩ := k3 v hv
    exact .now
  refine wpAny_bind (wpAny_mono kind ?_ fun _ _ x => x)
  rintro κ s0 ⟨rfl, rfl⟩
  have run := KasT.at_wp (b := kb fun i => (nss.getD i []).headD 0) (cmp := kas_ask prog w A (tuples' true) vs) (s := { s with heap := ((s.heap.update a (Obj.mapSeq fun _ => (#[] : Array Value))).push (seqObj "tuple" vs.toArray 0)).push (seqObj "list" #[] 0) })
    (Q := fun (r : Array Nat) s' => (PmR vs.length r ∧ Up (fun i => (nss.getD i []).headD 0) r vs.length) ∧ s' = { s with heap := ((s.heap.update a (Obj.mapSeq fun _ => (#[] : Array Value))).push (seqObj "tuple" vs.toArray 0)).push (seqObj "list" #[] 0) }) (fun i j C hi hj hC => ?_) (fun r hr hr' => ⟨⟨hr, hr'⟩, rfl⟩) _ (sort_pm (N := vs.length) (by omega)) (sort_at (by omega) inj)
  case refine_1 =>
    obtain ⟨p, xs, ep, hp, tp, ip⟩ := hk i vs[i] (List.getElem?_eq_getElem hi)
    obtain ⟨q, ys, eq, hq, tq, iq⟩ := hk j vs[j] (List.getElem?_eq_getElem hj)
    unfold kas_ask
    rw [show vs.getD i Value.none = .ref p by rw [List.getD_eq_getElem?_getD, List.getElem?_eq_getElem hi]; exact ep, show vs.getD j Value.none = .ref q by rw [List.getD_eq_getElem?_getD, List.getElem?_eq_getElem hj]; exact eq]
    refine two_lt_tups (keep hp tp) (keep hq tq) ip iq ?_
    have e : HT.lexLt (nss.getD i []) (nss.getD j []) = kb (fun i => (nss.getD i []).headD 0) i j := by
      unfold kb
      by_cases c : i = j
      · subst c
        rw [L2.lexLt_irr]
        exact (decide_eq_false (by omega)).symm
      · have ni : nss.getD i [] ≠ [] := hne _ (by rw [List.getD_eq_getElem?_getD, List.getElem?_eq_getElem (by omega)]; exact List.getElem_mem _)
        have nj : nss.getD j [] ≠ [] := hne _ (by rw [List.getD_eq_getElem?_getD, List.getElem?_eq_getElem (by omega)]; exact List.getElem_mem _)
        have ne : (nss.getD i []).headD 0 ≠ (nss.getD j []).headD 0 := fun z => c (inj i j hi hj z)
        show _ = decide ((nss.getD i []).headD 0 < (nss.getD j []).headD 0)
        generalize nss.getD i [] = x at ni ne ⊢
        generalize nss.getD j [] = y at nj ne ⊢
        cases x with
        | nil => exact absurd rfl ni
        | cons x0 x =>
          cases y with
          | nil => exact absurd rfl nj
          | cons y0 y =>
            rw [HT.lexLt_cons, if_neg (show ¬ x0 = y0 from ne)]
            rfl
    rw [e]; exact hC
  refine wpAny_bind (wpAny_mono (kat_run (Q := fun st' s' => ∃ p : Array Nat, p.size = vs.length ∧ arrOf st' = p.map (kas_item (vs.toArray.zip vs.toArray)) ∧ failedOf st' = none ∧ (PmR vs.length p ∧ Up (fun i => (nss.getD i []).headD 0) p vs.length) ∧ s' = { s with heap := ((s.heap.update a (Obj.mapSeq fun _ => (#[] : Array Value))).push (seqObj "tuple" vs.toArray 0)).push (seqObj "list" #[] 0) })
    rfl h2 h64 (fun p' st' s' a1 a2 a3 a4 => ⟨p', a1, a2, a3, a4⟩) run) ?_ fun _ _ e => e)
  rintro ⟨⟨⟩, st'⟩ s' ⟨p, hp, har, hf, pm, rfl⟩
  dsimp only
  have hout := kat_snds rfl har
  have hsz : (List.toArray (p.toList.map fun i => vs.getD i Value.none)).size = vs.length := by rw [List.size_toArray, List.length_map, Array.length_toList, hp]
  rw [hout]
  refine wpAny_bind (seqEpoch_at ho6 rfl ?_)
  refine wpAny_bind (listUpdate_at ho6 rfl ?_ (Nat.zero_le _) (Nat.le_trans (Nat.le_of_eq hsz) (by rw [sizeLine_eq]; omega)))
  rw [hf]
  simp only [bne_self_eq_false, Bool.false_eq_true, if_false]
  exact wpAny_pure (h p pm.1 pm.2)
theorem sorted_keys {l : Addr} {vs : List Value} {Q : Value → Shared → Prop} (hl : s.heap.IsList l vs.toArray) {nss : List (List Int)} (h2 : 2 ≤ vs.length) (h64 : vs.length < 64) (hl' : nss.length = vs.length)
    (hk : ∀ i v, vs[i]? = some v → ∃ (p : Addr) (xs : Array Value), v = .ref p ∧ IsTup s.heap p xs ∧ IntsAre xs.toList (nss.getD i [])) (hne : ∀ ns ∈ nss, ns ≠ []) (inj : ∀ i j, i < vs.length → j < vs.length → (nss.getD i []).headD 0 = (nss.getD j []).headD 0 → i = j)
    (h : ∀ p : Array Nat, PmR vs.length p → Up (fun i => (nss.getD i []).headD 0) p vs.length → Q (.ref (s.heap.objs.size + 1)) { s with heap := sortedAll s.heap vs (p.toList.map fun i => vs.getD i Value.none).toArray }) :
    wpAny (model prog w) A (call (.builtin "sorted") [.ref l]) Q E s := by
  refine Calls.call_function_entry kind_sorted plain_sorted entry_sorted (args_sorted1 _) ?_
  unfold Builtin.«sorted»
  refine wpAny_bind (m := checkCount "sorted" 1 1 _) (wpAny_pure ?_)
  refine wpAny_bind (collect_list hl ?_ (by rw [sizeLine_eq]; omega))
  refine wpAny_bind (wpAny_newList ?_ (by rw [sizeLine_eq]; omega))
  have hsz : ((s.heap.push (seqObj "list" #[] 0)).update s.heap.objs.size (Obj.mapSeq (· ++ vs.toArray))).objs.size = s.heap.objs.size + 1 := by
    rw [Heap.size_update, size_push']
  have hoL : (((s.heap.push (seqObj "list" #[] 0)).update s.heap.objs.size (Obj.mapSeq (· ++ vs.toArray))).push (seqObj "list" vs.toArray 0)).get? (s.heap.objs.size + 1) = some (seqObj "list" vs.toArray 0) := by
    rw [← hsz]; exact Heap.get?_push_size _ rfl
  have keep : ∀ b o, s.heap.get? b = some o → (((s.heap.push (seqObj "list" #[] 0)).update s.heap.objs.size (Obj.mapSeq (· ++ vs.toArray))).push (seqObj "list" vs.toArray 0)).get? b = some o := fun b o q => by
    have hlt : b < s.heap.objs.size := Heap.lt_size q
    rw [Heap.get?_push_ne _ _ _ (by rw [hsz]; exact Nat.ne_of_lt (Nat.lt_succ_of_lt hlt)), Heap.get?_update_ne _ _ _ _ (Nat.ne_of_lt hlt), Heap.get?_push_ne _ _ _ (Nat.ne_of_lt hlt)]
    exact q
  show wpAny _ _ _ _ _ { s with heap := ((s.heap.push (seqObj "list" #[] 0)).update s.heap.objs.size (Obj.mapSeq (· ++ vs.toArray))).push (seqObj "list" vs.toArray 0) }
  rw [hsz]
  refine wpAny_bind (wpAny_holding (wpAny_call_entry slot_list_sort ⟨_, hoL, rfl⟩ entry_list_sort (list_sort_keys (s := { s with heap := ((s.heap.push (seqObj "list" #[] 0)).update s.heap.objs.size (Obj.mapSeq (· ++ vs.toArray))).push (seqObj "list" vs.toArray 0) }) hoL h2 h64 hl' (fun i v hv => ?_) hne inj fun p a1 a2 => ⟨_, rfl, ?_⟩) (args_list_sort _)))
  · obtain ⟨p, xs, e, ⟨o, q1, q2⟩, q3⟩ := hk i v hv
    exact ⟨p, xs, e, Nat.ne_of_lt (Nat.lt_succ_of_lt (Heap.lt_size q1)), ⟨o, keep _ _ q1, q2⟩, q3⟩
  · exact wpAny_pure ⟨_, rfl, h p a1 a2⟩
end
end PyProof.Rows

set_option Elab.async false
set_option linter.all false
set_option maxRecDepth 100000
set_option maxHeartbeats 4000000
namespace PyProof.Rows
open PySem PySem.Calls PySem.W
section
variable {prog : Program} {w : World} {A : Around} {E : Value → Shared → Prop} {s : Shared}
theorem list_sort_few {a : Addr} {vs : List Value} {n : Nat} {P : PySem.Fin → Shared → Prop} (ho : s.heap.get? a = some (seqObj "list" vs.toArray n)) (h2 : vs.length < 2)
    (h : P (.done (.ret .none)) { s with heap := sortedHeap s.heap a vs vs.toArray }) :
    wpAny (model prog w) A (Builtin.«list.sort» ⟨[.ref a], []⟩) P E s := by
  rw [list_sort_plain]
  have ha : a < s.heap.objs.size := Heap.lt_size ho
  refine wpAny_bind (listItems_at ho rfl ?_)
  refine wpAny_bind (listUpdate_at ho rfl ?_ (by rw [List.size_toArray, sizeLine_eq]; omega) (Nat.zero_le _))
  obtain ⟨e1, ho1⟩ : ∃ e1, (s.heap.update a (Obj.mapSeq fun _ => (#[] : Array Value))).get? a = some (seqObj "list" #[] e1) := ⟨_, get?_update_seq ho fun _ => #[]⟩
  refine wpAny_bind (seqEpoch_at ho1 rfl ?_)
  refine wpAny_bind (wpAny_newTuple ?_ (by show vs.length ≤ _; rw [sizeLine_eq]; omega))
  refine wpAny_bind (wpAny_newList ?_ (Nat.zero_le _))
  refine wpAny_holding ?_
  have ho6 : (((s.heap.update a (Obj.mapSeq fun _ => (#[] : Array Value))).push (seqObj "tuple" vs.toArray 0)).push (seqObj "list" #[] 0)).get? a = some (seqObj "list" #[] e1) := by
    rw [Heap.get?_push_ne _ _ _ (by rw [size_push', Heap.size_update]; exact Nat.ne_of_lt (Nat.lt_succ_of_lt ha)), Heap.get?_push_ne _ _ _ (by rw [Heap.size_update]; exact Nat.ne_of_lt ha)]
    exact ho1
  show wpAny (model prog w) A _ P E { s with heap := ((s.heap.update a (Obj.mapSeq fun _ => (#[] : Array Value))).push (seqObj "tuple" vs.toArray 0)).push (seqObj "list" #[] 0) }
  dsimp only
  have hn2 : vs.toArray.size < 2 := by rw [List.size_toArray]; omega
  rw [if_pos hn2, if_pos hn2]
  refine wpAny_bind (wpAny_pure ?_)
  refine wpAny_bind (wpAny_of_eq (show (pure () : StateT SortSt Sem Unit).run (SortSt.mk' general' (vs.toArray.zip vs.toArray) #[] 7 none) = pure ((), SortSt.mk' general' (vs.toArray.zip vs.toArray) #[] 7 none) from rfl) ?_)
  have hout : (arrOf (SortSt.mk' general' (vs.toArray.zip vs.toArray) #[] 7 none)).map (·.2) = vs.toArray := by
    show (vs.toArray.zip vs.toArray).map (·.2) = vs.toArray
    apply Array.toList_inj.mp
    rw [Array.toList_map, Array.toList_zip, List.map_snd_zip]
    exact Nat.le_refl _
  dsimp only
  rw [hout]
  refine wpAny_bind (seqEpoch_at ho6 rfl ?_)
  refine wpAny_bind (listUpdate_at ho6 rfl ?_ (Nat.zero_le _) (by rw [List.size_toArray, sizeLine_eq]; omega))
  show wpAny _ _ (if (e1 != e1) = true then _ else _) _ _ _
  simp only [bne_self_eq_false, Bool.false_eq_true, if_false]
  exact wpAny_pure h
theorem sorted_few {l : Addr} {vs : List Value} {Q : Value → Shared → Prop} (hl : s.heap.IsList l vs.toArray) (h2 : vs.length < 2)
    (h : Q (.ref (s.heap.objs.size + 1)) { s with heap := sortedAll s.heap vs vs.toArray }) :
    wpAny (model prog w) A (call (.builtin "sorted") [.ref l]) Q E s := by
  refine Calls.call_function_entry kind_sorted plain_sorted entry_sorted (args_sorted1 _) ?_
  unfold Builtin.«sorted»
  refine wpAny_bind (m := checkCount "sorted" 1 1 _) (wpAny_pure ?_)
  refine wpAny_bind (collect_list hl ?_ (by rw [sizeLine_eq]; omega))
  refine wpAny_bind (wpAny_newList ?_ (by rw [sizeLine_eq]; omega))
  have hsz : ((s.heap.push (seqObj "list" #[] 0)).update s.heap.objs.size (Obj.mapSeq (· ++ vs.toArray))).objs.size = s.heap.objs.size + 1 := by
    rw [Heap.size_update, size_push']
  have hoL : (((s.heap.push (seqObj "list" #[] 0)).update s.heap.objs.size (Obj.mapSeq (· ++ vs.toArray))).push (seqObj "list" vs.toArray 0)).get? (s.heap.objs.size + 1) = some (seqObj "list" vs.toArray 0) := by
    rw [← hsz]; exact Heap.get?_push_size _ rfl
  have keep : ∀ b o, s.heap.get? b = some o → (((s.heap.push (seqObj "list" #[] 0)).update s.heap.objs.size (Obj.mapSeq (· ++ vs.toArray))).push (seqObj "list" vs.toArray 0)).get? b = some o := fun b o q => by
    have hlt : b < s.heap.objs.size := Heap.lt_size q
    rw [Heap.get?_push_ne _ _ _ (by rw [hsz]; exact Nat.ne_of_lt (Nat.lt_succ_of_lt hlt)), Heap.get?_update_ne _ _ _ _ (Nat.ne_of_lt hlt), Heap.get?_push_ne _ _ _ (Nat.ne_of_lt hlt)]
    exact q
  show wpAny _ _ _ _ _ { s with heap := ((s.heap.push (seqObj "list" #[] 0)).update s.heap.objs.size (Obj.mapSeq (· ++ vs.toArray))).push (seqObj "list" vs.toArray 0) }
  rw [hsz]
  refine wpAny_bind (wpAny_holding (wpAny_call_entry slot_list_sort ⟨_, hoL, rfl⟩ entry_list_sort (list_sort_few (s := { s with heap := ((s.heap.push (seqObj "list" #[] 0)).update s.heap.objs.size (Obj.mapSeq (· ++ vs.toArray))).push (seqObj "list" vs.toArray 0) }) hoL h2 ⟨_, rfl, ?_⟩) (args_list_sort _)))
  exact wpAny_pure ⟨_, rfl, h⟩

theorem sorted_ix {l : Addr} {vs : List Value} {Q : Value → Shared → Prop} (hl : s.heap.IsList l vs.toArray) {nss : List (List Int)} (h64 : vs.length < 64) (hl' : nss.length = vs.length)
    (hk : ∀ i v, vs[i]? = some v → ∃ (p : Addr) (xs : Array Value), v = .ref p ∧ IsTup s.heap p xs ∧ IntsAre xs.toList (nss.getD i [])) (hne : ∀ ns ∈ nss, ns ≠ []) (inj : ∀ i j, i < vs.length → j < vs.length → (nss.getD i []).headD 0 = (nss.getD j []).headD 0 → i = j)
    (h : ∀ ix : List Nat, ix.Perm (List.range vs.length) → (ix.map fun i => (nss.getD i []).headD 0).Pairwise (· < ·) → Q (.ref (s.heap.objs.size + 1)) { s with heap := sortedAll s.heap vs (ix.map fun i => vs.getD i Value.none).toArray }) :
    wpAny (model prog w) A (call (.builtin "sorted") [.ref l]) Q E s := by
  by_cases c : vs.length < 2
  · refine sorted_few hl c ?_
    have h1 := h (List.range vs.length) (List.Perm.refl _) ?_
    · have e : ((List.range vs.length).map fun i => vs.getD i Value.none) = vs := by
        apply List.ext_getElem
        · simp
        · intro i h1 h2
          simp [h2]
      rw [e] at h1
      exact h1
    · generalize vs.length = n at c
      have e : n = 0 ∨ n = 1 := by omega
      rcases e with rfl | rfl
      · exact List.Pairwise.nil
      · exact List.pairwise_singleton _ _
  · refine sorted_keys hl (by omega) h64 hl' hk hne inj fun p pm up => ?_
    have hz := pm_size pm
    refine h p.toList ?_ ?_
    · have := Array.perm_iff_toList_perm.mp pm.2
      simpa using this
    · refine List.pairwise_iff_getElem.mpr fun i j hi hj hij => ?_
      have hi' : i < p.size := by simpa using hi
      have hj' : j < p.size := by simpa using hj
      have := up i j hij (by omega)
      simp only [List.getElem_map, Array.getElem_toList]
      have ei : p.getD i 0 = p[i] := by simp [Array.getD, hi']
      have ej : p.getD j 0 = p[j] := by simp [Array.getD, hj']
      unfold KP at this
      rw [ei, ej] at this
      exact this
end
end PyProof.Rows
namespace L2
open PySem PySem.Spec PyProof.Rows
section
variable {X : Cx}
theorem Vals.ix {xs : List V} {its : List Value} (r : Vals xs its) : ∀ (ix : List Nat), (∀ i ∈ ix, i < xs.length) → Vals (ix.map fun i => xs.getD i V.non) (ix.map fun i => its.getD i Value.none)
  | [], _ => .nil
  | i :: ix, h => by
    have hi := h i (.head _)
    obtain ⟨u, hu, ru⟩ := r.get (List.getElem?_eq_getElem hi)
    have e1 : xs.getD i V.non = xs[i] := by rw [List.getD_eq_getElem?_getD, List.getElem?_eq_getElem hi]; rfl
    have e2 : its.getD i Value.none = u := by rw [List.getD_eq_getElem?_getD, hu]; rfl
    refine .cons ?_ (Vals.ix r ix fun j hj => h j (.tail _ hj))
    show RelV (xs.getD i V.non) (its.getD i Value.none)
    rw [e1, e2]; exact ru
def rSortedK (K : PySem.W.Frag) : List V → Hp → VK → Prop := fun vs H Q => ∃ (a : Addr) (xs : List V) (nss : List (List Int)), vs = [V.ref a] ∧ SqL K H a xs ∧ TupsAt K H xs nss ∧ nss.length < 64 ∧ (∀ ns ∈ nss, ns ≠ []) ∧ (nss.map fun ns => ns.headD 0).Nodup ∧
  ∀ (ix : List Nat) (p : Addr), ix.Perm (List.range xs.length) → (ix.map fun i => (nss.getD i []).headD 0).Pairwise (· < ·) → H p = none → Q (.ref p) (upd H p (.lst (ix.map fun i => xs.getD i V.non)))
theorem cr_sortedK : CallR X (.builtin "sorted") (rSortedK X.K) := by
  intro pins s σ H vs us Q I r h
  obtain ⟨a, xs, nss, rfl, hs, ht, h64, hne, nd, q⟩ := h
  obtain ⟨its, rv, hl, _⟩ := I.list hs
  rw [Vals.ref1 r]
  have hlen : its.length = nss.length := rv.length.symm.trans ht.len
  have hat : ∀ k v, its[k]? = some v → ∃ p its', v = .ref p ∧ IsTup s.heap p its' ∧ IntsAre its'.toList (nss.getD k []) := fun k v hv' => by
    have hk : k < xs.length := by rw [rv.length]; exact (List.getElem?_eq_some_iff.mp hv').1
    have hx : xs[k]? = some xs[k] := List.getElem?_eq_getElem hk
    obtain ⟨u, hu', ru⟩ := rv.get hx
    rw [hv'] at hu'
    cases hu'
    obtain ⟨p, e, hp⟩ := ht.get hx
    rw [e] at ru
    cases ru
    obtain ⟨its2, r2, p2, _⟩ := I.tuple hp
    exact ⟨p, its2.toArray, rfl, p2, by simpa using intsAre_of r2⟩
  refine sorted_ix hl.isList (by omega) hlen.symm hat hne (fun i j hi hj e => ?_) fun ix pm pw => ?_
  · have gi : (nss.map fun ns => ns.headD 0)[i]? = some ((nss.getD i []).headD 0) := by rw [List.getElem?_map, List.getD_eq_getElem?_getD, List.getElem?_eq_getElem (by omega)]; rfl
    have gj : (nss.map fun ns => ns.headD 0)[j]? = some ((nss.getD j []).headD 0) := by rw [List.getElem?_map, List.getD_eq_getElem?_getD, List.getElem?_eq_getElem (by omega)]; rfl
    rw [e] at gi
    exact (List.getElem?_inj (i := i) (j := j) (by rw [List.length_map]; omega) nd).mp (gi.trans gj.symm)
  · have hin : ∀ i ∈ ix, i < xs.length := fun i hi => by
      have := pm.mem_iff.mp hi
      rw [rv.length]; simpa using this
    have r1 := Vals.ix rv ix hin
    obtain ⟨ep, he'⟩ := PyProof.Rows.sortedAll_at s.heap its (ix.map fun i => its.getD i Value.none).toArray
    have hlen2 : (ix.map fun i => xs.getD i V.non).length ≤ sizeLine := by
      have := pm.length_eq
      rw [List.length_range] at this
      rw [List.length_map, this, hlen, sizeLine_eq]; omega
    exact ⟨.ref _, upd H (s.heap.objs.size + 1) (.lst _), I.laid (t' := s.toks) (fun _ _ => PyProof.Rows.sortedAll_old) (Nat.le_succ _) ⟨hlen2, _, ep, r1, by simpa using he'⟩, rfl, q ix _ (by rw [rv.length]; exact pm) pw (I.hok.fresh (Nat.le_succ _))⟩
end
end L2
namespace DL
open PySem PySem.Spec PyProof.Rows L2
section
variable {X : Cx} {K : PySem.W.Frag} {M M1 : Mk} {H H1 : Hp}
def rdSortedK : DN := fun ds R => oneP ds fun d => d.lstP fun xs => tupsP xs fun nss => (nss.length < 64 ∧ (∀ ns ∈ nss, ns ≠ []) ∧ (nss.map fun ns => ns.headD 0).Nodup) ∧ ∀ mss : List (List Int), mss.Perm nss → (mss.map fun ns => ns.headD 0).Pairwise (· < ·) → R (.lst (mss.map tI))
theorem DRs.ix {vs : List V} {nss : List (List Int)} (hd : DRs K M H vs (nss.map fun ns => D.tup (ns.map D.int))) : ∀ (ix : List Nat), (∀ i ∈ ix, i < vs.length) → DRs K M H (ix.map fun i => vs.getD i V.non) ((ix.map fun i => nss.getD i []).map tI)
  | [], _ => .nil
  | i :: ix, h => by
    have hi := h i (.head _)
    have hl : vs.length = nss.length := by rw [hd.length, List.length_map]
    have hi2 : i < nss.length := by rw [← hl]; exact hi
    have hdi : (nss.map fun ns => D.tup (ns.map D.int))[i]? = some (.tup (nss[i].map .int)) := by rw [List.getElem?_map, List.getElem?_eq_getElem hi2]; rfl
    obtain ⟨x', hx', dr⟩ := hd.get hdi
    have e1 : vs.getD i V.non = x' := by rw [List.getD_eq_getElem?_getD, hx']; rfl
    have e2 : nss.getD i [] = nss[i] := by rw [List.getD_eq_getElem?_getD, List.getElem?_eq_getElem hi2]; rfl
    refine .cons ?_ (DRs.ix hd ix fun j hj => h j (.tail _ hj))
    show DR K M H (vs.getD i V.non) (tI (nss.getD i []))
    rw [e1, e2]; exact dr
theorem cp_sortedK : CpN K (rSortedK K) rdSortedK := by
  intro M H xs ds R Q w dvs h0 o
  obtain ⟨d, rfl, g⟩ := oneP_ex h0
  obtain ⟨v, rfl, h⟩ := dvs.one
  obtain ⟨es, p, vs, q, rfl, hs, hd⟩ := h.listOf g
  obtain ⟨nss, rfl, ⟨n1, n2, n3⟩, q2⟩ := tupsP_ex q
  have hl : vs.length = nss.length := by rw [hd.length, List.length_map]
  refine ⟨p, vs, nss, rfl, hs, hd.tups, n1, n2, n3, fun ix l pm pw hl2 => ?_⟩
  have hin : ∀ i ∈ ix, i < vs.length := fun i hi => by simpa using pm.mem_iff.mp hi
  obtain ⟨e2, dr⟩ := newLst w hl2 (DRs.ix hd ix hin)
  refine o _ _ _ _ (q2 (ix.map fun i => nss.getD i []) ?_ ?_) e2 (.inl dr)
  · have := pm.map fun i => nss.getD i []
    refine this.trans ?_
    have e : ((List.range vs.length).map fun i => nss.getD i []) = nss := by
      apply List.ext_getElem
      · simp [hl]
      · intro i h1 h2
        simp [h2]
    rw [e]
  · rw [List.map_map]; exact pw
end
end DL

set_option Elab.async false
set_option linter.all false
set_option maxRecDepth 100000
set_option maxHeartbeats 4000000
namespace DL
open PySem PySem.Spec PyProof.Rows L2 DS

def leastB (m d f : Int) : Bool := (rngI (rndF m d)).all fun i => decide (f ≤ (f + i * d) % m)
def lstsF (m d : Int) : List Int := (rngI m).filter (leastB m d)
def rowL (m d f : Int) : List Int := (rngI (rndF m d)).map fun i => (f + i * d) % m
def lstOk (m d w : Int) : Bool := (rngI m).all fun f => decide (f < m / w) == ((rngI w).all fun i => decide (f ≤ (f + i * d) % m))
theorem lst_all : ∀ m ∈ List.range 25, ∀ d ∈ List.range m, 1 ≤ d → lstOk (m : Int) (d : Int) (rndF m d) = true := by decide +kernel
section
variable {m d : Int} {xs : List Int}
theorem lst_iff (hm : Ring m) (d0 : 1 ≤ d) (d1 : d < m) {f : Int} (f0 : 0 ≤ f) (f1 : f < m) : leastB m d f = true ↔ f < m / rndF m d := by
  have hi := hm.hi
  have h := lst_all m.toNat (List.mem_range.mpr (by omega)) d.toNat (List.mem_range.mpr (by omega)) (by omega)
  rw [Int.toNat_of_nonneg (by omega), Int.toNat_of_nonneg (by omega)] at h
  have h2 := List.all_eq_true.mp h f (mem_rngI.mpr ⟨f0, f1⟩)
  have h3 : decide (f < m / rndF m d) = leastB m d f := by unfold leastB; simpa using h2
  rw [← h3]
  simp
theorem pt_mod (hm : Ring m) (f i : Int) : (f + i % rndF m d * d) % m = (f + i * d) % m := by
  have w := rnd_is (d := d) hm
  have e : i * d = i % rndF m d * d + (i / rndF m d) * (rndF m d * d) := by
    have h := Int.emod_add_mul_ediv i (rndF m d)
    have h2 : i * d = (i % rndF m d + rndF m d * (i / rndF m d)) * d := by rw [h]
    rw [h2, Int.add_mul]
    congr 1
    rw [Int.mul_comm (rndF m d), Int.mul_assoc]
  have z : ((i / rndF m d) * (rndF m d * d)) % m = 0 := by rw [Int.mul_emod, w.zero, Int.mul_zero]; rfl
  rw [e, ← Int.add_assoc, Int.add_emod _ ((i / rndF m d) * (rndF m d * d)), z, Int.add_zero, Int.emod_emod]
theorem rng_mod (hm : Ring m) (i : Int) : i % rndF m d ∈ rngI (rndF m d) := by
  have w := rnd_is (d := d) hm
  have lo := w.lo
  exact mem_rngI.mpr ⟨Int.emod_nonneg _ (by omega), Int.emod_lt_of_pos _ (by omega)⟩
theorem pt_pt (f i j : Int) : ((f + i * d) % m + j * d) % m = (f + (i + j) * d) % m := by
  rw [Int.emod_add_emod, Int.add_mul, Int.add_assoc]
theorem pt_zero (hm : Ring m) {f : Int} (f0 : 0 ≤ f) (f1 : f < m) : (f + 0 * d) % m = f := by
  rw [Int.zero_mul, Int.add_zero, Int.emod_eq_of_lt f0 f1]
theorem mem_lsts {f : Int} : f ∈ lstsF m d ↔ (0 ≤ f ∧ f < m) ∧ leastB m d f = true := by
  unfold lstsF
  rw [List.mem_filter, mem_rngI]
theorem least_le (hm : Ring m) {f : Int} (h : leastB m d f = true) (i : Int) : f ≤ (f + i * d) % m := by
  have h1 := List.all_eq_true.mp h _ (rng_mod (d := d) hm i)
  have h2 := of_decide_eq_true h1
  rwa [pt_mod hm] at h2
theorem lst_uniq (hm : Ring m) {f f' i j : Int} (h : f ∈ lstsF m d) (h' : f' ∈ lstsF m d) (e : (f + i * d) % m = (f' + j * d) % m) : f = f' := by
  obtain ⟨⟨a0, a1⟩, a2⟩ := mem_lsts.mp h
  obtain ⟨⟨b0, b1⟩, b2⟩ := mem_lsts.mp h'
  have key : ∀ {g g' k l : Int}, 0 ≤ g' → g' < m → leastB m d g = true → (g + k * d) % m = (g' + l * d) % m → g ≤ g' := fun {g g' k l} g0 g1 hl e => by
    have h1 := least_le hm hl (k + -l)
    rw [← pt_pt, e, pt_pt, show l + -l = 0 by omega, pt_zero hm g0 g1] at h1
    exact h1
  have h1 := key b0 b1 a2 e
  have h2 := key a0 a1 b2 e.symm
  omega
theorem min_of : ∀ (l : List Int), l ≠ [] → ∃ x ∈ l, ∀ y ∈ l, x ≤ y
  | [], h => absurd rfl h
  | [x], _ => ⟨x, .head _, fun y hy => by rw [List.mem_singleton.mp hy]; exact Int.le_refl _⟩
  | x :: y :: l, _ => by
    obtain ⟨z, hz, hl⟩ := min_of (y :: l) (by simp)
    by_cases c : x ≤ z
    · refine ⟨x, .head _, fun u hu => ?_⟩
      rcases List.mem_cons.mp hu with rfl | hu
      · exact Int.le_refl _
      · have := hl u hu; omega
    · refine ⟨z, .tail _ hz, fun u hu => ?_⟩
      rcases List.mem_cons.mp hu with rfl | hu
      · omega
      · exact hl u hu
theorem lst_of (hm : Ring m) {x : Int} (x0 : 0 ≤ x) (x1 : x < m) : ∃ f ∈ lstsF m d, ∃ i ∈ rngI (rndF m d), (f + i * d) % m = x := by
  have w := rnd_is (d := d) hm
  have wl := w.lo
  have ne : rowL m d x ≠ [] := fun e => by
    have := congrArg List.length e
    unfold rowL at this
    rw [List.length_map, rngI_len] at this
    simp at this
    omega
  obtain ⟨f, hf, hmin⟩ := min_of (rowL m d x) ne
  obtain ⟨k, hk, rfl⟩ := List.mem_map.mp hf
  have b := md hm (x + k * d)
  refine ⟨(x + k * d) % m, mem_lsts.mpr ⟨b, List.all_eq_true.mpr fun i hi => decide_eq_true ?_⟩, (-k) % rndF m d, rng_mod hm _, ?_⟩
  · rw [pt_pt]
    refine hmin _ (List.mem_map.mpr ⟨(k + i) % rndF m d, rng_mod hm _, pt_mod hm x (k + i)⟩)
  · rw [pt_mod hm, pt_pt, show k + -k = 0 by omega, pt_zero hm x0 x1]

theorem nodup_mapOn {f : Int → Int} : ∀ {l : List Int}, (∀ x ∈ l, ∀ y ∈ l, f x = f y → x = y) → l.Nodup → (l.map f).Nodup
  | [], _, _ => List.nodup_nil
  | a :: l, h, hn => by
    have hp := List.nodup_cons.mp hn
    rw [List.map_cons]
    refine List.nodup_cons.mpr ⟨fun q => ?_, nodup_mapOn (fun x hx y hy => h x (.tail _ hx) y (.tail _ hy)) hp.2⟩
    obtain ⟨b, hb, e⟩ := List.mem_map.mp q
    have := h a (.head _) b (.tail _ hb) e.symm
    exact hp.1 (by rw [this]; exact hb)
end
theorem rows_ext : ∀ (A B : List (List Int)), (A.map fun ns => ns.headD 0).Pairwise (· < ·) → (B.map fun ns => ns.headD 0).Pairwise (· < ·) → (∀ t, t ∈ A ↔ t ∈ B) → A = B
  | [], [], _, _, _ => rfl
  | [], b :: B, _, _, h => by have := (h b).mpr (.head _); cases this
  | a :: A, [], _, _, h => by have := (h a).mp (.head _); cases this
  | a :: A, b :: B, ha, hb, h => by
    rw [List.map_cons, List.pairwise_cons] at ha hb
    have la : ∀ t ∈ A, a.headD 0 < t.headD 0 := fun t ht => ha.1 _ (List.mem_map.mpr ⟨t, ht, rfl⟩)
    have lb : ∀ t ∈ B, b.headD 0 < t.headD 0 := fun t ht => hb.1 _ (List.mem_map.mpr ⟨t, ht, rfl⟩)
    have e : a = b := by
      rcases List.mem_cons.mp ((h a).mp (.head _)) with q | q
      · exact q
      · rcases List.mem_cons.mp ((h b).mpr (.head _)) with r | r
        · exact r.symm
        · have := lb a q; have := la b r; omega
    subst e
    rw [rows_ext A B ha.2 hb.2 fun t => ?_]
    constructor
    · intro ht
      rcases List.mem_cons.mp ((h t).mp (.tail _ ht)) with q | q
      · subst q; have := la t ht; omega
      · exact q
    · intro ht
      rcases List.mem_cons.mp ((h t).mpr (.tail _ ht)) with q | q
      · subst q; have := lb t ht; omega
      · exact q
end DL

set_option Elab.async false
set_option linter.all false
set_option maxRecDepth 100000
set_option maxHeartbeats 4000000
namespace DL
open PySem PySem.Spec PyProof.Rows L2 DS

end DL

set_option Elab.async false
set_option linter.all false
set_option maxRecDepth 100000
set_option maxHeartbeats 4000000
namespace DL
open PySem PySem.Spec PyProof.Rows L2 DS
end DL
namespace DL
open PySem PySem.Spec PyProof.Rows L2 DS
theorem runs_len {m d : Int} {xs : List Int} (hm : Ring m) (hx : IsSt m xs) : (runsF m xs d).length ≤ 24 := by
  unfold runsF
  rw [List.length_map]
  have := List.length_filter_le (stB m xs d) xs
  have := hx.len24 hm
  omega
end DL

set_option Elab.async false
set_option linter.all false
set_option maxRecDepth 100000
set_option maxHeartbeats 4000000
namespace DL
open PySem PySem.Spec PyProof.Rows L2 DS
section
variable {X : Cx} {K : PySem.W.Frag} {M M1 : Mk} {H H1 : Hp} {σ : L2.St} {ρ : DEnv} {a e : Expr} {pos : Pos}
def wNLcP (wi : DTI) (i i2 : Nat) (tt : DTT) (te : DTE) (vs : List Nat) : DTA := fun ρ R => wi ρ fun ds => compP i i2 tt te (wipeD ρ vs) R ds []
theorem tn_lcP {wi : DTI} {i i2 : Nat} {tt : DTT} {te : DTE} {vs : List Nat} (hi : i ∈ vs) (hi2 : i2 ∈ vs) {σ : L2.St} {Q : VK} (h : TDN K (wNLcP wi i i2 tt te vs) σ H Q) : tLc (TDI K wi) (gTup K 2 (gCons (gName i) (gCons (gName i2) gNil))) (TDT K tt) (TD K te) vs σ H Q := by
  obtain ⟨M, ρ, R, w, r, q, o⟩ := h
  refine ⟨M, ρ, _, w, r, q, fun ds J M1 H1 q1 e1 wk D hD => ?_⟩
  obtain ⟨Iv, i0, iN, iS⟩ := q1
  refine ⟨fun j m H' => m = ds.length - j ∧ j ≤ ds.length ∧ ∃ M' acc, Acc K M1 H1 D acc M' H' ∧ Iv (ds.drop j) acc, ⟨_, rfl, Nat.zero_le _, _, [], Acc.start e1.wf hD, i0⟩, ?_⟩
  rintro j m H' ⟨rfl, hj, M', acc, ac, f⟩
  obtain ⟨wk1, wk2⟩ := wk M' H' ac.1.toS
  by_cases hlt : j < ds.length
  · obtain ⟨d, hd, hdr⟩ := drop_get hlt
    obtain ⟨go, yl⟩ := wk1 j d hd
    refine .inr ⟨go, fun H2 => ∃ M2 acc2, Acc K M1 H1 D acc2 M2 H2 ∧ Iv (ds.drop (j + 1)) acc2, fun H2 ⟨M2, a2, x⟩ => ⟨ds.length - (j + 1), by omega, rfl, hlt, M2, a2, x⟩, fun x H2 y => ?_⟩
    obtain ⟨M2, e2, dr⟩ := yl x H2 y
    rw [hdr] at f
    obtain ⟨u, v, rfl, f'⟩ := iS _ _ _ f
    have ac2 := ac.ext e2
    obtain ⟨p, ws, rfl, ht, hw⟩ := DV.tuple (.inl dr)
    cases hw with
    | cons d1 hw =>
      cases hw with
      | cons d2 hw =>
        cases hw
        have r2 := ((((r.ext e1).ext ac2.1).wipe vs).set (i := i) d1).set (i := i2) d2
        refine ⟨p, _, rfl, ht, rfl, ?_⟩
        refine ⟨_, _, rfl, ?_⟩
        refine ⟨_, _, rfl, ?_⟩
        refine ⟨rfl, ?_⟩
        refine ⟨by rw [wipe_at _ hi2, wipe_set σ hi _], ?_⟩
        refine ⟨M2, _, _, e2.wf, r2, f', fun k M3 H3 q3 e3 => ?_⟩
        have ac3 := ac2.ext e3
        cases k with
        | false => exact ⟨M3, acc, ac3, q3⟩
        | true =>
          simp only [if_true] at q3 ⊢
          refine ⟨M3, _, _, e3.wf, r2.ext e3, q3, fun v4 d4 M4 H4 q4 e4 dv4 => ?_⟩
          obtain ⟨n4, l4, q4⟩ := q4
          obtain ⟨av, h1, h2, h3⟩ := (ac3.ext e4).push hD (dv4.dr n4)
          exact ⟨av, h1, by rw [h2]; exact l4, M4, _, h3, q4⟩
  · have e2 : j = ds.length := by omega
    subst e2
    rw [List.drop_length] at f
    obtain ⟨x1, x2, av, x3, x4⟩ := ac
    exact .inl ⟨wk2, o D av acc M' H' (iN _ f) (e1.trans x1) (e1.back hD) x2 x3 x4⟩
end
def LongR (m : Int) (xs : List Int) (d n : Int) : Prop := (n = 0 ∧ runsF m xs d = []) ∨ ((∃ q ∈ runsF m xs d, q.2 = n) ∧ ∀ q ∈ runsF m xs d, q.2 ≤ n)
theorem long_uniq {m d n k : Int} {xs : List Int} (hm : Ring m) (h : LongR m xs d n) (hk : k ∈ (0 :: (runsF m xs d).map fun q => q.2)) (hb : ∀ y ∈ (0 :: (runsF m xs d).map fun q => q.2), y ≤ k) : k = n := by
  rcases h with ⟨rfl, e⟩ | ⟨⟨q, hq, rfl⟩, hm2⟩
  · rw [e] at hk
    simpa using hk
  · have h1 := hb q.2 (.tail _ (List.mem_map.mpr ⟨q, hq, rfl⟩))
    rcases List.mem_cons.mp hk with rfl | hk
    · have := (run_in hm hq).2.1
      omega
    · obtain ⟨p, hp, rfl⟩ := List.mem_map.mp hk
      have := hm2 p hp
      omega
end DL

set_option Elab.async false
set_option linter.all false
set_option maxRecDepth 100000
set_option maxHeartbeats 4000000
namespace DL
open PySem PySem.Spec PyProof.Rows L2 DS

def KBnd (K : PySem.W.Frag) (fd : FuncData) (ps : List Str) : Prop := ∀ (s : Shared) (ws : List Value), ws.length = ps.length → BindsTo s fd ⟨[], ps.zip ws⟩ (ps.zip ws)
structure DefK (P : Program) (w : World) (K : PySem.W.Frag) (mg : Str → Option Value) (base : Heap) (k : Nat) (x : Str) (ps : List Str) (S : DSp) : Prop where
  ex : ∃ (f : Addr) (fd : FuncData), mg x = some (.ref f) ∧ PySem.W.keepIn K (.ref f) = true ∧ KBnd K fd ps ∧ FnOk P w K mg base CX0 k f fd ps (spD K ps.length S)
  len : ∀ ds R, S ds R → ds.length = ps.length
structure JK (X : Cx) (kws : List Keyword) (t : DTA) : Prop where
  p : PK X kws (TDA X.K t)
end DL

set_option Elab.async false
set_option linter.all false
set_option maxRecDepth 100000
set_option maxHeartbeats 4000000
namespace DL
open PySem PySem.Spec PyProof.Rows L2 DS
structure Sm (v : D) : Prop where
  ne : ∀ {R : D → Prop}, R (.bl false) → rdNeA v v R
  eq : ∀ {R : D → Prop}, R (.bl true) → rdEqA v v R
def M57 (m : Int) : Prop := m = 5 ∨ m = 7
theorem M57.ring {m : Int} (h : M57 m) : Ring m := by rcases h with rfl | rfl <;> exact ⟨by decide, by decide⟩
theorem M57.p {m : Int} (h : M57 m) : m ∈ primes10 := by rcases h with rfl | rfl <;> decide
theorem M57.dv {m : Int} (h : M57 m) : Dv m m := by rcases h with rfl | rfl <;> exact ⟨by decide, by decide, by decide⟩
theorem M57.no {m : Int} (h : M57 m) : ∀ k ∈ rngI m, movF m [0, 1, 3] k ≠ [1, 2] := by rcases h with rfl | rfl <;> decide +kernel
theorem M57.set {m : Int} (h : M57 m) : setF m [0, 1, 3] = [0, 1, 3] := by rcases h with rfl | rfl <;> decide +kernel
theorem M57.le {m : Int} (h : M57 m) : m ≤ 12 := by rcases h with rfl | rfl <;> decide
end DL

set_option Elab.async false
set_option linter.all false
set_option maxRecDepth 100000
set_option maxHeartbeats 4000000
namespace DL
open PySem PySem.Spec PyProof.Rows L2 DS PySem.W Builtin Builtin.ObjectAttr

def veOver : List Value → Bool
  | [.type a, .type b, .type c, .type d] => a == "ValueError" && b == "Exception" && c == "BaseException" && d == "object"
  | .ref _ :: r => veOver r
  | _ => false
def veIn (K : Frag) (C : Addr) : Bool := (clsIn K C).any fun cd => veOver cd.mro
structure XCls (K : Frag) (C : Addr) : Prop where
  sa : findIn K (.ref C) "__setattr__" = some (some (.builtin "object.__setattr__"))
  ve : veIn K C = true
  hd : hasDictIn K C = true
end DL

set_option Elab.async false
set_option linter.all false
set_option maxRecDepth 100000
set_option maxHeartbeats 4000000
namespace PySem
open Sem (wp)

end PySem

set_option Elab.async false
set_option linter.all false
set_option maxRecDepth 100000
set_option maxHeartbeats 4000000
namespace DL
open PySem PySem.Spec PyProof.Rows L2 DS PySem.W

end DL

set_option Elab.async false
set_option linter.all false
set_option maxRecDepth 100000
set_option maxHeartbeats 4000000
namespace DL
open PySem PySem.Spec PyProof.Rows L2 DS PySem.W
section
variable {X : Cx} {E : XK} {e : Expr} {es : List Expr} {np cpos pos : Pos} {x : Str}
theorem DVs.ints {K : Frag} {M : Mk} {H : Hp} : ∀ {vs : List V} {is : List Int}, DVs K M H vs (is.map D.int) → vs = is.map V.int
  | _, [], h => by cases h; rfl
  | _, i :: is, h => by
    cases h with
    | cons a t =>
      rw [DVs.ints t, a.int]
      rfl
end
end DL

set_option Elab.async false
set_option linter.all false
set_option maxRecDepth 100000
set_option maxHeartbeats 4000000
namespace DL
open PySem PySem.Spec PyProof.Rows L2 DS PySem.W
end DL

set_option Elab.async false
set_option linter.all false
set_option maxRecDepth 100000
set_option maxHeartbeats 4000000
namespace DL
open PySem PySem.Spec PyProof.Rows L2 DS

def SzErr (d a b : D) (XR : Ex → Prop) : Prop := a.nown = true ∧ b.nown = true ∧ ((NoRg d ∧ XR ("NoRing", [])) ∨ ∃ m, d = .int m ∧ Ring m ∧
  ((8 < m ∧ XR ("TooGreat", [("many", m), ("most", 8)])) ∨ (m ≤ 8 ∧ XR ("NoNumber", []) ∧ (NoIn 1 m a ∨ ∃ i, a = .int i ∧ 1 ≤ i ∧ i ≤ m ∧ NoIn 1 m b))))
theorem SzErr.n1 {d a b : D} {XR : Ex → Prop} (h : SzErr d a b XR) : d.nown = true := by
  obtain ⟨_, _, ⟨h, _⟩ | ⟨m, rfl, _⟩⟩ := h
  · exact h.nown
  · rfl
end DL

set_option Elab.async false
set_option linter.all false
set_option maxRecDepth 100000
set_option maxHeartbeats 4000000
namespace DL
open PySem PySem.Spec PyProof.Rows L2 DS

def Best (m : Int) (pre : List PI2) (v : D) : Prop := (pre = [] ∧ v = .non) ∨ ∃ l1 p l2, pre = l1 ++ p :: l2 ∧ v = keyD (sumL m p) p ∧ (∀ q ∈ l1, sumL m p < sumL m q) ∧ ∀ q ∈ l2, sumL m p ≤ sumL m q
theorem Best.nown {m : Int} {pre : List PI2} {v : D} (h : Best m pre v) : v.nown = true := by
  rcases h with ⟨_, rfl⟩ | ⟨_, _, _, _, rfl, _⟩ <;> rfl
end DL

set_option Elab.async false
set_option linter.all false
set_option maxRecDepth 100000
set_option maxHeartbeats 4000000
namespace DL
open PySem PySem.Spec PyProof.Rows L2 DS
end DL

set_option Elab.async false
set_option linter.all false
set_option maxRecDepth 100000
set_option maxHeartbeats 4000000
namespace DL
open PySem PySem.Spec PyProof.Rows L2 DS


def NoLs (t : D) : Prop := t.nown = true ∧ (isList t = some false ∨ ∃ ds, t = .lst ds ∧ (ds = [] ∨ 5 < ds.length) ∧ ds.length ≤ 100)
def LsErr (d t : D) (XR : Ex → Prop) : Prop := t.nown = true ∧ ((NoRg d ∧ XR ("NoRing", [])) ∨ ∃ m, d = .int m ∧ Ring m ∧ ((NoLs t ∧ XR ("NoList", [("at", -1)])) ∨
  ∃ pre x post, t = .lst (pre ++ x :: post) ∧ (pre ++ x :: post).length ≤ 5 ∧ (∀ y ∈ pre, isSetB m y = some true) ∧ isSetB m x = some false ∧ XR ("NoList", [("at", (pre.length : Int))])))
theorem LsErr.n1 {d t : D} {XR : Ex → Prop} (h : LsErr d t XR) : d.nown = true := by
  obtain ⟨_, ⟨h, _⟩ | ⟨m, rfl, _⟩⟩ := h
  · exact h.nown
  · rfl
end DL

set_option Elab.async false
set_option linter.all false
set_option maxRecDepth 100000
set_option maxHeartbeats 4000000
namespace DL
open PySem PySem.Spec PyProof.Rows L2 DS
end DL

set_option Elab.async false
set_option linter.all false
set_option maxRecDepth 100000
set_option maxHeartbeats 4000000
namespace DL
open PySem PySem.Spec PyProof.Rows L2 DS

end DL

set_option Elab.async false
set_option linter.all false
set_option maxRecDepth 100000
set_option maxHeartbeats 4000000
namespace DL
open PySem PySem.Spec PyProof.Rows L2 DS

structure Tx (n : Nat) (t : Str) : Prop where
  lo : ∀ c ∈ t.cps.toList, c < 128
  len : t.cps.toList.length ≤ n
theorem Tx.mono {n k : Nat} {t : Str} (h : Tx n t) (e : n ≤ k) : Tx k t := ⟨h.lo, Nat.le_trans h.len e⟩
theorem join_sub {c : Nat} : ∀ {ws : List Str}, ∀ w ∈ ws, ∀ z ∈ w.cps.toList, z ∈ (Str.join ⟨#[c]⟩ ws).cps.toList
  | [], w, h, _, _ => by cases h
  | [x], w, h, z, hz => by
    rw [List.mem_singleton.mp h] at hz
    exact hz
  | x :: y :: r, w, h, z, hz => by
    rw [join_list2]
    rcases List.mem_cons.mp h with rfl | h
    · exact List.mem_append_left _ hz
    · exact List.mem_append_right _ (List.mem_cons_of_mem _ (join_sub w h z hz))
theorem join_cnt {c : Nat} : ∀ {ws : List Str}, ws.length ≤ (Str.join ⟨#[c]⟩ ws).cps.toList.length + 1
  | [] => Nat.zero_le _
  | [x] => by simp
  | x :: y :: r => by
    have := join_cnt (c := c) (ws := y :: r)
    rw [join_list2, List.length_append, List.length_cons]
    simp only [List.length_cons] at this ⊢
    omega
theorem join_wl {c : Nat} : ∀ {ws : List Str}, ∀ w ∈ ws, w.cps.toList.length ≤ (Str.join ⟨#[c]⟩ ws).cps.toList.length
  | [], w, h => by cases h
  | [x], w, h => by rw [List.mem_singleton.mp h]; exact Nat.le_refl _
  | x :: y :: r, w, h => by
    rw [join_list2, List.length_append, List.length_cons]
    rcases List.mem_cons.mp h with rfl | h
    · omega
    · have := join_wl (c := c) w h; omega
theorem split_back (t : Str) : Str.join " " (Txt.split t " ") = t := by
  rw [blank]; exact StrLaws.join_split _ _
theorem Tx.split {n : Nat} {t : Str} (h : Tx n t) : (Txt.split t " ").length ≤ n + 1 ∧ ∀ w ∈ Txt.split t " ", Tx n w := by
  have b := split_back t
  generalize Txt.split t " " = ws at *
  rw [blank] at b
  have hl := h.len
  subst b
  refine ⟨Nat.le_trans (join_cnt (c := 32)) (by omega), fun w hw => ⟨fun c hc => h.lo c (join_sub w hw c hc), Nat.le_trans (join_wl w hw) hl⟩⟩
theorem Tx.ok {n : Nat} {t : Str} (h : Tx n t) : PyData.strOk t = true := by
  unfold PyData.strOk
  rw [← Array.all_toList, List.all_eq_true]
  intro c hc
  have := h.lo c hc
  exact decide_eq_true (by omega)

def BadW (m : Int) (xs : List Int) (w : Str) : Prop := (∀ x, 0 ≤ x → x < m → w ≠ sI x) ∨ ∃ x, w = sI x ∧ 0 ≤ x ∧ x < m ∧ ∃ i z, xs = i ++ [z] ∧ x ≤ z
end DL

set_option Elab.async false
set_option linter.all false
set_option maxRecDepth 100000
set_option maxHeartbeats 4000000
namespace DL
open PySem PySem.Spec PyProof.Rows L2 DS
def TxErr (d t : D) (XR : Ex → Prop) : Prop := t.nown = true ∧ ((NoRg d ∧ XR ("NoRing", [])) ∨ ∃ m, d = .int m ∧ Ring m ∧ ((isStr t = some false ∧ XR ("NoText", [("at", -1)])) ∨
  ∃ s xs w rest, t = .str s ∧ Tx 100000 s ∧ s ≠ "none" ∧ IsSt m xs ∧ Txt.split s " " = xs.map sI ++ w :: rest ∧ BadW m xs w ∧ XR ("NoText", [("at", (xs.length : Int))])))
theorem TxErr.n1 {d t : D} {XR : Ex → Prop} (h : TxErr d t XR) : d.nown = true := by
  obtain ⟨_, ⟨h, _⟩ | ⟨m, rfl, _⟩⟩ := h
  · exact h.nown
  · rfl
end DL

set_option Elab.async false
set_option linter.all false
set_option maxRecDepth 100000
set_option maxHeartbeats 4000000
namespace DL
open PySem PySem.Spec PyProof.Rows L2 DS
end DL

set_option Elab.async false
set_option linter.all false
set_option maxRecDepth 100000
set_option maxHeartbeats 4000000
namespace DL
open PySem PySem.Spec PyProof.Rows L2 DS

end DL

set_option Elab.async false
set_option linter.all false
set_option maxRecDepth 100000
set_option maxHeartbeats 4000000
namespace DL
open PySem PySem.Spec PyProof.Rows L2 DS


def SmI (ns : List Int) : Prop := ns.length ≤ 100 ∧ ∀ n ∈ ns, n.natAbs < 10 ^ 40
theorem SmI.ok {ns : List Int} (h : SmI ns) : OkR (.list (ns.map .int)) := okR_lstI (fun p hp => by
  obtain ⟨n, hn, rfl⟩ := List.mem_map.mp hp
  exact okI_int (h.2 n hn)) (by rw [List.length_map]; exact h.1)
end DL

set_option Elab.async false
set_option linter.all false
set_option maxRecDepth 100000
set_option maxHeartbeats 4000000
namespace HT
open PySem PySem.Spec PyProof.Rows L2
section
variable {prog : Program} {w : World} {A : Around} {s : Shared}

def SumAt (h0 : Heap) (olds : List Addr) (zs : List Value) (p : Addr) (h : Heap) : Prop := IsTup h p zs.toArray ∧ (p ∈ olds ∨ (h0.objs.size ≤ p ∧ h.get? p = some { cls := .type "tuple", data := .seq zs.toArray }))
theorem SumAt.step {h0 h h' : Heap} {olds : List Addr} {zs : List Value} {p : Addr} (x : SumAt h0 olds zs p h) (k : ∀ o, h.get? p = some o → h'.get? p = some o) : SumAt h0 olds zs p h' := by
  obtain ⟨⟨o, e, r⟩, y⟩ := x
  exact ⟨⟨o, k o e, r⟩, y.imp id fun ⟨z, q⟩ => ⟨z, k _ q⟩⟩
theorem sum_loopT {h0 : Heap} {l t it S : Addr} {ps : List Addr} {wss : List (List Value)} {R : Result → Shared → Prop} (hh : A.handled = none) (hl : h0.IsList l (ps.map Value.ref).toArray)
    (hs : ∀ (i : Nat) p, ps[i]? = some p → ∃ ws, wss[i]? = some ws ∧ IsTup h0 p ws.toArray) (hlen : wss.length = ps.length) (hz : wss.flatten.length ≤ sizeLine) (nit : h0.get? it = none) (nS : h0.get? S = none) (hIS : it ≠ S) (itn : it < h0.objs.size + 2) (Sn : S < h0.objs.size + 2)
    (hR : ∀ h' tk p, (∀ b o, h0.get? b = some o → h'.get? b = some o) → SumAt h0 (t :: ps) wss.flatten p h' → R (.ok (.ret (.ref p))) { s with heap := h', toks := tk }) :
    ∀ (r j : Nat) (h : Heap) (tk c p : Nat), ps.length - j = r → j ≤ ps.length → h.IsListIter it l j → h.get? S = some { cls := .type "list", dict := none, data := .seq #[.ref p] c, slots := #[] } →
      (∀ b o, h0.get? b = some o → h.get? b = some o) → h0.objs.size + 2 ≤ h.objs.size → SumAt h0 (t :: ps) (wss.take j).flatten p h → p ≠ it → p ≠ S →
      codeAny (model prog w) A (.builtin "sum.loop" ⟨[.ref it, .ref S, rawInt 2, rawInt 0], []⟩) R { s with heap := h, toks := tk } := by
  intro r
  induction r with
  | zero =>
    intro j h tk c p hr hj hit hS hk hsz hp np1 np2
    have hin : j = ps.length := by omega
    subst hin
    refine codeAny_builtin F.entry_sum_loop ?_
    rw [Around.under_plainId F.plain_sum_loop _]
    show wpAny _ A.in1 (seqItems? (.ref S) >>= _) _ _ _
    refine wpAny_bind (wpAny_seqItems hS rfl ?_)
    show wpAny _ A.in1 (tryCatch (pyNext (.ref it)) _ >>= _) _ _ _
    refine wpAny_bind (wpAny_tryCatch (wpAny_pyNext_list_end hh hit (hl.at fun o e => hk _ _ e) (by simp) fun h' eb => ?_))
    rw [← hlen, List.take_length] at hp
    have ni : ∀ b o, h0.get? b = some o → b ≠ it := fun b o e z => by rw [z, nit] at e; cases e
    exact wpAny_pure (hR h' tk p (fun b o e => eb b o (ni b o e) (hk b o e)) (hp.step fun o e => eb p o np1 e))
  | succ r ih =>
    intro j h tk c p hr hj hit hS hk hsz hp np1 np2
    have hlt : j < ps.length := by omega
    have ni : ∀ b o, h0.get? b = some o → b ≠ it := fun b o e z => by rw [z, nit] at e; cases e
    have nSS : ∀ b o, h0.get? b = some o → b ≠ S := fun b o e z => by rw [z, nS] at e; cases e
    obtain ⟨ws, hw, ht⟩ := hs j ps[j] (List.getElem?_eq_getElem hlt)
    refine codeAny_builtin F.entry_sum_loop ?_
    rw [Around.under_plainId F.plain_sum_loop _]
    show wpAny _ A.in1 (seqItems? (.ref S) >>= _) _ _ _
    refine wpAny_bind (wpAny_seqItems hS rfl ?_)
    show wpAny _ A.in1 (tryCatch (pyNext (.ref it)) _ >>= _) _ _ _
    refine wpAny_bind (wpAny_tryCatch (wpAny_pyNext_list_item hit (hl.at fun o e => hk _ _ e) (x := .ref ps[j]) (by simp [hlt]) fun h1 hit1 sb1 => ?_))
    have k1 : ∀ b o, b ≠ it → h.get? b = some o → h1.get? b = some o := fun b o n e => (sb1.2 b n).trans e
    have hS1 := k1 S _ (Ne.symm hIS) hS
    have hp1 := hp.step fun o e => k1 p o np1 e
    have ht1 : IsTup h1 ps[j] ws.toArray := by
      obtain ⟨o, e, q⟩ := ht
      exact ⟨o, k1 _ _ (ni _ _ e) (hk _ _ e), q⟩
    have hfl : (wss.take (j + 1)).flatten = (wss.take j).flatten ++ ws := by
      rw [List.take_succ, hw]; simp
    have hz1 : (wss.take j).flatten.length + ws.length ≤ sizeLine := by
      have e : wss = wss.take (j + 1) ++ wss.drop (j + 1) := (List.take_append_drop _ _).symm
      have e2 : wss.flatten = (wss.take (j + 1)).flatten ++ (wss.drop (j + 1)).flatten := by rw [← List.flatten_append, ← e]
      rw [e2, hfl, List.length_append, List.length_append] at hz
      omega
    have sz1 : h0.objs.size + 2 ≤ h1.objs.size := by rw [sb1.1]; exact hsz
    -- what comes behind the sum of two
    have go : ∀ (h2 : Heap) (tk2 q : Nat), (∀ b o, h1.get? b = some o → h2.get? b = some o) → h1.objs.size ≤ h2.objs.size → SumAt h0 (t :: ps) ((wss.take j).flatten ++ ws) q h2 → q ≠ it → q ≠ S →
        wpAny (model prog w) A.in1 (do updateSeq S fun _ => #[Value.ref q]; letGo [Value.ref p, Value.ref ps[j]]; (updateSeq S (fun _ => #[Value.ref q]) >>= fun _ => again (.builtin "sum.loop" ⟨[.ref it, .ref S, rawInt 2, rawInt 0], []⟩)))
          (fun fin s'' => match fin with | .done f => R (.ok f) s'' | .again c' => c'.quiet = true ∧ codeAny (model prog w) A c' R s'') (fun e s'' => R (.error e) s'') { s with heap := h2, toks := tk2 } := fun h2 tk2 q k2 sz2 hq nq1 nq2 => by
      have hS2 := k2 S _ hS1
      refine wpAny_bind (wpAny_updateSeq hS2 rfl ?_)
      have hS3 := Heap.get?_update_self (Obj.mapSeq fun _ => #[Value.ref q]) hS2 rfl
      refine wpAny_bind (wpAny_letGo ?_)
      refine wpAny_bind (wpAny_updateSeq hS3 rfl (wpAny_pure ⟨plainId_quiet F.plain_sum_loop _, ?_⟩))
      have hS4 := Heap.get?_update_self (Obj.mapSeq fun _ => #[Value.ref q]) hS3 rfl
      have kk : ∀ b o, b ≠ S → h2.get? b = some o → ((h2.update S (Obj.mapSeq fun _ => #[Value.ref q])).update S (Obj.mapSeq fun _ => #[Value.ref q])).get? b = some o := fun b o n e => (Heap.get?_update_other _ _ (Ne.symm n)).trans ((Heap.get?_update_other _ _ (Ne.symm n)).trans e)
      refine ih (j + 1) _ tk2 _ q (by omega) (by omega) ?_ hS4 (fun b o e => kk b o (nSS b o e) (k2 _ _ (k1 b o (ni b o e) (hk b o e)))) ?_ ?_ nq1 nq2
      · obtain ⟨o, e, r⟩ := hit1
        exact ⟨o, kk _ _ hIS (k2 _ _ e), r⟩
      · have : ∀ (hh : Heap) (f : Obj → Obj), (hh.update S f).objs.size = hh.objs.size := fun hh f => (Heap.SameBut.update hh S f).1
        rw [this, this]; exact Nat.le_trans sz1 sz2
      · rw [hfl]; exact hq.step fun o e => kk _ _ nq2 e
    have two : wpAny (model prog w) A.in1 (binaryOp .Add (.ref p) (.ref ps[j])) (fun v s2 => ∃ h2 q, v = .ref q ∧ s2 = { s with heap := h2, toks := tk } ∧ (∀ b o, h1.get? b = some o → h2.get? b = some o) ∧ h1.objs.size ≤ h2.objs.size ∧ SumAt h0 (t :: ps) ((wss.take j).flatten ++ ws) q h2 ∧ q ≠ it ∧ q ≠ S) (fun _ _ => False) { s with heap := h1, toks := tk } := by
      have mem : ps[j] ∈ t :: ps := List.mem_cons_of_mem _ (List.getElem_mem hlt)
      obtain ⟨o, e, _⟩ := id ht
      by_cases z : (wss.take j).flatten = []
      · have hp0 : IsTup h1 p (#[] : Array Value) := by have := hp1.1; rw [z] at this; exact this
        refine cat_tup0 (s := { s with heap := h1, toks := tk }) hp0 ht1 ⟨h1, ps[j], rfl, rfl, fun _ _ e => e, Nat.le_refl _, ?_, ni _ _ e, nSS _ _ e⟩
        rw [z, List.nil_append]
        exact ⟨ht1, .inl mem⟩
      · refine cat_tup (s := { s with heap := h1, toks := tk }) hp1.1 ht1 z (fun y => ⟨h1, p, rfl, rfl, fun _ _ e => e, Nat.le_refl _, by rw [y, List.append_nil]; exact hp1, np1, np2⟩) (fun y => ?_) hz1
        refine ⟨_, h1.objs.size, rfl, rfl, fun b o e => Heap.get?_push_of_some _ e, by show _ ≤ (h1.push _).objs.size; rw [Heap.size_push]; omega, ⟨⟨_, Heap.get?_push_size _ rfl, rfl, _, rfl⟩, .inr ⟨by omega, Heap.get?_push_size _ rfl⟩⟩, fun z => ?_, fun z => ?_⟩
        · have : h1.objs.size < h0.objs.size + 2 := z ▸ itn
          omega
        · have : h1.objs.size < h0.objs.size + 2 := z ▸ Sn
          omega
    show wpAny _ A.in1 ((holding [Value.ref ps[j]] (binaryOp .Add (.ref p) (.ref ps[j]))).attempt >>= _) _ _ _
    refine wpAny_bind (wpAny_attempt (wpAny_holding (wpAny_mono two (fun v s2 ⟨h2, q, ev, es, k2, z2, hq, nq1, nq2⟩ => ?_) fun _ _ z => z.elim)))
    subst ev es
    exact go h2 tk q k2 z2 hq nq1 nq2
end
end HT
namespace L2
open PySem PySem.Spec PyProof.Rows
section
variable {X : Cx}
theorem args_sum2 (a b : Value) : argsOk "sum" ⟨[a, b], []⟩ := by unfold argsOk; kernel_rfl

def rSumTs (K : PySem.W.Frag) : List V → Hp → VK → Prop := fun vs H Q => ∃ (l t : Addr) (ps : List Addr) (yss : List (List V)), vs = [V.ref l, V.ref t] ∧ SqL K H l (ps.map V.ref) ∧ SqT K H t [] ∧ yss.length = ps.length ∧
  (∀ (i : Nat) p, ps[i]? = some p → ∃ ys, yss[i]? = some ys ∧ SqT K H p ys) ∧ yss.flatten.length ≤ sizeLine ∧ (yss.flatten = [] → Q (.ref t) H) ∧ (∀ (i : Nat) p ys, ps[i]? = some p → yss[i]? = some ys → ys = yss.flatten → Q (.ref p) H) ∧ ∀ p, H p = none → Q (.ref p) (upd H p (.tup yss.flatten))
theorem Vals.refs : ∀ {ps : List Addr} {us : List Value}, Vals (ps.map V.ref) us → us = ps.map Value.ref
  | [], _, h => by cases h; rfl
  | p :: ps, _, h => by
    cases h with | cons r t => cases r; rw [Vals.refs t]; rfl
theorem Vals.flat : ∀ {yss : List (List V)} {wss : List (List Value)}, yss.length = wss.length → (∀ (i : Nat) ys, yss[i]? = some ys → ∃ ws, wss[i]? = some ws ∧ Vals ys ws) → Vals yss.flatten wss.flatten
  | [], [], _, _ => .nil
  | ys :: yss, [], e, _ => by cases e
  | [], ws :: wss, e, _ => by cases e
  | ys :: yss, ws :: wss, e, h => by
    obtain ⟨ws', e1, r⟩ := h 0 ys rfl
    cases e1
    exact r.append (Vals.flat (by simpa using e) fun i zs q => h (i + 1) zs q)
theorem choose_list {α β : Type} {P : α → β → Prop} : ∀ (l : List α), (∀ a ∈ l, ∃ b, P a b) → ∃ bs : List β, bs.length = l.length ∧ ∀ (i : Nat) a, l[i]? = some a → ∃ b, bs[i]? = some b ∧ P a b
  | [], _ => ⟨[], rfl, fun i a h => by simp at h⟩
  | a :: l, h => by
    obtain ⟨b, hb⟩ := h a List.mem_cons_self
    obtain ⟨bs, e, hbs⟩ := choose_list l fun x hx => h x (List.mem_cons_of_mem _ hx)
    refine ⟨b :: bs, by simp [e], fun i x q => ?_⟩
    cases i with
    | zero => cases q; exact ⟨b, rfl, hb⟩
    | succ i => exact hbs i x q
theorem cr_sumTs (hc : X.calm = true) : CallR X (.builtin "sum") (rSumTs X.K) := by
  intro pins s σ H vs us Q I r h
  obtain ⟨l, t, ps, yss, rfl, hl, ht, hlen, hy, hz, q0, q1, q2⟩ := h
  obtain ⟨ul, ut, rfl, rl, rt⟩ : ∃ a b, us = [a, b] ∧ RelV (.ref l) a ∧ RelV (.ref t) b := by
    cases r with | cons a r => cases r with | cons b r => cases r; exact ⟨_, _, rfl, a, b⟩
  cases rl; cases rt
  obtain ⟨its, rv, pl, _⟩ := I.list hl
  have ei := Vals.refs rv
  subst ei
  obtain ⟨i0, r0, pt, _⟩ := I.tuple ht
  cases r0
  obtain ⟨wss, lw, hws⟩ := choose_list (P := fun (a : Addr × List V) (ws : List Value) => Vals a.2 ws ∧ IsTup s.heap a.1 ws.toArray) (ps.zip yss) fun a ha => by
    obtain ⟨i, hi⟩ := List.getElem?_of_mem ha
    obtain ⟨e1, e2⟩ := List.getElem?_zip_eq_some.mp hi
    obtain ⟨ys, e3, hq⟩ := hy i a.1 e1
    rw [e2] at e3; cases e3
    obtain ⟨w, rw', pw, _⟩ := I.tuple hq
    exact ⟨w, rw', pw⟩
  have lw' : wss.length = ps.length := by rw [lw, List.length_zip, hlen, Nat.min_self]
  have hat : ∀ (i : Nat) p, ps[i]? = some p → ∃ ys ws, yss[i]? = some ys ∧ wss[i]? = some ws ∧ SqT X.K H p ys ∧ Vals ys ws ∧ IsTup s.heap p ws.toArray := fun i p e => by
    obtain ⟨ys, e3, hq⟩ := hy i p e
    obtain ⟨ws, e4, rw', pw⟩ := hws i (p, ys) (List.getElem?_zip_eq_some.mpr ⟨e, e3⟩)
    exact ⟨ys, ws, e3, e4, hq, rw', pw⟩
  have rfl' : Vals yss.flatten wss.flatten := Vals.flat (by rw [hlen, lw']) fun i ys e => by
    have hi : i < ps.length := by rw [← hlen]; exact (List.getElem?_eq_some_iff.mp e).1
    obtain ⟨ys', ws, e3, e4, _, rw', _⟩ := hat i _ (List.getElem?_eq_getElem hi)
    rw [e] at e3; cases e3
    exact ⟨ws, e4, rw'⟩
  have det : ∀ {h : Heap} {a : Addr} {x y : Array Value}, IsTup h a x → IsTup h a y → x = y := fun ⟨o, e, _, n, d⟩ ⟨o', e', _, n', d'⟩ => by
    rw [e] at e'; cases e'
    rw [d] at d'; cases d'; rfl
  refine call_function_tree F.kind_sum F.plain_sum F.entry_sum (args_sum2 _ _) ?_
  unfold Builtin.«sum»
  simp only [List.length_cons, List.length_nil]
  rw [if_neg (by decide)]
  refine wpAny_bind (wpAny_of_eq (show Builtin.Builtins.bindParams "sum" ["start"] 0 { pos := [.ref t] } = pure [some (.ref t)] from rfl) ?_)
  refine wpAny_bind (wpAny_pyIter_list pl.isList ?_)
  refine wpAny_bind (wpAny_pure ?_)
  have tt : ∀ (h' : Heap) (tk : Nat), (∀ b o, s.heap.get? b = some o → h'.get? b = some o) → Shared.TypeIs { s with heap := h', toks := tk } (.ref t) "tuple" := fun h' tk k => by
    obtain ⟨o, e, c, _⟩ := pt
    exact ⟨o, k _ _ e, c⟩
  have kp : ∀ b o, s.heap.get? b = some o → (s.heap.push { cls := .type "list_iterator", data := .fields #[.ref l, .int 0 0] }).get? b = some o := fun b o e => Heap.get?_push_of_some _ e
  simp only [List.forIn_cons, List.forIn_nil]
  refine wpAny_bind (wpAny_bind (wpAny_bind (wpAny_isInstance (T := "tuple") (b := false) (tt _ _ kp) F.sub_tuple_str ?_)))
  simp only [Bool.false_eq_true, if_false]
  refine wpAny_pure (wpAny_bind (wpAny_bind (wpAny_isInstance (T := "tuple") (b := false) (tt _ _ kp) F.sub_tuple_bytes ?_)))
  simp only [Bool.false_eq_true, if_false]
  refine wpAny_pure (wpAny_bind (wpAny_bind (wpAny_isInstance (T := "tuple") (b := false) (tt _ _ kp) F.sub_tuple_bytearray ?_)))
  simp only [Bool.false_eq_true, if_false]
  refine wpAny_pure (wpAny_pure ?_)
  refine wpAny_bind (wpAny_newObj_type ?_)
  have hlt : t < s.heap.objs.size := by obtain ⟨o, e, _⟩ := pt; exact Heap.lt_size e
  have zz : (s.heap.push { cls := .type "list_iterator", data := .fields #[.ref l, .int 0 0] }).objs.size = s.heap.objs.size + 1 := Heap.size_push _ _
  have none_at : ∀ a, s.heap.objs.size ≤ a → s.heap.get? a = none := fun a ha => by
    cases e : s.heap.get? a with
    | none => rfl
    | some o => exact absurd (Nat.lt_of_lt_of_le (Heap.lt_size e) ha) (Nat.lt_irrefl _)
  refine wpAny_pure ⟨plainId_quiet F.plain_sum_loop _, ?_⟩
  refine HT.sum_loopT (s := s) (h0 := s.heap) (t := t) (ps := ps) (wss := wss) (it := s.heap.objs.size) (S := (s.heap.push { cls := .type "list_iterator", data := .fields #[.ref l, .int 0 0] }).objs.size) (I.ok.hd hc) pl.isList (fun i p e => by
    obtain ⟨ys, ws, _, e4, _, _, pw⟩ := hat i p e
    exact ⟨ws, e4, pw⟩) lw' (by rw [← rfl'.length]; exact hz) (none_at _ (Nat.le_refl _)) (none_at _ (Nat.le_trans (Nat.le_succ _) (Nat.le_of_eq zz.symm))) (Nat.ne_of_lt (Nat.lt_of_lt_of_eq (Nat.lt_succ_self _) zz.symm)) (Nat.lt_succ_of_lt (Nat.lt_succ_self _)) (Nat.lt_of_le_of_lt (Nat.le_of_eq zz) (Nat.lt_succ_self _)) (fun h' tk p k sa => ?_) ps.length 0 _ s.toks _ t (Nat.sub_zero _) (Nat.zero_le _) ⟨_, Heap.get?_push_of_some _ (Heap.get?_push_size _ rfl), rfl, rfl⟩ (Heap.get?_push_size _ rfl)
      (fun b o e => Heap.get?_push_of_some _ (kp b o e)) (by rw [Heap.size_push, zz]; exact Nat.le_refl _) ⟨?_, .inl List.mem_cons_self⟩ (Nat.ne_of_lt hlt) (Nat.ne_of_lt (Nat.lt_of_lt_of_eq (Nat.lt_succ_of_lt hlt) zz.symm))
  · obtain ⟨tp, old | ⟨ge, nw⟩⟩ := sa
    · refine ⟨.ref p, H, I.kept (t' := tk) k, rfl, ?_⟩
      rcases List.mem_cons.mp old with rfl | hp
      · obtain ⟨o, e, q⟩ := pt
        have e1 := det tp ⟨o, k _ _ e, q⟩
        have e2 : wss.flatten = [] := by simpa using congrArg Array.toList e1
        rw [e2] at rfl'
        exact q0 (List.eq_nil_of_length_eq_zero rfl'.length)
      · obtain ⟨i, hi⟩ := List.getElem?_of_mem hp
        obtain ⟨ys, ws, e3, e4, hq, rv', ⟨o, e, q⟩⟩ := hat i p hi
        have e1 := det tp ⟨o, k _ _ e, q⟩
        have e2 : wss.flatten = ws := by simpa using congrArg Array.toList e1
        rw [e2] at rfl'
        exact q1 i p ys hi e3 (Vals.inj rv' rfl')
    · refine ⟨.ref p, _, I.laid (t' := tk) (o := .tup yss.flatten) k ge ?_, rfl, q2 p (I.hok.fresh ge)⟩
      exact ⟨hz, nd_at nw rfl, _, rfl', tp⟩
  · obtain ⟨o, e, q⟩ := pt
    exact ⟨o, Heap.get?_push_of_some _ (kp _ _ e), q⟩
end
end L2
namespace DL
open PySem PySem.Spec PyProof.Rows L2 DS
section
variable {X : Cx} {K : PySem.W.Frag} {M M1 : Mk} {H H1 : Hp} {a b e : Expr} {es : List Expr} {wa wb we : DTE} {pos : Pos}

def rdSumTs : DN := fun ds R => twoP ds fun x y => y = .tup [] ∧ x.lstP fun ts => ∃ yss : List (List D), ts = yss.map D.tup ∧ yss.flatten.length ≤ sizeLine ∧ R (.tup yss.flatten)
theorem tups_at : ∀ {vs : List V} {yss : List (List D)}, DRs K M H vs (yss.map D.tup) → ∃ (ps : List Addr) (zss : List (List V)), vs = ps.map V.ref ∧ zss.length = ps.length ∧ (∀ (i : Nat) p, ps[i]? = some p → ∃ zs, zss[i]? = some zs ∧ TpR K M H p zs) ∧ DRs K M H zss.flatten yss.flatten
  | vs, [], h => by cases h; exact ⟨[], [], rfl, rfl, fun i p e => by simp at e, .nil⟩
  | vs, ys :: yss, h => by
    cases h with
    | cons h1 h2 =>
      cases h1 with
      | tup q r =>
        rename_i a zs
        obtain ⟨ps, zss, rfl, hl, hat, hr⟩ := tups_at h2
        refine ⟨a :: ps, zs :: zss, rfl, by simp [hl], fun i p e => ?_, r.append hr⟩
        cases i with
        | zero => cases e; exact ⟨zs, rfl, q⟩
        | succ i => exact hat i p e
theorem cp_sumTs : CpN K (rSumTs K) rdSumTs := by
  intro M H xs ds R Q w dvs h0 o
  obtain ⟨x, y, rfl, rfl, q⟩ := twoP_ex h0
  obtain ⟨v, v', rfl, h, h'⟩ := dvs.two
  obtain ⟨ts, l, vs, ⟨yss, rfl, hz, q⟩, rfl, hq, hd⟩ := h.listOf q
  obtain ⟨t, z0, rfl, ht, hd0⟩ := h'.tuple
  cases hd0
  obtain ⟨ps, zss, rfl, hl, hat, hr⟩ := tups_at hd
  refine ⟨l, t, ps, zss, rfl, hq, ht, hl, fun i p e => ?_, by rw [hr.length]; exact hz, fun e => ?_, fun i p zs e1 e2 e3 => ?_, fun p hp => ?_⟩
  · obtain ⟨zs, e1, e2⟩ := hat i p e
    exact ⟨zs, e1, e2.sq⟩
  · rw [e] at hr
    generalize yss.flatten = ds at hr q
    cases hr
    exact o.now w q h'
  · obtain ⟨zs', e4, e5⟩ := hat i p e1
    rw [e2] at e4; cases e4
    exact o.now w q (v := .ref p) (.inl (.tup (e3 ▸ e5) hr))
  · obtain ⟨e2, dr⟩ := newTup w hp hr
    exact o _ _ _ _ q e2 (.inl dr)
end
end DL
namespace L2
open PySem PySem.Spec PyProof.Rows

def rRemI : V → List V → Hp → VK → Prop := fun x vs H Q => ∃ (l : Addr) (ns : List Int) (k : Int), x = .ref l ∧ vs = [.int k] ∧ H l = some (.lst (ns.map V.int)) ∧ k ∈ ns ∧ Q .non (upd H l (.lst ((ns.erase k).map V.int)))
def isK (k : Int) : Value → Bool
  | .int i _ => i == k
  | _ => false
theorem erase_at {k : Int} : ∀ {ns : List Int}, k ∈ ns → ∃ j : Nat, ns[j]? = some k ∧ (∀ m n, m < j → ns[m]? = some n → n ≠ k) ∧ ns.erase k = ns.eraseIdx j
  | n :: ns, h => by
    by_cases e : n = k
    · subst e
      exact ⟨0, rfl, fun m _ z => absurd z (Nat.not_lt_zero _), by simp⟩
    · have hm : k ∈ ns := (List.mem_cons.mp h).resolve_left fun z => e z.symm
      obtain ⟨j, h1, h2, h3⟩ := erase_at hm
      refine ⟨j + 1, h1, fun m x z q => ?_, ?_⟩
      · cases m with
        | zero => cases q; exact e
        | succ m => exact h2 m x (by omega) q
      · rw [List.erase_cons_tail (by simpa using e), h3]; rfl
theorem map_erase {α β : Type} (f : α → β) : ∀ (l : List α) {j : Nat}, (l.map f).eraseIdx j = (l.eraseIdx j).map f
  | [], _ => rfl
  | a :: l, 0 => rfl
  | a :: l, j + 1 => congrArg (f a :: ·) (map_erase f l)
theorem mt_removeI {X : Cx} : MtM X "list.remove" rRemI := by
  intro pins s σ H x vs v us Q I rx rv h
  obtain ⟨l, ns, k, rfl, rfl, hH, hk, q⟩ := h
  cases rx
  obtain ⟨u, rfl, ru⟩ := rv.one
  obtain ⟨t, rfl⟩ := ru
  obtain ⟨z, its, n, r, hl, e⟩ := I.lstM hH
  obtain ⟨j, h1, h2, h3⟩ := erase_at hk
  have at' : ∀ (m : Nat) y, its[m]? = some y → ∃ n t, ns[m]? = some n ∧ y = .int n t := fun m y hy => by
    have hm : m < (ns.map V.int).length := by rw [hl]; exact (List.getElem?_eq_some_iff.mp hy).1
    have hm' : m < ns.length := by simpa using hm
    obtain ⟨u, hu, ru⟩ := r.get (i := m) (x := .int ns[m]) (by simp [hm'])
    rw [hy] at hu; cases hu
    obtain ⟨t, rfl⟩ := ru
    exact ⟨_, t, List.getElem?_eq_getElem hm', rfl⟩
  have hjl : j < its.length := by rw [← hl, List.length_map]; exact (List.getElem?_eq_some_iff.mp h1).1
  have hj : j < its.toArray.size := by simpa using hjl
  refine call_meets F.slot_list_remove ⟨_, e, rfl⟩ F.entry_list_remove (F.args_list_remove_2 _ _)
    (MeetsSeq.list_remove l its.toArray n (.int k t) (isK k) (fun y hy => ?_) j hj ?_ ?_ (by rw [List.size_toArray, ← hl]; exact z)) ⟨e, ?_⟩
  · obtain ⟨m, hm⟩ := List.getElem?_of_mem (List.mem_toArray.mp hy)
    obtain ⟨n, t', _, rfl⟩ := at' m y hm
    exact MeetsSeq.EqGives.int n k t' t
  · obtain ⟨n, t', e1, e2⟩ := at' j _ (List.getElem?_eq_getElem hjl)
    rw [h1] at e1; cases e1
    have : its.toArray[j] = .int k t' := by simpa using e2
    rw [this]; simp [isK]
  · intro m hm hmj
    have hml : m < its.length := by simpa using hm
    obtain ⟨n, t', e1, e2⟩ := at' m _ (List.getElem?_eq_getElem hml)
    have : its.toArray[m] = .int n t' := by simpa using e2
    rw [this]
    simpa [isK] using h2 m n hmj e1
  · refine ⟨.non, _, I.lset (its' := its.eraseIdx j) hH e ?_ ?_ ?_, rfl, q⟩
    · simp
    · have := r.eraseIdx j
      rw [h3]; exact map_erase V.int ns ▸ this
    · rw [List.length_map, h3]
      exact Nat.le_trans (List.length_eraseIdx_le _ _) (by simpa using z)
end L2
namespace DL
open PySem PySem.Spec PyProof.Rows L2 DS
section
variable {X : Cx} {e : Expr} {pos : Pos}
def wRemI (i : Nat) (ta : DTA) : DTS := fun DD ρ => ownP ρ[i]? fun es => ∃ ns : List Int, es = ns.map .int ∧ ta ρ fun ds => oneP ds fun d => d.intP fun k => k ∈ ns ∧ DD.nx (ρ.set i (some (.own ((ns.erase k).map .int))))
theorem jds_remI {i : Nat} {x : Str} {px apos cpos : Pos} {ta : DTA} (hN : X.N[i]? = some x) (hv : Vis X.env.scope x) (ha : JA X [e] ta) (hd : (x == ("__debug__" : Str)) = false := by decide) (hcd : (x == ("__classdict__" : Str)) = false := by decide)
    (hs : swapsWith (.Call (.Attribute (.Name x px) "remove" apos) [e] [] cpos) none pos.line X.env = pure false := by rfl)
    (hfew : ((backTo cpos (starEach [e] X.env)).all (fun x => !x.1) && (backToKw cpos (keywordEach [] X.env)).all (fun x => x.1.isSome) && decide ([e].length + ([] : List Keyword).length + (if ([] : List Keyword).isEmpty then 0 else 1) < 30)) = true := by rfl)
    (hline : (apos.endLine == cpos.line) = true := by rfl) (hst : starEach [e] X.env = (false, eval e X.env) :: starEach [] X.env := by rfl) (hpl : (backTo cpos (starEach [] X.env)).any (·.1) = false := by rfl) (hb : attributeBase (.Name x px) "remove" X.env (eval (.Name x px) X.env) = eval (.Name x px) X.env := by rfl) :
    JS X (.Expr (.Call (.Attribute (.Name x px) "remove" apos) [e] [] cpos) pos) (wRemI i ta) :=
  ⟨psC (ps_expr (pe_bm PySem.F.plainAttrs_list PySem.F.slot_list_remove PySem.F.type_list_remove mt_removeI (pe_var hN hv hd hcd) ha.p hb hfew hline hst hpl) hs) fun E σ H ⟨M, ρ, DD, w, r, q, o⟩ => by
  obtain ⟨es, hes, ns, rfl, q⟩ := ownP_ex q
  obtain ⟨p, vs, hs, m2, hp, hd⟩ := r.own hes
  have ev := hd.ints
  subst ev
  refine ⟨_, hs, .inl ⟨rfl, _, .inl (.inl hp)⟩, M, ρ, _, w, r, q, fun us ds M1 H1 q1 e1 dvs => ?_⟩
  obtain ⟨d, rfl, q2⟩ := oneP_ex q1
  obtain ⟨k, rfl, hk, q3⟩ := D.intP_ex q2
  obtain ⟨v, rfl, dv⟩ := dvs.one
  cases dv.int
  obtain ⟨hp1, mm⟩ := e1.keep p _ hp (by rw [m2]; decide)
  refine ⟨p, ns, k, rfl, rfl, hp1, hk, ?_⟩
  exact o.nx _ _ M1 _ q3 (ExtS.fill e1 m2 (mm.trans m2) _) ((r.ext e1).fill hes hs (mm.trans m2) (.ofInts _))⟩
end
end DL

set_option Elab.async false
set_option linter.all false
set_option maxRecDepth 100000
set_option maxHeartbeats 4000000
namespace DL
open PySem PySem.Spec PyProof.Rows L2 DS
variable {m d : Int} {xs : List Int}

theorem mem_oth {j : Int} : j ∈ othF m xs ↔ (0 ≤ j ∧ j < m) ∧ ¬ j ∈ xs := by
  unfold othF
  rw [List.mem_filter, mem_rngI]
  simp
theorem Rnd.uniq {w w' : Int} (a : Rnd m d w) (b : Rnd m d w') : w = w' := by
  have h1 := a.lo
  have h2 := b.lo
  rcases Int.lt_trichotomy w w' with q | q | q
  · exact absurd a.zero (b.least w h1 q)
  · exact q
  · exact absurd b.zero (a.least w' h2 q)
theorem turn_zero {n : Int} : n * (m - d) % m = 0 ↔ n * d % m = 0 := by
  have e : n * (m - d) = -(n * d) + m * n := by rw [Int.mul_sub, Int.mul_comm m n]; omega
  rw [e, Int.add_mul_emod_self_left]
  constructor
  · intro h; have := neg_zero h; rwa [Int.neg_neg] at this
  · exact neg_zero
theorem rnd_turn (hm : Ring m) : rndF m (m - d) = rndF m d := by
  have a := rnd_is (d := m - d) hm
  have b := rnd_is (d := d) hm
  refine Rnd.uniq (d := m - d) a ⟨b.lo, b.hi, turn_zero.mpr b.zero, fun n h0 h1 z => b.least n h0 h1 (turn_zero.mp z)⟩

theorem whole_iff (hm : Ring m) {f : Int} : runF m xs d f = rndF m d ↔ ∀ i, (f + i * d) % m ∈ xs := by
  have w := rnd_is (d := d) hm
  have w1 := w.lo
  constructor
  · intro e i
    have r := run_is (xs := xs) (d := d) hm f
    rw [← pt_mod hm]
    exact r.all _ (Int.emod_nonneg _ (by omega)) (by rw [e]; exact Int.emod_lt_of_pos _ (by omega))
  · intro h
    exact run_eq ⟨by omega, Int.le_refl _, fun i _ _ => h i, fun z => absurd z (Int.lt_irrefl _)⟩
theorem whole_turn (hm : Ring m) {f : Int} : runF m xs (m - d) f = rndF m (m - d) ↔ runF m xs d f = rndF m d := by
  rw [whole_iff hm, whole_iff hm]
  have key : ∀ i, (f + i * (m - d)) % m = (f + -i * d) % m := fun i => by
    have e : f + i * (m - d) = f + -i * d + m * i := by rw [Int.mul_sub, Int.neg_mul, Int.mul_comm m i]; omega
    rw [e, Int.add_mul_emod_self_left]
  constructor
  · intro h i
    have := h (-i)
    rwa [key, Int.neg_neg] at this
  · intro h i
    rw [key]; exact h _
def wholeB (m : Int) (xs : List Int) (d f : Int) : Bool := decide (runF m xs d f = rndF m d) && decide (f < m / rndF m d)
def wholesF (m : Int) (xs : List Int) (d : Int) : List Int := xs.filter (wholeB m xs d)
theorem wholes_turn (hm : Ring m) : wholesF m xs (m - d) = wholesF m xs d := by
  unfold wholesF
  refine List.filter_congr fun f _ => ?_
  unfold wholeB
  rw [rnd_turn hm, ← rnd_turn (d := d) hm]
  have : decide (runF m xs (m - d) f = rndF m (m - d)) = decide (runF m xs d f = rndF m d) := by
    by_cases q : runF m xs d f = rndF m d
    · rw [decide_eq_true q, decide_eq_true ((whole_turn hm).mpr q)]
    · rw [decide_eq_false q, decide_eq_false fun z => q ((whole_turn hm).mp z)]
  rw [this, rnd_turn hm]

theorem lens_split (hm : Ring m) (hx : IsSt m xs) : ((runsF m xs d).map fun q => q.2).Perm ((startsF m xs d).map (runF m xs d) ++ (wholesF m xs d).map (runF m xs d)) := by
  unfold runsF
  rw [List.map_map, ← List.map_append]
  refine List.Perm.map _ ?_
  have p := (List.filter_append_perm (fun f => !decide ((f - d) % m ∈ xs)) (xs.filter (stB m xs d))).symm
  have e1 : (xs.filter (stB m xs d)).filter (fun f => !decide ((f - d) % m ∈ xs)) = startsF m xs d := by
    rw [List.filter_filter]
    refine List.filter_congr fun f _ => ?_
    unfold stB
    cases decide ((f - d) % m ∈ xs) <;> simp
  have e2 : (xs.filter (stB m xs d)).filter (fun f => !(!decide ((f - d) % m ∈ xs))) = wholesF m xs d := by
    unfold wholesF
    rw [List.filter_filter]
    refine List.filter_congr fun f hf => ?_
    by_cases q : (f - d) % m ∈ xs
    · unfold stB wholeB; simp [q]
    · have lt := (start_run hm hx (mem_starts.mpr ⟨hf, q⟩)).2
      have ne : ¬ runF m xs d f = rndF m d := by omega
      unfold stB wholeB; simp [q, ne]
  rw [e1, e2] at p
  exact p
theorem perm_of_bij {l k : List Int} (f : Int → Int) (hl : l.Nodup) (hk : k.Nodup) (inj : ∀ a ∈ l, ∀ b ∈ l, f a = f b → a = b) (h1 : ∀ a ∈ l, f a ∈ k) (h2 : ∀ b ∈ k, ∃ a ∈ l, f a = b) : (l.map f).Perm k := by
  refine (List.perm_ext_iff_of_nodup (nodup_mapOn inj hl) hk).mpr fun b => ?_
  rw [List.mem_map]
  exact ⟨fun ⟨a, ha, e⟩ => e ▸ h1 a ha, h2 b⟩
theorem starts_nodup (hx : IsSt m xs) : (startsF m xs d).Nodup := hx.nodup.filter _

theorem gaps_others (hm : Ring m) (hx : IsSt m xs) (d0 : 1 ≤ d) (d1 : d < m) : (gapsF m (othF m xs) d).Perm ((startsF m xs d).map (runF m xs d)) := by
  have co : IsSt m (othF m xs) := othF_st
  have w := rnd_is (d := d) hm
  rw [gaps_eq hm co]
  have inn : ∀ a : Int, ¬ a % m ∈ othF m xs → a % m ∈ xs := fun a h => Classical.byContradiction fun q => h (mem_oth.mpr ⟨⟨Int.emod_nonneg _ (by have := hm.lo; omega), Int.emod_lt_of_pos _ (by have := hm.lo; omega)⟩, q⟩)
  have out : ∀ a : Int, a % m ∈ othF m xs → ¬ a % m ∈ xs := fun a h => (mem_oth.mp h).2
  -- the first number behind
  have sh : ∀ e i : Int, ((e + d) % m + i * d) % m = (e + (i + 1) * d) % m := fun e i => by
    rw [Int.add_emod, Int.emod_emod, ← Int.add_emod, Int.add_mul, Int.one_mul]; congr 1; omega
  have key : ∀ g ∈ startsF m (othF m xs) d, gapF m (othF m xs) d (endF m (othF m xs) d g) = runF m xs d ((endF m (othF m xs) d g + d) % m) := fun g hg => by
    have he := end_in hm co hg
    generalize endF m (othF m xs) d g = e at he
    have gp := gap_is (d := d) hm he
    generalize gapF m (othF m xs) d e = n at gp
    symm
    refine run_eq ⟨gp.lo, ?_, fun i i0 i1 => ?_, fun _ => ?_⟩
    · refine Classical.byContradiction fun q => ?_
      have := gp.no (rndF m d) w.lo (by omega)
      rw [Int.add_emod, w.zero, Int.add_zero, Int.emod_emod] at this
      exact this he
    · rw [sh]; exact inn _ (gp.no (i + 1) (by omega) (by omega))
    · rw [sh]; exact out _ gp.yes
  have e1 : (startsF m (othF m xs) d).map (fun f => gapF m (othF m xs) d (endF m (othF m xs) d f)) = ((startsF m (othF m xs) d).map fun g => (endF m (othF m xs) d g + d) % m).map (runF m xs d) := by
    rw [List.map_map]
    exact List.map_congr_left key
  rw [e1]
  refine List.Perm.map _ (perm_of_bij _ (starts_nodup co) (starts_nodup hx) (fun a ha b hb e => ?_) (fun g hg => ?_) fun f hf => ?_)
  · have e2 := cg e (-d)
    have cm : ∀ a b : Int, (a % m + b) % m = (a + b) % m := fun a b => by rw [Int.add_emod, Int.emod_emod, ← Int.add_emod]
    rw [show endF m (othF m xs) d a + d + -d = endF m (othF m xs) d a by omega, show endF m (othF m xs) d b + d + -d = endF m (othF m xs) d b by omega] at e2
    rcases Int.le_total (runF m (othF m xs) d a) (runF m (othF m xs) d b) with q | q
    · exact start_inj hm co ha hb q e2
    · exact (start_inj hm co hb ha q e2.symm).symm
  · have s := start_run hm co hg
    have r := run_is (xs := othF m xs) (d := d) hm g
    refine mem_starts.mpr ⟨inn _ ?_, ?_⟩
    · have := r.stop s.2
      unfold endF
      rw [show g + (runF m (othF m xs) d g - 1) * d + d = g + runF m (othF m xs) d g * d by rw [Int.sub_mul]; omega]
      exact this
    · have he := end_in hm co hg
      rw [Int.sub_emod, Int.emod_emod, ← Int.sub_emod, show endF m (othF m xs) d g + d - d = endF m (othF m xs) d g by omega]
      exact out _ he
  · obtain ⟨h1, h2⟩ := mem_starts.mp hf
    have f0 := hx.lo f h1
    have f1 := hx.hi f h1
    have he : (f - d) % m ∈ othF m xs := mem_oth.mpr ⟨⟨Int.emod_nonneg _ (by omega), Int.emod_lt_of_pos _ (by omega)⟩, h2⟩
    have hn : ¬ (f - d + d) % m ∈ othF m xs := by
      rw [show f - d + d = f by omega, emod_self f0 f1]
      exact fun z => (mem_oth.mp z).2 h1
    obtain ⟨g, hg, e⟩ := end_of hm co d0 d1 he hn
    refine ⟨g, hg, ?_⟩
    have e2 := cg e d
    rw [e2, show f - d + d = f by omega, emod_self f0 f1]

theorem starts_turn (hm : Ring m) (hx : IsSt m xs) (d0 : 1 ≤ d) (d1 : d < m) : ((startsF m xs (m - d)).map (runF m xs (m - d))).Perm ((startsF m xs d).map (runF m xs d)) := by
  have w := rnd_is (d := d) hm
  have turn : ∀ a i : Int, (a + i * (m - d)) % m = (a - i * d) % m := fun a i => by
    have e : a + i * (m - d) = a - i * d + m * i := by rw [Int.mul_sub, Int.mul_comm m i]; omega
    rw [e, Int.add_mul_emod_self_left]
  have md : ∀ a i : Int, (a % m - i) % m = (a - i) % m := fun a i => by rw [Int.sub_emod, Int.emod_emod, ← Int.sub_emod]
  have mst : ∀ e : Int, e ∈ startsF m xs (m - d) ↔ e ∈ xs ∧ ¬ (e + d) % m ∈ xs := fun e => by
    rw [mem_starts]
    have : (e - (m - d)) % m = (e + d) % m := by
      have q := turn e (-1)
      rw [show e + -1 * (m - d) = e - (m - d) by omega, show e - -1 * d = e + d by omega] at q
      exact q
    rw [this]
  refine List.Perm.symm ?_
  have key : ∀ f ∈ startsF m xs d, runF m xs d f = runF m xs (m - d) (endF m xs d f % m) := fun f hf => by
    have s := start_run hm hx hf
    have r := run_is (xs := xs) (d := d) hm f
    have hs := (mem_starts.mp hf).2
    generalize hn : runF m xs d f = n at s r
    symm
    refine run_eq ⟨by omega, by rw [rnd_turn hm]; omega, fun i i0 i1 => ?_, fun _ => ?_⟩
    · rw [turn, md]
      unfold endF
      rw [hn, show f + (n - 1) * d - i * d = f + (n - 1 - i) * d by rw [Int.sub_mul (n - 1) i d]; omega]
      exact r.all _ (by omega) (by omega)
    · rw [turn, md]
      unfold endF
      rw [hn, show f + (n - 1) * d - n * d = f - d by rw [Int.sub_mul]; omega]
      exact hs
  have e1 : (startsF m xs d).map (runF m xs d) = ((startsF m xs d).map fun f => endF m xs d f % m).map (runF m xs (m - d)) := by
    rw [List.map_map]
    exact List.map_congr_left key
  rw [e1]
  refine List.Perm.map _ (perm_of_bij _ (starts_nodup hx) (starts_nodup hx) (fun a ha b hb e => ?_) (fun f hf => ?_) fun e he => ?_)
  · rcases Int.le_total (runF m xs d a) (runF m xs d b) with q | q
    · exact start_inj hm hx ha hb q e
    · exact (start_inj hm hx hb ha q e.symm).symm
  · have s := start_run hm hx hf
    have r := run_is (xs := xs) (d := d) hm f
    refine (mst _).mpr ⟨end_in hm hx hf, ?_⟩
    rw [Int.add_emod, Int.emod_emod, ← Int.add_emod]
    unfold endF
    rw [show f + (runF m xs d f - 1) * d + d = f + runF m xs d f * d by rw [Int.sub_mul]; omega]
    exact r.stop s.2
  · obtain ⟨h1, h2⟩ := (mst e).mp he
    have e0 := hx.lo e h1
    have e1 := hx.hi e h1
    obtain ⟨f, hf, q⟩ := end_of hm hx d0 d1 (e := e) (by rw [emod_self e0 e1]; exact h1) h2
    exact ⟨f, hf, by rw [q, emod_self e0 e1]⟩
theorem lens_turn (hm : Ring m) (hx : IsSt m xs) (d0 : 1 ≤ d) (d1 : d < m) : ((runsF m xs (m - d)).map fun q => q.2).Perm ((runsF m xs d).map fun q => q.2) := by
  refine (lens_split hm hx).trans (List.Perm.trans ?_ (lens_split hm hx).symm)
  refine List.Perm.append (starts_turn hm hx d0 d1) ?_
  rw [wholes_turn hm]
  have : (wholesF m xs d).map (runF m xs (m - d)) = (wholesF m xs d).map (runF m xs d) := by
    refine List.map_congr_left fun f hf => ?_
    have h := (List.mem_filter.mp hf).2
    unfold wholeB at h
    simp only [Bool.and_eq_true, decide_eq_true_eq] at h
    rw [(whole_turn hm).mpr h.1, rnd_turn hm, h.1]
  rw [this]

def rowsF (m : Int) (xs : List Int) (d : Int) : List (List Int) := (runsF m xs d).map fun q => rowF m q.1 d q.2
theorem row_mem4 {f k j : Int} : j ∈ rowF m f d k ↔ ∃ t, 0 ≤ t ∧ t < k ∧ (f + t * d) % m = j := by
  rw [mem_rowF]
  constructor
  · rintro ⟨t, h0, h1, e⟩; exact ⟨t, h0, h1, by rw [Int.mul_comm t d]; exact e⟩
  · rintro ⟨t, h0, h1, e⟩; exact ⟨t, h0, h1, by rw [Int.mul_comm d t]; exact e⟩
theorem st_cases {f : Int} (h : stB m xs d f = true) : (runF m xs d f = rndF m d ∧ f < m / rndF m d) ∨ ¬ (f - d) % m ∈ xs := by
  unfold stB at h
  simpa using h
theorem rows_meet (hm : Ring m) (hx : IsSt m xs) (d0 : 1 ≤ d) (d1 : d < m) {f g x : Int} (hf : f ∈ xs) (hg : g ∈ xs) (sf : stB m xs d f = true) (sg : stB m xs d g = true) (h1 : x ∈ rowF m f d (runF m xs d f)) (h2 : x ∈ rowF m g d (runF m xs d g)) : f = g := by
  obtain ⟨t, t0, t1, e1⟩ := row_mem4.mp h1
  obtain ⟨u, u0, u1, e2⟩ := row_mem4.mp h2
  have e := e1.trans e2.symm
  have f0 := hx.lo f hf
  have f1 := hx.hi f hf
  have g0 := hx.lo g hg
  have g1 := hx.hi g hg
  -- two starts
  have two : ∀ {f g t u : Int}, 0 ≤ f → f < m → 0 ≤ g → g < m → ¬ (f - d) % m ∈ xs → 0 ≤ t → t < u → u < runF m xs d g → (f + t * d) % m = (g + u * d) % m → False := fun {f g t u} f0 f1 g0 g1 sf t0 tu u1 e => by
    have r := run_is (xs := xs) (d := d) hm g
    have c := cg e (-((t + 1) * d))
    rw [show f + t * d + -((t + 1) * d) = f - d by rw [Int.add_mul]; omega, show g + u * d + -((t + 1) * d) = g + (u - t - 1) * d by rw [Int.sub_mul, Int.sub_mul, Int.add_mul]; omega] at c
    exact sf (c ▸ r.all (u - t - 1) (by omega) (by omega))
  -- a whole round and a start
  have one : ∀ {f g t u : Int}, runF m xs d f = rndF m d → ¬ (g - d) % m ∈ xs → (f + t * d) % m = (g + u * d) % m → False := fun {f g t u} w sg e => by
    have c := cg e (-((u + 1) * d))
    rw [show g + u * d + -((u + 1) * d) = g - d by rw [Int.add_mul]; omega, show f + t * d + -((u + 1) * d) = f + (t - u - 1) * d by rw [Int.sub_mul, Int.sub_mul, Int.add_mul]; omega] at c
    exact sg (c ▸ (whole_iff hm).mp w _)
  rcases st_cases sf with ⟨wf, lf⟩ | nf <;> rcases st_cases sg with ⟨wg, lg⟩ | ng
  · exact lst_uniq hm (mem_lsts.mpr ⟨⟨f0, f1⟩, (lst_iff hm d0 d1 f0 f1).mpr lf⟩) (mem_lsts.mpr ⟨⟨g0, g1⟩, (lst_iff hm d0 d1 g0 g1).mpr lg⟩) e
  · exact (one wf ng e).elim
  · exact (one wg nf e.symm).elim
  · rcases Int.lt_trichotomy t u with q | q | q
    · exact (two f0 f1 g0 g1 nf t0 q u1 e).elim
    · subst q
      have c := cg e (-(t * d))
      rw [show f + t * d + -(t * d) = f by omega, show g + t * d + -(t * d) = g by omega, emod_self f0 f1, emod_self g0 g1] at c
      exact c
    · exact (two g0 g1 f0 f1 ng u0 q t1 e.symm).elim
theorem rows_cover (hm : Ring m) (hx : IsSt m xs) (d0 : 1 ≤ d) (d1 : d < m) {x : Int} (hxx : x ∈ xs) : ∃ f ∈ xs, stB m xs d f = true ∧ x ∈ rowF m f d (runF m xs d f) := by
  have x0 := hx.lo x hxx
  have x1 := hx.hi x hxx
  have w := rnd_is (d := d) hm
  have r := run_is (xs := xs) (d := m - d) hm x
  have turn : ∀ a i : Int, (a + i * (m - d)) % m = (a - i * d) % m := fun a i => by
    have e : a + i * (m - d) = a - i * d + m * i := by rw [Int.mul_sub, Int.mul_comm m i]; omega
    rw [e, Int.add_mul_emod_self_left]
  rcases Int.lt_or_eq_of_le r.hi with q | q
  · generalize hn : runF m xs (m - d) x = n at r q
    have n1 : 1 ≤ n := by
      refine Classical.byContradiction fun z => ?_
      have := r.lo
      have e : n = 0 := by omega
      have := r.stop q
      rw [e, Int.zero_mul, Int.add_zero, emod_self x0 x1] at this
      exact this hxx
    rw [rnd_turn hm] at q
    have fi : (x - (n - 1) * d) % m ∈ xs := by rw [← turn]; exact r.all _ (by omega) (by omega)
    have md : ∀ a i : Int, (a % m - i) % m = (a - i) % m := fun a i => by rw [Int.sub_emod, Int.emod_emod, ← Int.sub_emod]
    have ad : ∀ a i : Int, (a % m + i) % m = (a + i) % m := fun a i => by rw [Int.add_emod, Int.emod_emod, ← Int.add_emod]
    have st : ¬ ((x - (n - 1) * d) % m - d) % m ∈ xs := by
      rw [md, show x - (n - 1) * d - d = x - n * d by rw [Int.sub_mul]; omega, ← turn]
      exact r.stop (by rw [rnd_turn hm]; exact q)
    refine ⟨(x - (n - 1) * d) % m, fi, by unfold stB; rw [decide_eq_false st]; exact Bool.or_true _, row_mem4.mpr ⟨n - 1, by omega, ?_, ?_⟩⟩
    · refine Classical.byContradiction fun z => ?_
      have s := run_is (xs := xs) (d := d) hm ((x - (n - 1) * d) % m)
      generalize runF m xs d ((x - (n - 1) * d) % m) = k at s z
      have := s.stop (by omega)
      rw [ad, show x - (n - 1) * d + k * d = x - (n - 1 - k) * d by rw [Int.sub_mul (n - 1) k d]; omega, ← turn] at this
      exact this (r.all _ (by omega) (by have := s.lo; omega))
    · rw [ad, show x - (n - 1) * d + (n - 1) * d = x by omega, emod_self x0 x1]
  · have wh := (whole_iff hm).mp ((whole_turn hm).mp q)
    obtain ⟨f, hf, i, hi, e⟩ := lst_of (d := d) hm x0 x1
    obtain ⟨⟨f0, f1⟩, lf⟩ := mem_lsts.mp hf
    obtain ⟨i0, i1⟩ := mem_rngI.mp hi
    have all : ∀ j, (f + j * d) % m ∈ xs := fun j => by
      have := wh (j - i)
      rw [← e, pt_pt, show i + (j - i) = j by omega] at this
      exact this
    have rw' : runF m xs d f = rndF m d := (whole_iff hm).mpr all
    have fx : f ∈ xs := by have := all 0; rwa [Int.zero_mul, Int.add_zero, emod_self f0 f1] at this
    refine ⟨f, fx, ?_, row_mem4.mpr ⟨i, i0, by rw [rw']; exact i1, e⟩⟩
    unfold stB
    rw [rw', decide_eq_true rfl, decide_eq_true ((lst_iff hm d0 d1 f0 f1).mp lf)]
    rfl
theorem rows_perm (hm : Ring m) (hx : IsSt m xs) (d0 : 1 ≤ d) (d1 : d < m) : (rowsF m xs d).flatten.Perm xs := by
  have e : (rowsF m xs d).flatten = (xs.filter (stB m xs d)).flatMap fun f => rowF m f d (runF m xs d f) := by
    unfold rowsF runsF
    rw [List.map_map]; rfl
  rw [e]
  have nd : ((xs.filter (stB m xs d)).flatMap fun f => rowF m f d (runF m xs d f)).Nodup := by
    refine List.pairwise_flatMap.mpr ⟨fun f _ => (rowF_st (f := f) (d := d) (k := runF m xs d f) hm).nodup, ?_⟩
    refine List.Pairwise.imp_of_mem (R := fun a b => a ≠ b) (fun {f g} hf hg ne x h1 y h2 z => ?_) (hx.nodup.filter _)
    subst z
    obtain ⟨f1, f2⟩ := List.mem_filter.mp hf
    obtain ⟨g1, g2⟩ := List.mem_filter.mp hg
    exact ne (rows_meet hm hx d0 d1 f1 g1 f2 g2 h1 h2)
  refine (List.perm_ext_iff_of_nodup nd hx.nodup).mpr fun x => ?_
  rw [List.mem_flatMap]
  constructor
  · rintro ⟨f, hf, h⟩
    obtain ⟨t, t0, t1, e⟩ := row_mem4.mp h
    exact e ▸ (run_is (xs := xs) (d := d) hm f).all t t0 t1
  · intro h
    obtain ⟨f, h1, h2, h3⟩ := rows_cover hm hx d0 d1 h
    exact ⟨f, List.mem_filter.mpr ⟨h1, h2⟩, h3⟩

theorem sums_row4 (hm : Ring m) (hx : IsSt m xs) (d0 : 1 ≤ d) (d1 : d < m) {k : Int} (k0 : 1 ≤ k) : ((sumsF m xs (rowF m 0 d k)).length : Int) = grownF m xs d k := by
  rw [grown_len hm hx k0]
  congr 1
  refine List.Perm.length_eq ((List.perm_ext_iff_of_nodup (sums_st hm).nodup (grow_nodup hm hx)).mpr fun j => ?_)
  rw [← grow_mem hm hx d0 d1 k0, mem_sumsF]
  constructor
  · rintro ⟨a, ha, b, hb, e⟩
    obtain ⟨t, t0, t1, rfl⟩ := row_mem4.mp hb
    refine ⟨t, t0, t1, a, ha, ?_⟩
    rw [← e, Int.zero_add, Int.add_emod a (t * d % m), Int.emod_emod, ← Int.add_emod]
  · rintro ⟨t, t0, t1, a, ha, e⟩
    refine ⟨a, ha, _, row_mem4.mpr ⟨t, t0, t1, rfl⟩, ?_⟩
    rw [← e, Int.zero_add, Int.add_emod a (t * d % m), Int.emod_emod, ← Int.add_emod]
theorem gap_one (hm : Ring m) (hx : IsSt m xs) : ∀ g ∈ gapsF m xs d, 1 ≤ g := by
  intro g hg
  rw [gaps_eq hm hx] at hg
  obtain ⟨f, hf, rfl⟩ := List.mem_map.mp hg
  have gp := gap_is (d := d) hm (end_in hm hx hf)
  have s := start_run hm hx hf
  have r := run_is (xs := xs) (d := d) hm f
  have st := r.stop s.2
  refine Classical.byContradiction fun z => ?_
  have e : gapF m xs d (endF m xs d f) = 0 := by have := gp.lo; omega
  have y := gp.yes
  rw [e] at y
  unfold endF at y
  rw [show f + (runF m xs d f - 1) * d + (0 + 1) * d = f + runF m xs d f * d by rw [Int.sub_mul]; omega] at y
  exact st y
theorem grown_two (hm : Ring m) (hx : IsSt m xs) : grownF m xs d 2 = (xs.length : Int) + ((gapsF m xs d).length : Int) := by
  unfold grownF
  have h := gap_one (d := d) hm hx
  have : ∀ l : List Int, (∀ g ∈ l, 1 ≤ g) → (l.map fun g => if (2 : Int) - 1 < g then 2 - 1 else g).sum = (l.length : Int) := fun l => by
    induction l with
    | nil => intro _; rfl
    | cons g l ih =>
      intro h
      have g1 := h g List.mem_cons_self
      rw [List.map_cons, List.sum_cons, ih fun x hx => h x (List.mem_cons_of_mem _ hx), List.length_cons]
      have : (if (2 : Int) - 1 < g then (2 : Int) - 1 else g) = 1 := by split <;> omega
      rw [this]; omega
  rw [this _ h]
theorem gaps_le (hm : Ring m) : (gapsF m xs d).length ≤ (runsF m xs d).length := by
  unfold gapsF
  rw [List.length_map]
  exact List.length_filter_le _ _
end DL

set_option Elab.async false
set_option linter.all false
set_option maxRecDepth 100000
set_option maxHeartbeats 4000000
namespace DL
open PySem PySem.Spec PyProof.Rows L2 DS
section
variable {X : Cx} {K : PySem.W.Frag} {M M1 : Mk} {H H1 : Hp} {a b c e : Expr} {pos : Pos}
theorem jds_setLcP {i' : Nat} {y : Str} {py : Pos} {elt iter tg : Expr} {ifs : List Expr} {scope : Scope} {own : List (Str × Nat)} {spos : Pos} {wi : DTI} {i i2 : Nat} {tt : DTT} {te : DTE} (hc : X.calm = true) (hN : X.N.Nodup) (hy : X.N[i']? = some y) (hyl : X.env.scope.names.lookup y = some .local)
    (hsw : swapsWith (.ListComp elt [⟨tg, iter, ifs, 0⟩] scope pos) (some (.Name y py)) spos.line X.env = pure true) (hii : i ∈ own.map (·.2)) (hii2 : i2 ∈ own.map (·.2)) (hi : JI X tg iter wi) (ok : BlkOk X.N X.env.scope scope own)
    (hg : ∀ (s : Shared) (H : Hp) (C : Addr) (cl : List (Str × Addr)) (fp : List Addr), PG (X.blk s H scope (compEnvC scope cl C X.env) fp) tg (gTup X.K 2 (gCons (gName i) (gCons (gName i2) gNil)))) (ht : ∀ (s : Shared) (H : Hp) (C : Addr) (cl : List (Str × Addr)) (fp : List Addr), JTs (X.blk s H scope (compEnvC scope cl C X.env) fp) ifs tt)
    (he : ∀ (s : Shared) (H : Hp) (C : Addr) (cl : List (Str × Addr)) (fp : List Addr), JE (X.blk s H scope (compEnvC scope cl C X.env) fp) elt te) (hs : ∀ x, foldedSetIterable iter X.env x = pure x := by intro _; rfl) :
    JS X (.Assign [.Name y py] (.ListComp elt [⟨tg, iter, ifs, 0⟩] scope pos) spos) (wAsg (wLcP wi i i2 tt te (own.map (·.2))) (wgName i')) := ⟨psC (ps_setLc hc hN hy hyl hsw hi.p ok hg (fun s H C cl fp => (ht s H C cl fp).p) (fun s H C cl fp => (he s H C cl fp).p) hs) fun E σ H ⟨M, ρ, DD, w, r, q, o⟩ => by
  refine td_lcP hii hii2 ⟨M, ρ, _, w, r, q, fun v d M1 H1 q1 e1 dv => ?_⟩
  obtain ⟨n, q1⟩ := q1
  exact o.nx _ _ M1 H1 q1 e1.toS ((r.ext e1).set (dv.dr n))⟩
theorem jds_setLcPN {i' : Nat} {y : Str} {py : Pos} {elt iter tg : Expr} {ifs : List Expr} {scope : Scope} {own : List (Str × Nat)} {spos : Pos} {wi : DTI} {i i2 : Nat} {tt : DTT} {te : DTE} (hc : X.calm = true) (hN : X.N.Nodup) (hy : X.N[i']? = some y) (hyl : X.env.scope.names.lookup y = some .local)
    (hsw : swapsWith (.ListComp elt [⟨tg, iter, ifs, 0⟩] scope pos) (some (.Name y py)) spos.line X.env = pure true) (hii : i ∈ own.map (·.2)) (hii2 : i2 ∈ own.map (·.2)) (hi : JI X tg iter wi) (ok : BlkOk X.N X.env.scope scope own)
    (hg : ∀ (s : Shared) (H : Hp) (C : Addr) (cl : List (Str × Addr)) (fp : List Addr), PG (X.blk s H scope (compEnvC scope cl C X.env) fp) tg (gTup X.K 2 (gCons (gName i) (gCons (gName i2) gNil)))) (ht : ∀ (s : Shared) (H : Hp) (C : Addr) (cl : List (Str × Addr)) (fp : List Addr), JTs (X.blk s H scope (compEnvC scope cl C X.env) fp) ifs tt)
    (he : ∀ (s : Shared) (H : Hp) (C : Addr) (cl : List (Str × Addr)) (fp : List Addr), JE (X.blk s H scope (compEnvC scope cl C X.env) fp) elt te) (hs : ∀ x, foldedSetIterable iter X.env x = pure x := by intro _; rfl) :
    JS X (.Assign [.Name y py] (.ListComp elt [⟨tg, iter, ifs, 0⟩] scope pos) spos) (wSetN i' (wNLcP wi i i2 tt te (own.map (·.2)))) := ⟨psC (ps_setLc hc hN hy hyl hsw hi.p ok hg (fun s H C cl fp => (ht s H C cl fp).p) (fun s H C cl fp => (he s H C cl fp).p) hs) fun E σ H ⟨M, ρ, DD, w, r, q, o⟩ =>
  tn_lcP hii hii2 ⟨M, ρ, _, w, r, q, fun p vs ds M1 H1 q1 e1 n m2 hp hd => o.nx _ _ M1 H1 q1 e1.toS (r.setOwn e1 n m2 hp hd)⟩⟩
end

theorem lcP_det {i i2 : Nat} {tt : DTT} {te : DTE} {ρw : DEnv} {fin : List D → Prop} {ps : List (Int × Int)} (p : Int × Int → Bool) (g : Int × Int → D) (ht : ∀ q ∈ ps, ∀ Q : Bool → Prop, Q (p q) → tt ((ρw.set i (some (.int q.1))).set i2 (some (.int q.2))) Q)
    (he : ∀ q ∈ ps, p q = true → ∀ Q : D → Prop, Q (g q) → te ((ρw.set i (some (.int q.1))).set i2 (some (.int q.2))) Q) (hn : ∀ q, (g q).nown = true) (hl : ps.length ≤ sizeLine) (h : fin ((ps.filter p).map g)) : compP i i2 tt te ρw fin (ps.map pD) [] := by
  refine ⟨fun rest acc => ∃ done l, ps = done ++ l ∧ rest = l.map pD ∧ acc = (done.filter p).map g, ⟨[], ps, rfl, rfl, rfl⟩, ?_, ?_⟩
  · rintro acc ⟨done, l, e, el, rfl⟩
    have : l = [] := by cases l with | nil => rfl | cons _ _ => cases el
    subst this
    rw [List.append_nil] at e
    subst e
    exact h
  · rintro d rest acc ⟨done, l, e, el, rfl⟩
    cases l with
    | nil => cases el
    | cons q l =>
      cases el
      have hq : q ∈ ps := by rw [e]; simp
      refine ⟨_, _, rfl, ht q hq _ ?_⟩
      cases hp : p q with
      | false =>
        rw [if_neg (by simp)]
        exact ⟨done ++ [q], l, by rw [e]; simp, rfl, by simp [hp]⟩
      | true =>
        rw [if_pos rfl]
        refine he q hq hp _ ⟨hn q, ?_, done ++ [q], l, by rw [e]; simp, rfl, by simp [hp]⟩
        have h1 := List.length_filter_le p done
        have h2 : ps.length = done.length + (l.length + 1) := by rw [e]; simp
        rw [List.length_map]
        omega
theorem sorted_uniq {xs ys : List Int} (h : xs.Perm ys) (a : xs.Pairwise (· ≤ ·)) (b : ys.Pairwise (· ≤ ·)) : xs = ys := List.Perm.eq_of_pairwise (fun _ _ _ _ => Int.le_antisymm) a b h
theorem rows_tups {m d : Int} {xs : List Int} : (runsF m xs d).map (fun q => tI (rowF m q.1 d q.2)) = ((rowsF m xs d).map fun r => r.map D.int).map D.tup := by
  unfold rowsF
  rw [List.map_map, List.map_map]; rfl
theorem rows_flat {m d : Int} {xs : List Int} : ((rowsF m xs d).map fun r => r.map D.int).flatten = (rowsF m xs d).flatten.map D.int := List.map_flatten.symm
theorem st_le {m : Int} {xs : List Int} (hx : IsSt m xs) : xs.Pairwise (· ≤ ·) := hx.up.imp fun h => Int.le_of_lt h
def prL (q : Int × Int) : List Int := [q.1, q.2]
theorem pDs_tI (ps : List (Int × Int)) : ps.map pD = (ps.map prL).map fun ns => D.tup (ns.map D.int) := by
  rw [List.map_map]; rfl

theorem ne_lSsame {l : List (List Int)} {A B : Prop} (b : B) : rdNeA (lS l) (lS l) fun d => d.blP fun k => if k = true then A else B := by
  show rdNe (lS l) (lS l) (fun d => d.blP fun k => if k = true then A else B)
  refine ⟨_, _, toP_lS l, toP_lS l, shaped_lS l, shaped_lS l, ?_⟩
  have h := shaped_lS l
  have e : PyData.eqv (.list (l.map tupP')) (.list (l.map tupP')) = true := SeqAt.eqv_refl _ (by
    unfold SeqAt.shaped at h
    simp only [Bool.and_eq_true] at h
    exact h.1)
  rw [e]
  exact b
theorem neIfP {ps : List (Int × Int)} {mss : List (List Int)} {A B : Prop} (h : mss = ps.map prL) (b : B) : rdNeA (.lst (mss.map tI)) (.lst (ps.map pD)) fun d => d.blP fun k => if k = true then A else B := by
  subst h
  rw [pDs_tI]
  exact ne_lSsame (l := ps.map prL) b
theorem runs_heads {m d : Int} {xs : List Int} (hx : IsSt m xs) : (((runsF m xs d).map prL).map fun ns => ns.headD 0).Pairwise (· < ·) := by
  have e : ((runsF m xs d).map prL).map (fun ns => ns.headD 0) = xs.filter (stB m xs d) := by
    unfold runsF
    rw [List.map_map, List.map_map]
    exact List.map_id' _
  rw [e]
  exact hx.up.filter _
theorem heads_nodup {l : List Int} (h : l.Pairwise (· < ·)) : l.Nodup := h.imp fun h => by omega

theorem mem_left {k : Int} {l rest extra : List Int} (h : l.Perm (k :: rest ++ extra)) : k ∈ l ∧ (l.erase k).Perm (rest ++ extra) := by
  refine ⟨h.symm.subset (by simp), ?_⟩
  have := h.erase k
  rw [List.cons_append, List.erase_cons_head] at this
  exact this
theorem notinO {x : Int} {ys : List Int} {A B : Prop} (h : x ∈ ys) (b : B) : rdNotInL (.int x) (.own (ys.map .int)) fun d => d.blP fun k => if k = true then A else B := by
  refine ⟨.int x, ys.map .int, rfl, toPs_ints ys, canLay_ints ys, by simp [PyData.canLay0], by simp [PyData.depth], ?_⟩
  have e : ((ys.map PyData.int).any fun z => PyData.eqv z (.int x)) = true := by
    rw [List.any_eq_true]
    exact ⟨.int x, List.mem_map.mpr ⟨x, h, rfl⟩, by simp [PyData.eqv]⟩
  rw [e]
  exact b
theorem lens_map {m d : Int} {xs : List Int} : ((runsF m xs d).filter fun _ => true).map (fun q => D.int q.2) = ((runsF m xs d).map fun q => q.2).map D.int := by
  rw [filter_yes, List.map_map]; rfl

theorem lens_gaps {m d : Int} {xs : List Int} (hm : Ring m) (hx : IsSt m xs) (d0 : 1 ≤ d) (d1 : d < m) : ∃ extra : List Int, ((runsF m xs d).map fun q => q.2).Perm (gapsF m (othF m xs) d ++ extra) ∧ extra.length + (gapsF m xs d).length = (runsF m xs d).length := by
  refine ⟨(wholesF m xs d).map (runF m xs d), (lens_split hm hx).trans (List.Perm.append_right _ (gaps_others hm hx d0 d1).symm), ?_⟩
  have := (lens_split (d := d) hm hx).length_eq
  rw [gaps_eq hm hx]
  simp only [List.length_map, List.length_append] at this ⊢
  omega
end DL

set_option Elab.async false
set_option linter.all false
set_option maxRecDepth 100000
set_option maxHeartbeats 4000000
namespace KW
open PySem PySem.Spec PyProof.Rows L2 DS DL
def top (i : Nat) : Stmt := PySem.Challenge.pw_twosetsums_k47_whole_runs_and_sums.main.body.getD i (.Pass ⟨0, 0, 0, 0⟩)
abbrev s_is_whole : Stmt := top 8
abbrev s_is_within : Stmt := top 9
abbrev s_check_within : Stmt := top 10
abbrev s_check_ring : Stmt := top 11
abbrev s_check_set : Stmt := top 12
abbrev s_check_pair : Stmt := top 13
abbrev s_set_of_rests : Stmt := top 14
abbrev s_is_set : Stmt := top 15
abbrev s_others : Stmt := top 16
abbrev s_check_step : Stmt := top 18
abbrev s_row_of : Stmt := top 19
abbrev s_round_many : Stmt := top 20
abbrev s_run_many : Stmt := top 21
abbrev s_runs_by : Stmt := top 22
abbrev s_longest_run : Stmt := top 23
abbrev s_gap_behind : Stmt := top 24
abbrev s_gaps : Stmt := top 25
abbrev s_grown_many : Stmt := top 27
abbrev s_sums : Stmt := top 29
abbrev s_l_cell : Stmt := top 31
abbrev s_l_pen : Stmt := top 32
abbrev s_l_draw : Stmt := top 33
abbrev s_l_ring : Stmt := top 34
abbrev s_l_set : Stmt := top 35
abbrev s_l_right : Stmt := top 36
abbrev s_law : Stmt := top 37
structure Txt (K : PySem.W.Frag) (mg : Str → Option Value) : Prop where
  b_bool : mg "bool" = none
  b_divmod : mg "divmod" = none
  b_int : mg "int" = none
  b_isinstance : mg "isinstance" = none
  b_len : mg "len" = none
  b_list : mg "list" = none
  b_max : mg "max" = none
  b_min : mg "min" = none
  b_range : mg "range" = none
  b_set : mg "set" = none
  b_sorted : mg "sorted" = none
  b_sum : mg "sum" = none
  b_tuple : mg "tuple" = none
  c_LEAST_RING : ∃ t, mg "LEAST_RING" = some (.int 2 t)
  c_GREATEST_RING : ∃ t, mg "GREATEST_RING" = some (.int 24 t)
  x_NoRing : ∃ C, mg "NoRing" = some (.ref C) ∧ PySem.W.nsIn K mainGlobals "NoRing" = some (some (.ref C)) ∧ PySem.W.excIn K C bmVE "ValueError.__new__" = true
  x_NoSet : ∃ C, mg "NoSet" = some (.ref C) ∧ PySem.W.nsIn K mainGlobals "NoSet" = some (some (.ref C)) ∧ PySem.W.excIn K C bmVE "ValueError.__new__" = true
  x_NoNumber : ∃ C, mg "NoNumber" = some (.ref C) ∧ PySem.W.nsIn K mainGlobals "NoNumber" = some (some (.ref C)) ∧ PySem.W.excIn K C bmVE "ValueError.__new__" = true
section
variable {P : Program} {w : World} {K : PySem.W.Frag} {mg : Str → Option Value} {base : Heap}
theorem sc_is_whole : FnScope ["thing"] ["thing"] (defScope s_is_whole) := ⟨rfl, rfl, rfl, by decide +kernel, rfl, by decide +kernel, by decide +kernel⟩
set_option maxHeartbeats 8000000 in
theorem def_is_whole {f : Addr} {fd : FuncData} (F : Fun K "is_whole" "is_whole" s_is_whole f fd) (hm : mg "is_whole" = some (.ref f)) (hb : Binds K fd ["thing"] []) (T : Txt K mg)  : Def P w K mg base 1 "is_whole" ["thing"] S_is_whole := by
  refine mkDefJ (N := ["thing"]) F hm hb sc_is_whole (by decide) (fun ds R h => ?_) fun cdv A outer s H E hr => ⟨_, jdss_one (jds_ret (jd_and (jd_isi isInt_ok (by rfl) T.b_isinstance (by rfl) T.b_int (by decide +kernel) (jdv 0)) (jd_one (jd_not (jd_isi isBool_ok (by rfl) T.b_isinstance (by rfl) T.b_bool (by decide +kernel) (jdv 0)))))), fun ds R h => ?_⟩
  · obtain ⟨d, rfl, _⟩ := oneP_ex h; rfl
  · obtain ⟨d, rfl, h1⟩ := oneP_ex h
    cases d <;> first | exact h1 | exact h1.elim
theorem sc_set_of_rests : FnScope ["ring", "numbers", "number"] ["ring", "numbers"] (defScope s_set_of_rests) := ⟨rfl, rfl, rfl, by decide +kernel, rfl, by decide +kernel, by decide +kernel⟩
set_option maxHeartbeats 8000000 in
theorem def_set_of_rests {f : Addr} {fd : FuncData} (F : Fun K "set_of_rests" "set_of_rests" s_set_of_rests f fd) (hm : mg "set_of_rests" = some (.ref f)) (hb : Binds K fd ["ring", "numbers"] []) (T : Txt K mg)  : Def P w K mg base 1 "set_of_rests" ["ring", "numbers"] S_set_of_rests := by
  refine mkDefJ (N := ["ring", "numbers", "number"]) F hm hb sc_set_of_rests (by decide) (fun ds R h => ?_) fun cdv A outer s H E hr => ⟨_, jdss_one (jds_ret (jd_callTy call_tuple_of cp_tupleOf (by rfl) T.b_tuple (by decide +kernel) (jda_cons (jd_sortSc (own := [("number", 2)]) (i := 2) rfl (by rfl) T.b_sorted sc_set_of_rests.nd (by decide) (jdi_seq (jdv 1)) (blkOk_by (by kernel_rfl)) (fun _ _ _ _ _ => pg_name (i := 2) sc_set_of_rests.nd rfl (by first | exact Or.inl rfl | exact Or.inr rfl)) (fun _ _ _ _ _ => jdts_nil) (fun _ _ _ _ _ => jd_mod (jdv 2) (jdv 0))) jda_nil))), fun ds R h => ?_⟩
  · obtain ⟨m, ns, rfl, _⟩ := h; rfl
  · obtain ⟨m, ns, rfl, hm, hl, h1⟩ := h
    refine sc_ints (xs := ns) (fun _ => true) (fun n => n % m) (fun _ _ Q q => q) (fun x _ _ Q q => ⟨hm.pos, q⟩) (by have : scanBound = 4096 := rfl; omega) ?_
    rw [filter_yes]
    refine ⟨sort_len (m := m) (fun n hn => ?_) hm.hi, h1⟩
    obtain ⟨z, _, rfl⟩ := List.mem_map.mp hn
    exact ⟨Int.emod_nonneg _ (by have := hm.lo; omega), Int.emod_lt_of_pos _ hm.pos⟩
theorem sc_round_many : FnScope ["ring", "d", "many"] ["ring", "d"] (defScope s_round_many) := ⟨rfl, rfl, rfl, by decide +kernel, rfl, by decide +kernel, by decide +kernel⟩
set_option maxHeartbeats 8000000 in
theorem def_round_many {f : Addr} {fd : FuncData} (F : Fun K "round_many" "round_many" s_round_many f fd) (hm : mg "round_many" = some (.ref f)) (hb : Binds K fd ["ring", "d"] []) (T : Txt K mg)  : Def P w K mg base 1 "round_many" ["ring", "d"] S_round_many := by
  refine mkDefJ (N := ["ring", "d", "many"]) F hm hb sc_round_many (by decide) (fun ds R h => ?_) fun cdv A outer s H E hr => ⟨_, jdss_cons (jds_set (i := 2) sc_round_many.nd rfl (by first | exact Or.inl rfl | exact Or.inr rfl) (jd_int)) (jdss_cons (jds_while PassesOwn.never (jdt_ne hr.units (jd_mod (jd_mul (jdv 2) (jdv 1)) (jdv 0)) (jd_int)) (jdss_one (jds_augI (i := 2) ip_add sc_round_many.nd rfl (by first | exact Or.inl rfl | exact Or.inr rfl) (jd_int)))) (jdss_one (jds_ret (jdv 2)))), fun ds R h => ?_⟩
  · obtain ⟨m, d, rfl, _⟩ := h; rfl
  · obtain ⟨m, d, rfl, hm, d0, d1, h1⟩ := h
    have w := rnd_is (d := d) hm
    have hi := hm.hi
    refine ⟨rfl, ?_⟩
    refine ⟨fun n ρ => ∃ k : Int, n = (rndF m d - k).toNat ∧ 1 ≤ k ∧ k ≤ rndF m d ∧ ρ = [some (.int m), some (.int d), some (.int k)], ⟨_, 1, rfl, by omega, w.lo, rfl⟩, ?_⟩
    rintro n ρ ⟨k, rfl, k0, k1, rfl⟩
    have wh := w.hi
    refine ⟨.inl ⟨by omega, by omega⟩, hm.pos, ?_⟩
    by_cases c : k * d % m = 0
    · refine ifNN (P := k * d % m = 0) c ?_
      have e : rndF m d = k := by
        rcases Int.lt_or_eq_of_le k1 with q | q
        · exact absurd c (w.least k k0 q)
        · exact q.symm
      rw [e] at h1
      exact h1
    · refine ifNY (P := k * d % m = 0) c ?_
      have lt : k < rndF m d := by
        rcases Int.lt_or_eq_of_le k1 with q | q
        · exact q
        · rw [q] at c; exact absurd w.zero c
      exact ⟨_, by omega, k + 1, rfl, by omega, by omega, rfl⟩
theorem sc_gap_behind : FnScope ["ring", "some", "d", "last", "many"] ["ring", "some", "d", "last"] (defScope s_gap_behind) := ⟨rfl, rfl, rfl, by decide +kernel, rfl, by decide +kernel, by decide +kernel⟩
set_option maxHeartbeats 8000000 in
theorem def_gap_behind {f : Addr} {fd : FuncData} (F : Fun K "gap_behind" "gap_behind" s_gap_behind f fd) (hm : mg "gap_behind" = some (.ref f)) (hb : Binds K fd ["ring", "some", "d", "last"] []) (T : Txt K mg)  : Def P w K mg base 1 "gap_behind" ["ring", "some", "d", "last"] S_gap_behind := by
  refine mkDefJ (N := ["ring", "some", "d", "last", "many"]) F hm hb sc_gap_behind (by decide) (fun ds R h => ?_) fun cdv A outer s H E hr => ⟨_, jdss_cons (jds_set (i := 4) sc_gap_behind.nd rfl (by first | exact Or.inl rfl | exact Or.inr rfl) (jd_int)) (jdss_cons (jds_while PassesOwn.never (jdt_notIn (jd_mod (jd_add (jdv 3) (jd_mul (jd_add (jdv 4) (jd_int)) (jdv 2))) (jdv 0)) (jdv 1)) (jdss_one (jds_augI (i := 4) ip_add sc_gap_behind.nd rfl (by first | exact Or.inl rfl | exact Or.inr rfl) (jd_int)))) (jdss_one (jds_ret (jdv 4)))), fun ds R h => ?_⟩
  · obtain ⟨m, xs, d, e, rfl, _⟩ := h; rfl
  · obtain ⟨m, xs, d, e, rfl, hm, hx, d0, d1, he, h1⟩ := h
    have g := gap_is (d := d) hm he
    have gl := g.lo
    have gh := g.hi
    have hi := hm.hi
    refine ⟨rfl, ?_⟩
    refine ⟨fun n ρ => ∃ k : Int, n = (gapF m xs d e - k).toNat ∧ 0 ≤ k ∧ k ≤ gapF m xs d e ∧ ρ = [some (.int m), some (tI xs), some (.int d), some (.int e), some (.int k)], ⟨_, 0, rfl, by omega, by omega, rfl⟩, ?_⟩
    rintro n ρ ⟨k, rfl, k0, k1, rfl⟩
    refine ⟨.inl ⟨by omega, by omega⟩, hm.pos, ?_⟩
    refine notinIf (x := (e + (k + 1) * d) % m) (ys := xs) (fun c => ?_) (fun c => ?_)
    rotate_left
    · have eq : gapF m xs d e = k := by
        rcases Int.lt_or_eq_of_le k1 with q | q
        · exact absurd c (g.no (k + 1) (by omega) (by omega))
        · exact q.symm
      rw [eq] at h1
      exact h1
    · have lt : k < gapF m xs d e := by
        rcases Int.lt_or_eq_of_le k1 with q | q
        · exact q
        · rw [q] at c; exact absurd g.yes c
      exact ⟨_, by omega, k + 1, rfl, by omega, by omega, rfl⟩
theorem sc_l_cell : FnScope ["_law_script", "_law_k"] ["_law_script", "_law_k"] (defScope s_l_cell) := ⟨rfl, rfl, rfl, by decide +kernel, rfl, by decide +kernel, by decide +kernel⟩
set_option maxHeartbeats 8000000 in
theorem def_l_cell {f : Addr} {fd : FuncData} (F : Fun K "_law_cell" "_law_cell" s_l_cell f fd) (hm : mg "_law_cell" = some (.ref f)) (hb : Binds K fd ["_law_script", "_law_k"] []) (T : Txt K mg)  : Def P w K mg base 1 "_law_cell" ["_law_script", "_law_k"] S_l_cell := by
  refine mkDefJ (N := ["_law_script", "_law_k"]) F hm hb sc_l_cell (by decide) (fun ds R h => ?_) fun cdv A outer s H E hr => ⟨_, jdss_cons (jds_if (jdt_lt (jdv 1) (jd_callB call_len_seq cp_len (by rfl) T.b_len (by decide +kernel) (jda_cons (jdv 0) jda_nil))) (jdss_one (jds_ret (jd_ix (jdv 0) (jdv 1) (fun _ _ => rfl)))) (jdss_nil)) (jdss_one (jds_ret (jd_int))), fun ds R h => ?_⟩
  · obtain ⟨ns, k, rfl, _⟩ := h; rfl
  · obtain ⟨ns, k, rfl, hk, h1⟩ := h
    obtain ⟨n, rfl⟩ : ∃ n : Nat, k = (n : Int) := ⟨k.toNat, by omega⟩
    refine if2 (P := (n : Int) < ((ns.map D.int).length : Int)) (fun hlt => ?_) (fun _ => h1 0)
    have hl : n < ns.length := by rw [List.length_map] at hlt; omega
    have e : atI (ns.map D.int) (n : Int) = some (D.int ns[n]) := atI_nat (by simp [hl])
    show optP (atI (ns.map D.int) (n : Int)) _
    rw [e]
    exact h1 _
theorem sc_l_pen : FnScope ["_law_cell_here", "_law_left"] ["_law_cell_here"] (defScope s_l_pen) := ⟨rfl, rfl, rfl, by decide +kernel, rfl, by decide +kernel, by decide +kernel⟩
set_option maxHeartbeats 8000000 in
theorem def_l_pen {f : Addr} {fd : FuncData} (F : Fun K "_law_pen" "_law_pen" s_l_pen f fd) (hm : mg "_law_pen" = some (.ref f)) (hb : Binds K fd ["_law_cell_here"] []) (T : Txt K mg)  : Def P w K mg base 1 "_law_pen" ["_law_cell_here"] S_l_pen := by
  refine mkDefJ (N := ["_law_cell_here", "_law_left"]) F hm hb sc_l_pen (by decide) (fun ds R h => ?_) fun cdv A outer s H E hr => ⟨_, jdss_cons (jds_set (i := 1) sc_l_pen.nd rfl (by first | exact Or.inl rfl | exact Or.inr rfl) (jd_callB (call_max2 rfl) cp_max2 (by rfl) T.b_max (by decide +kernel) (jda_cons (jdv 0) (jda_cons (jd_sub (jd_int) (jdv 0)) jda_nil)))) (jdss_one (jds_ret (jd_penNew (jda_cons (jdv 1) (jda_cons (jd_callTy call_int1 cp_int1 (by rfl) T.b_int (by decide +kernel) (jda_cons (jd_ge (jdv 1) (jd_pow (jd_int) (jd_int))) jda_nil)) jda_nil))))), fun ds R h => ?_⟩
  · obtain ⟨c, rfl, _⟩ := h; rfl
  · obtain ⟨c, rfl, h1⟩ := h
    refine ⟨rfl, ?_⟩
    refine ⟨⟨by decide, by decide, by decide⟩, ?_⟩
    refine ⟨?_, b01 _, h1⟩
    split <;> omega
theorem sc_l_draw : FnScope ["_law_pen_here", "_law_many", "_law_left", "_law_found", "_law_stir"] ["_law_pen_here", "_law_many"] (defScope s_l_draw) := ⟨rfl, rfl, rfl, by decide +kernel, rfl, by decide +kernel, by decide +kernel⟩
set_option maxHeartbeats 8000000 in
theorem def_l_draw {f : Addr} {fd : FuncData} (F : Fun K "_law_draw" "_law_draw" s_l_draw f fd) (hm : mg "_law_draw" = some (.ref f)) (hb : Binds K fd ["_law_pen_here", "_law_many"] []) (T : Txt K mg)  : Def P w K mg base 1 "_law_draw" ["_law_pen_here", "_law_many"] S_l_draw := by
  refine mkDefJ (N := ["_law_pen_here", "_law_many", "_law_left", "_law_found", "_law_stir"]) F hm hb sc_l_draw (by decide) (fun ds R h => ?_) fun cdv A outer s H E hr => ⟨_, jdss_cons (jds_if (jdt_eq hr.units (jd_pen1 (jdv 0) (jd_int) (fun _ _ => rfl)) (jd_int)) (jdss_cons (jds_asg (jd_callB call_divmod cp_divmod (by rfl) T.b_divmod (by decide +kernel) (jda_cons (jd_pen0 (jdv 0) (jd_int) (fun _ _ => rfl)) (jda_cons (jdv 1) jda_nil))) (jdg_tup rfl (jdgs_cons (jdg_name (i := 2) sc_l_draw.nd rfl (by first | exact Or.inl rfl | exact Or.inr rfl)) (jdgs_cons (jdg_name (i := 3) sc_l_draw.nd rfl (by first | exact Or.inl rfl | exact Or.inr rfl)) (jdgs_nil))))) (jdss_cons (jds_penSet (jdv 2) (jdv 0) (jd_int)) (jdss_one (jds_ret (jdv 3))))) (jdss_nil)) (jdss_cons (jds_set (i := 4) sc_l_draw.nd rfl (by first | exact Or.inl rfl | exact Or.inr rfl) (jd_mod (jd_mul (jd_add (jd_mod (jd_pen0 (jdv 0) (jd_int) (fun _ _ => rfl)) (jd_int)) (jd_int)) (jd_int)) (jd_int))) (jdss_cons (jds_set (i := 4) sc_l_draw.nd rfl (by first | exact Or.inl rfl | exact Or.inr rfl) (jd_mod (jd_add (jd_mul (jdv 4) (jdv 4)) (jd_int)) (jd_int))) (jdss_cons (jds_penSet (jd_mod (jd_add (jd_mul (jdv 4) (jd_int)) (jd_int)) (jd_int)) (jdv 0) (jd_int)) (jdss_one (jds_ret (jd_mod (jd_fdiv (jd_pen0 (jdv 0) (jd_int) (fun _ _ => rfl)) (jd_int)) (jdv 1))))))), fun ds R h => ?_⟩
  · obtain ⟨n, rfl, _⟩ := h; rfl
  · obtain ⟨n, rfl, h0, h1, hk⟩ := h
    refine ⟨rfl, ?_, ?_⟩
    · refine ⟨rfl, fun i hi => ?_⟩
      refine ⟨show (0 : Int) < 2147483647 by decide, .inr ⟨by decide, by decide⟩, show (0 : Int) < 2147483629 by decide, rfl, ?_⟩
      have b0 := Int.emod_nonneg ((i % 2147483647 + 40503) * 69621) (show (2147483629 : Int) ≠ 0 by decide)
      have b1 := Int.emod_lt_of_pos ((i % 2147483647 + 40503) * 69621) (show (0 : Int) < 2147483629 by decide)
      generalize (i % 2147483647 + 40503) * 69621 % 2147483629 = s0 at b0 b1 ⊢
      refine ⟨.inl ⟨by omega, by omega⟩, show (0 : Int) < 2147483587 by decide, rfl, ?_⟩
      refine ⟨.inr ⟨by decide, by decide⟩, show (0 : Int) < 2147483629 by decide, Int.emod_nonneg _ (by decide), rfl, ?_⟩
      refine ⟨rfl, fun j hj => ?_⟩
      exact ⟨⟨by decide, by decide⟩, h0, hk _ (Int.emod_nonneg _ (by omega)) (Int.emod_lt_of_pos _ h0)⟩
    · refine ⟨rfl, fun i hi => ?_⟩
      refine ⟨⟨h0, h1⟩, rfl, rfl, ?_⟩
      refine ⟨Int.ediv_nonneg hi (by omega), rfl, ?_⟩
      exact hk _ (Int.emod_nonneg _ (by omega)) (Int.emod_lt_of_pos _ h0)
theorem sc_is_within : FnScope ["thing", "least", "greatest"] ["thing", "least", "greatest"] (defScope s_is_within) := ⟨rfl, rfl, rfl, by decide +kernel, rfl, by decide +kernel, by decide +kernel⟩
set_option maxHeartbeats 8000000 in
theorem def_is_within {f : Addr} {fd : FuncData} (F : Fun K "is_within" "is_within" s_is_within f fd) (hm : mg "is_within" = some (.ref f)) (hb : Binds K fd ["thing", "least", "greatest"] []) (T : Txt K mg) (F_is_whole : Def P w K mg base 1 "is_whole" ["thing"] S_is_whole) : Def P w K mg base 2 "is_within" ["thing", "least", "greatest"] S_is_within := by
  refine mkDefJ (N := ["thing", "least", "greatest"]) F hm hb sc_is_within (by decide) (fun ds R h => ?_) fun cdv A outer s H E hr => ⟨_, jdss_one (jds_ret (jd_and (jd_call F_is_whole (hr.mono (by decide)) (by rfl) (jda_cons (jdv 0) jda_nil)) (jd_one (jd_chain op_le op_le (cp_I0 fun _ _ _ _ => .bl _) (cp_I0 fun _ _ _ _ => .bl _) (jdv 1) (jdv 0) (jdv 2))))), fun ds R h => ?_⟩
  · obtain ⟨n, lo, hi, rfl, _⟩ := h; rfl
  · obtain ⟨n, lo, hi, rfl, h1⟩ := h
    refine ⟨rfl, ?_⟩
    show if decide (lo ≤ n) = true then R (.bl (decide (n ≤ hi))) else R (.bl false)
    refine if2 (P := lo ≤ n) (fun q => ?_) (fun q => ?_)
    · rw [if_pos q] at h1; exact h1
    · rw [if_neg q] at h1; exact h1
theorem sc_run_many : FnScope ["ring", "some", "d", "first", "many"] ["ring", "some", "d", "first"] (defScope s_run_many) := ⟨rfl, rfl, rfl, by decide +kernel, rfl, by decide +kernel, by decide +kernel⟩
set_option maxHeartbeats 8000000 in
theorem def_run_many {f : Addr} {fd : FuncData} (F : Fun K "run_many" "run_many" s_run_many f fd) (hm : mg "run_many" = some (.ref f)) (hb : Binds K fd ["ring", "some", "d", "first"] []) (T : Txt K mg) (F_round_many : Def P w K mg base 1 "round_many" ["ring", "d"] S_round_many) : Def P w K mg base 2 "run_many" ["ring", "some", "d", "first"] S_run_many := by
  refine mkDefJ (N := ["ring", "some", "d", "first", "many"]) F hm hb sc_run_many (by decide) (fun ds R h => ?_) fun cdv A outer s H E hr => ⟨_, jdss_cons (jds_set (i := 4) sc_run_many.nd rfl (by first | exact Or.inl rfl | exact Or.inr rfl) (jd_int)) (jdss_cons (jds_while PassesOwn.never (jpt (jdw_and (jdt_lt (jdv 4) (jd_call F_round_many (hr.mono (by decide)) (by rfl) (jda_cons (jdv 0) (jda_cons (jdv 2) jda_nil)))) (jdw_and1 (jdt_in (jd_mod (jd_add (jdv 3) (jd_mul (jdv 4) (jdv 2))) (jdv 0)) (jdv 1))))) (jdss_one (jds_augI (i := 4) ip_add sc_run_many.nd rfl (by first | exact Or.inl rfl | exact Or.inr rfl) (jd_int)))) (jdss_one (jds_ret (jdv 4)))), fun ds R h => ?_⟩
  · obtain ⟨m, xs, d, f, rfl, _⟩ := h; rfl
  · obtain ⟨m, xs, d, f, rfl, hm, hx, d0, d1, h1⟩ := h
    have w := rnd_is (d := d) hm
    have wh := w.hi
    have wl := w.lo
    have hi := hm.hi
    refine ⟨rfl, ?_⟩
    refine ⟨fun n ρ => ∃ k : Int, n = (rndF m d - k).toNat ∧ 0 ≤ k ∧ k ≤ rndF m d ∧ (∀ i, 0 ≤ i → i < k → (f + i * d) % m ∈ xs) ∧ ρ = [some (.int m), some (tI xs), some (.int d), some (.int f), some (.int k)], ⟨_, 0, rfl, by omega, by omega, fun i i0 i1 => by omega, rfl⟩, ?_⟩
    rintro n ρ ⟨k, rfl, k0, k1, al, rfl⟩
    refine ⟨rfl, m, d, rfl, hm, d0, d1, ?_⟩
    refine if2 (P := k < rndF m d) (fun lt => ?_) (fun ge => ?_)
    · refine ⟨.inl ⟨by omega, by omega⟩, hm.pos, ?_⟩
      refine inIf (x := (f + k * d) % m) (ys := xs) (fun c => ?_) (fun c => ?_)
      · exact ⟨_, by omega, k + 1, rfl, by omega, by omega, fun i i0 i1 => by
          by_cases q : i = k
          · rw [q]; exact c
          · exact al i i0 (by omega), rfl⟩
      · rw [run_eq (n := k) ⟨k0, k1, al, fun _ => c⟩] at h1
        exact h1
    · rw [run_eq (n := k) ⟨k0, k1, al, fun q => absurd q ge⟩] at h1
      exact h1
theorem sc_l_ring : FnScope ["_law_pen_here"] ["_law_pen_here"] (defScope s_l_ring) := ⟨rfl, rfl, rfl, by decide +kernel, rfl, by decide +kernel, by decide +kernel⟩
set_option maxHeartbeats 8000000 in
theorem def_l_ring {f : Addr} {fd : FuncData} (F : Fun K "_law_ring" "_law_ring" s_l_ring f fd) (hm : mg "_law_ring" = some (.ref f)) (hb : Binds K fd ["_law_pen_here"] []) (T : Txt K mg) (F_l_draw : Def P w K mg base 1 "_law_draw" ["_law_pen_here", "_law_many"] S_l_draw) : Def P w K mg base 2 "_law_ring" ["_law_pen_here"] S_l_ring := by
  refine mkDefJ (N := ["_law_pen_here"]) F hm hb sc_l_ring (by decide) (fun ds R h => ?_) fun cdv A outer s H E hr => ⟨_, jdss_one (jds_ret (jd_ix (jd_lst (jda_consts (ds := [.int 2, .int 3, .int 4, .int 5, .int 6, .int 7, .int 8, .int 9, .int 10, .int 12, .int 16, .int 11, .int 13, .int 24, .int 15, .int 6]) (by kernel_rfl))) (jd_call F_l_draw (hr.mono (by decide)) (by rfl) (jda_cons (jdv 0) (jda_cons (jd_int) jda_nil))) (fun _ _ => rfl))), fun ds R h => ?_⟩
  · obtain ⟨rfl, _⟩ := h; rfl
  · obtain ⟨rfl, h1⟩ := h
    refine ⟨by show 16 ≤ sizeLine; rw [sizeLine_eq]; decide, rfl, ?_⟩
    refine ⟨rfl, 16, rfl, by decide, by decide, fun i h0 h16 => ?_⟩
    obtain rfl | rfl | rfl | rfl | rfl | rfl | rfl | rfl | rfl | rfl | rfl | rfl | rfl | rfl | rfl | rfl : i = 0 ∨ i = 1 ∨ i = 2 ∨ i = 3 ∨ i = 4 ∨ i = 5 ∨ i = 6 ∨ i = 7 ∨ i = 8 ∨ i = 9 ∨ i = 10 ∨ i = 11 ∨ i = 12 ∨ i = 13 ∨ i = 14 ∨ i = 15 := by omega
    all_goals exact h1 _ ⟨by decide, by decide⟩
theorem sc_l_set : FnScope ["_law_pen_here", "_law_ring_here", "_law_way", "_law_found", "_law_turn", "_law_rare", "_law_number", "_law_first", "_law_step_here", "_law_many", "_law_at", "_law_h", "_law_whole", "_law_more"] ["_law_pen_here", "_law_ring_here"] (defScope s_l_set) := ⟨rfl, rfl, rfl, by decide +kernel, rfl, by decide +kernel, by decide +kernel⟩
set_option maxHeartbeats 8000000 in
theorem def_l_set {f : Addr} {fd : FuncData} (F : Fun K "_law_set" "_law_set" s_l_set f fd) (hm : mg "_law_set" = some (.ref f)) (hb : Binds K fd ["_law_pen_here", "_law_ring_here"] []) (T : Txt K mg) (F_l_draw : Def P w K mg base 1 "_law_draw" ["_law_pen_here", "_law_many"] S_l_draw) : Def P w K mg base 2 "_law_set" ["_law_pen_here", "_law_ring_here"] S_l_set := by
  refine mkDefJ (N := ["_law_pen_here", "_law_ring_here", "_law_way", "_law_found", "_law_turn", "_law_rare", "_law_number", "_law_first", "_law_step_here", "_law_many", "_law_at", "_law_h", "_law_whole", "_law_more"]) F hm hb sc_l_set (by decide) (fun ds R h => ?_) fun cdv A outer s H E hr => ⟨_, jdss_cons (jds_set (i := 2) sc_l_set.nd rfl (by first | exact Or.inl rfl | exact Or.inr rfl) (jd_call F_l_draw (hr.mono (by decide)) (by rfl) (jda_cons (jdv 0) (jda_cons (jd_int) jda_nil)))) (jdss_cons (jds_if (jdt_lt (jdv 2) (jd_int)) (jdss_cons (jds_set (i := 3) sc_l_set.nd rfl (by first | exact Or.inl rfl | exact Or.inr rfl) (jd_lc (own := [("_law_turn", 4)]) (i := 4) rfl sc_l_set.nd (by decide) (jdi_range1 (by rfl) T.b_range (jda_cons (jd_call F_l_draw (hr.mono (by decide)) (by rfl) (jda_cons (jdv 0) (jda_cons (jd_int) jda_nil))) jda_nil)) (blkOk_by (by kernel_rfl)) (fun _ _ _ _ _ => pg_name (i := 4) sc_l_set.nd rfl (by first | exact Or.inl rfl | exact Or.inr rfl)) (fun _ _ _ _ _ => jdts_nil) (fun _ _ _ _ _ => jd_call F_l_draw (hr.mono (by decide)) (by rfl) (jda_cons (jdv 0) (jda_cons (jdv 1) jda_nil))))) (jdss_one (jds_ret (jd_callTy call_tuple_of cp_tupleOf (by rfl) T.b_tuple (by decide +kernel) (jda_cons (jd_sortSet rfl (by rfl) T.b_sorted (by rfl) T.b_set (jdv 3)) jda_nil))))) (jdss_nil)) (jdss_cons (jds_if (jdt_lt (jdv 2) (jd_int)) (jdss_cons (jds_set (i := 5) sc_l_set.nd rfl (by first | exact Or.inl rfl | exact Or.inr rfl) (jd_ix (jd_lst (jda_cons (jd_int) (jda_cons (jd_int) jda_nil))) (jd_sub (jdv 2) (jd_int)) (fun _ _ => rfl))) (jdss_one (jds_ret (jd_callTy call_tuple_of cp_tupleOf (by rfl) T.b_tuple (by decide +kernel) (jda_cons (jd_lc (own := [("_law_number", 6)]) (i := 6) rfl sc_l_set.nd (by decide) (jdi_range1 (by rfl) T.b_range (jda_cons (jdv 1) jda_nil)) (blkOk_by (by kernel_rfl)) (fun _ _ _ _ _ => pg_name (i := 6) sc_l_set.nd rfl (by first | exact Or.inl rfl | exact Or.inr rfl)) (fun _ _ _ _ _ => jdts_one (jdt_eq hr.units (jd_call F_l_draw (hr.mono (by decide)) (by rfl) (jda_cons (jdv 0) (jda_cons (jdv 5) jda_nil))) (jd_sub (jdv 5) (jd_int)))) (fun _ _ _ _ _ => jdv 6)) jda_nil))))) (jdss_nil)) (jdss_cons (jds_if (jdt_eq hr.units (jdv 2) (jd_int)) (jdss_cons (jds_asg (jd_tup (jda_cons (jd_call F_l_draw (hr.mono (by decide)) (by rfl) (jda_cons (jdv 0) (jda_cons (jdv 1) jda_nil))) (jda_cons (jd_add (jd_int) (jd_call F_l_draw (hr.mono (by decide)) (by rfl) (jda_cons (jdv 0) (jda_cons (jd_sub (jdv 1) (jd_int)) jda_nil)))) (jda_cons (jd_call F_l_draw (hr.mono (by decide)) (by rfl) (jda_cons (jdv 0) (jda_cons (jd_add (jdv 1) (jd_int)) jda_nil))) jda_nil)))) (jdg_tup rfl (jdgs_cons (jdg_name (i := 7) sc_l_set.nd rfl (by first | exact Or.inl rfl | exact Or.inr rfl)) (jdgs_cons (jdg_name (i := 8) sc_l_set.nd rfl (by first | exact Or.inl rfl | exact Or.inr rfl)) (jdgs_cons (jdg_name (i := 9) sc_l_set.nd rfl (by first | exact Or.inl rfl | exact Or.inr rfl)) (jdgs_nil)))))) (jdss_one (jds_ret (jd_callTy call_tuple_of cp_tupleOf (by rfl) T.b_tuple (by decide +kernel) (jda_cons (jd_sortSet rfl (by rfl) T.b_sorted (by rfl) T.b_set (jd_lc (own := [("_law_at", 10)]) (i := 10) rfl sc_l_set.nd (by decide) (jdi_range1 (by rfl) T.b_range (jda_cons (jdv 9) jda_nil)) (blkOk_by (by kernel_rfl)) (fun _ _ _ _ _ => pg_name (i := 10) sc_l_set.nd rfl (by first | exact Or.inl rfl | exact Or.inr rfl)) (fun _ _ _ _ _ => jdts_nil) (fun _ _ _ _ _ => jd_mod (jd_add (jdv 7) (jd_mul (jdv 8) (jdv 10))) (jdv 1)))) jda_nil))))) (jdss_nil)) (jdss_cons (jds_if (jdt_eq hr.units (jdv 2) (jd_int)) (jdss_cons (jds_set (i := 11) sc_l_set.nd rfl (by first | exact Or.inl rfl | exact Or.inr rfl) (jd_lc (own := [("_law_h", 11)]) (i := 11) rfl sc_l_set.nd (by decide) (jdi_range2 (by rfl) T.b_range (jda_cons (jd_int) (jda_cons (jd_add (jdv 1) (jd_int)) jda_nil))) (blkOk_by (by kernel_rfl)) (fun _ _ _ _ _ => pg_name (i := 11) sc_l_set.nd rfl (by first | exact Or.inl rfl | exact Or.inr rfl)) (fun _ _ _ _ _ => jdts_one (jdt_eq hr.units (jd_mod (jdv 1) (jdv 11)) (jd_int))) (fun _ _ _ _ _ => jdv 11))) (jdss_cons (jds_set (i := 11) sc_l_set.nd rfl (by first | exact Or.inl rfl | exact Or.inr rfl) (jd_ix (jdv 11) (jd_call F_l_draw (hr.mono (by decide)) (by rfl) (jda_cons (jdv 0) (jda_cons (jd_callB call_len_seq cp_len (by rfl) T.b_len (by decide +kernel) (jda_cons (jdv 11) jda_nil)) jda_nil))) (fun _ _ => rfl))) (jdss_cons (jds_set (i := 12) sc_l_set.nd rfl (by first | exact Or.inl rfl | exact Or.inr rfl) (jd_lc (own := [("_law_at", 10)]) (i := 10) rfl sc_l_set.nd (by decide) (jdi_range1 (by rfl) T.b_range (jda_cons (jdv 11) jda_nil)) (blkOk_by (by kernel_rfl)) (fun _ _ _ _ _ => pg_name (i := 10) sc_l_set.nd rfl (by first | exact Or.inl rfl | exact Or.inr rfl)) (fun _ _ _ _ _ => jdts_one (jdt_eq hr.units (jd_call F_l_draw (hr.mono (by decide)) (by rfl) (jda_cons (jdv 0) (jda_cons (jd_int) jda_nil))) (jd_int))) (fun _ _ _ _ _ => jdv 10))) (jdss_cons (jds_set (i := 13) sc_l_set.nd rfl (by first | exact Or.inl rfl | exact Or.inr rfl) (jd_call F_l_draw (hr.mono (by decide)) (by rfl) (jda_cons (jdv 0) (jda_cons (jdv 1) jda_nil)))) (jdss_one (jds_ret (jd_callTy call_tuple_of cp_tupleOf (by rfl) T.b_tuple (by decide +kernel) (jda_cons (jd_lc (own := [("_law_number", 6)]) (i := 6) rfl sc_l_set.nd (by decide) (jdi_range1 (by rfl) T.b_range (jda_cons (jdv 1) jda_nil)) (blkOk_by (by kernel_rfl)) (fun _ _ _ _ _ => pg_name (i := 6) sc_l_set.nd rfl (by first | exact Or.inl rfl | exact Or.inr rfl)) (fun _ _ _ _ _ => jdts_one (jpt (jdw_or (jdt_in (jd_mod (jdv 6) (jdv 11)) (jdv 12)) (jdw_or1 (jdt_eq hr.units (jdv 6) (jdv 13)))))) (fun _ _ _ _ _ => jdv 6)) jda_nil)))))))) (jdss_nil)) (jdss_cons (jds_set (i := 3) sc_l_set.nd rfl (by first | exact Or.inl rfl | exact Or.inr rfl) (jd_lc (own := [("_law_turn", 4)]) (i := 4) rfl sc_l_set.nd (by decide) (jdi_range1 (by rfl) T.b_range (jda_cons (jd_call F_l_draw (hr.mono (by decide)) (by rfl) (jda_cons (jdv 0) (jda_cons (jd_int) jda_nil))) jda_nil)) (blkOk_by (by kernel_rfl)) (fun _ _ _ _ _ => pg_name (i := 4) sc_l_set.nd rfl (by first | exact Or.inl rfl | exact Or.inr rfl)) (fun _ _ _ _ _ => jdts_nil) (fun _ _ _ _ _ => jd_call F_l_draw (hr.mono (by decide)) (by rfl) (jda_cons (jdv 0) (jda_cons (jdv 1) jda_nil))))) (jdss_one (jds_ret (jd_callTy call_tuple_of cp_tupleOf (by rfl) T.b_tuple (by decide +kernel) (jda_cons (jd_lc (own := [("_law_number", 6)]) (i := 6) rfl sc_l_set.nd (by decide) (jdi_range1 (by rfl) T.b_range (jda_cons (jdv 1) jda_nil)) (blkOk_by (by kernel_rfl)) (fun _ _ _ _ _ => pg_name (i := 6) sc_l_set.nd rfl (by first | exact Or.inl rfl | exact Or.inr rfl)) (fun _ _ _ _ _ => jdts_one (jdt_notIn (jdv 6) (jdv 3))) (fun _ _ _ _ _ => jdv 6)) jda_nil))))))))), fun ds R h => ?_⟩
  · obtain ⟨m, rfl, _⟩ := h; rfl
  · obtain ⟨m, rfl, hm, h1⟩ := h
    have lo := hm.lo
    have hi := hm.hi
    refine ⟨rfl, 7, rfl, by decide, by decide, fun i h0 h7 => ?_⟩
    refine ⟨rfl, ?_⟩
    refine if2 (P := i < 2) (fun c2 => ?_) (fun c2 => ?_)
    · refine ⟨rfl, 6, rfl, by decide, by decide, fun k k0 k6 => ?_⟩
      refine ⟨rng62 (by omega) (by omega), ?_⟩
      refine lc_draws (n := k.toNat) (m := m) ?_ ?_ (by omega) fun xs hl hx => ?_
      · exact fun _ Q q => q
      · exact fun x Q q => ⟨rfl, m, rfl, by omega, by omega, q⟩
      · refine ⟨rfl, ?_⟩
        exact sortSet_st (R := fun d => d.itemsP fun xs => R (.tup xs)) hm (by omega) hx (h1 _ (sort_st hx))
    refine if2 (P := i < 4) (fun c4 => ?_) (fun c4 => ?_)
    · obtain rfl | rfl : i = 2 ∨ i = 3 := by omega
      all_goals
        refine ⟨sz2, rfl, ?_⟩
        refine ⟨rfl, ?_⟩
        refine ⟨hm.r62, ?_⟩
        refine lc_rngAny (m := m) ?_ ?_ hm.le fun xs hs => h1 xs (sub_st hs)
        · exact fun x _ Q q => ⟨rfl, _, rfl, by decide, by decide, fun k _ _ => q _⟩
        · exact fun x _ Q q => q
    refine if2 (P := i = 4) (fun c5 => ?_) (fun c5 => ?_)
    · refine ⟨rfl, m, rfl, by omega, by omega, fun a a0 a1 => ?_⟩
      refine ⟨rfl, m - 1, rfl, by omega, by omega, fun b b0 b1 => ?_⟩
      refine ⟨rfl, m + 1, rfl, by omega, by omega, fun k k0 k1 => ?_⟩
      refine ⟨sz3, rfl, rfl, rfl, ?_⟩
      refine ⟨rng62 (by omega) (by omega), ?_⟩
      refine lc_rng (m := k) (fun _ => true) (fun t => (a + (1 + b) * t) % m) ?_ ?_ (by omega) ?_
      · exact fun _ _ Q q => q
      · intro t _ _ Q q
        exact ⟨.inl ⟨by omega, by omega⟩, hm.pos, q⟩
      · rw [filter_yes]
        have hx : ∀ n ∈ (rngI k).map (fun t => (a + (1 + b) * t) % m), 0 ≤ n ∧ n < m := by
          intro n hn
          obtain ⟨z, _, rfl⟩ := List.mem_map.mp hn
          exact ⟨Int.emod_nonneg _ (by omega), Int.emod_lt_of_pos _ hm.pos⟩
        exact sortSet_st (R := fun d => d.itemsP fun xs => R (.tup xs)) hm (by rw [List.length_map, rngI_len]; omega) hx (h1 _ (sort_st hx))
    refine if2 (P := i = 5) (fun c6 => ?_) (fun c6 => ?_)
    · refine ⟨⟨(rng62 (m := 1) (by decide) (by decide)).1, (rng62 (m := 1) (by decide) (by decide)).2, rng62 (m := m + 1) (by omega) (by omega)⟩, ?_⟩
      refine lc_rngL (lo := 1) (n := (m + 1 - 1).toNat) (fun h => decide (m % h = 0)) (fun h => h) ?_ ?_ (by omega) ?_
      · intro x hx Q q
        have := mem_rngL.mp hx
        exact ⟨show (0 : Int) < x by omega, q⟩
      · exact fun _ _ _ Q q => q
      · rw [map_self]
        have g0 : 0 < ((rngL 1 (m + 1 - 1).toNat).filter fun h => decide (m % h = 0)).length := List.length_pos_of_mem (a := 1) (List.mem_filter.mpr ⟨mem_rngL.mpr ⟨by omega, by omega⟩, by simp⟩)
        have g1 : ((rngL 1 (m + 1 - 1).toNat).filter fun h => decide (m % h = 0)).length ≤ 24 := Nat.le_trans (List.length_filter_le _ _) (by rw [rngL_len]; omega)
        have g2 : ∀ h ∈ (rngL 1 (m + 1 - 1).toNat).filter (fun h => decide (m % h = 0)), 1 ≤ h ∧ h ≤ m := fun h hh => by
          have := mem_rngL.mp (List.mem_filter.mp hh).1
          omega
        generalize (rngL 1 (m + 1 - 1).toNat).filter (fun h => decide (m % h = 0)) = hs at g0 g1 g2 ⊢
        refine ⟨rfl, ?_⟩
        refine ⟨rfl, ((hs.map D.int).length : Int), rfl, by rw [List.length_map]; omega, by rw [List.length_map]; omega, fun k k0 k1 => ?_⟩
        obtain ⟨n, rfl⟩ : ∃ n : Nat, k = (n : Int) := ⟨k.toNat, by omega⟩
        have hl : n < hs.length := by rw [List.length_map] at k1; omega
        have e : atI (hs.map D.int) (n : Int) = some (D.int hs[n]) := atI_nat (by simp [hl])
        have g3 := g2 hs[n] (List.getElem_mem hl)
        generalize hs[n] = h at e g3
        show optP (atI (hs.map D.int) (n : Int)) _
        rw [e]
        refine ⟨rfl, ?_⟩
        refine ⟨rng62 (by omega) (by omega), ?_⟩
        refine lc_rngAny (m := h) ?_ ?_ (by omega) fun ws hw => ?_
        · exact fun x _ Q q => ⟨rfl, 2, rfl, by decide, by decide, fun k _ _ => q _⟩
        · exact fun x _ Q q => q
        · refine ⟨rfl, ?_⟩
          refine ⟨rfl, m, rfl, by omega, by omega, fun z z0 z1 => ?_⟩
          refine ⟨rfl, ?_⟩
          refine ⟨hm.r62, ?_⟩
          refine lc_rng (m := m) (fun x => decide (x % h ∈ ws) || decide (x = z)) (fun x => x) ?_ ?_ hm.le ?_
          · intro x hx Q q
            refine ⟨show (0 : Int) < h by omega, ?_⟩
            refine in_lI (x := x % h) (ys := ws) (R := fun d => d.blP fun k => if k = true then Q true else Q (decide (x = z))) ?_
            refine if2 (P := x % h ∈ ws) (fun c => ?_) (fun c => ?_)
            · have e2 : (decide (x % h ∈ ws) || decide (x = z)) = true := by simp [c]
              exact e2 ▸ q
            · have e2 : (decide (x % h ∈ ws) || decide (x = z)) = decide (x = z) := by simp [c]
              exact e2 ▸ q
          · exact fun _ _ _ Q q => q
          · rw [map_self]
            exact h1 _ (filter_st _)
    · refine ⟨rfl, 4, rfl, by decide, by decide, fun k k0 k6 => ?_⟩
      refine ⟨rng62 (by omega) (by omega), ?_⟩
      refine lc_draws (n := k.toNat) (m := m) ?_ ?_ (by omega) fun ws hl hx => ?_
      · exact fun _ Q q => q
      · exact fun x Q q => ⟨rfl, m, rfl, by omega, by omega, q⟩
      · refine ⟨rfl, ?_⟩
        refine ⟨hm.r62, ?_⟩
        refine lc_rng (m := m) (fun x => !decide (x ∈ ws)) (fun x => x) ?_ ?_ hm.le ?_
        · intro x hx Q q
          exact notin_lI (x := x) (ys := ws) (R := fun d => d.blP Q) q
        · exact fun _ _ _ Q q => q
        · rw [map_self]
          exact h1 _ (filter_st _)
theorem sc_check_within : FnScope ["number", "least", "greatest"] ["number", "least", "greatest"] (defScope s_check_within) := ⟨rfl, rfl, rfl, by decide +kernel, rfl, by decide +kernel, by decide +kernel⟩
set_option maxHeartbeats 8000000 in
theorem def_check_within {f : Addr} {fd : FuncData} (F : Fun K "check_within" "check_within" s_check_within f fd) (hm : mg "check_within" = some (.ref f)) (hb : Binds K fd ["number", "least", "greatest"] []) (T : Txt K mg) (F_is_within : Def P w K mg base 2 "is_within" ["thing", "least", "greatest"] S_is_within) : Def P w K mg base 3 "check_within" ["number", "least", "greatest"] S_check_within := by
  refine mkDefJ (N := ["number", "least", "greatest"]) F hm hb sc_check_within (by decide) (fun ds R h => ?_) fun cdv A outer s H E hr => ⟨_, jdss_one (jds_if (jdt_not (jdt_val (jd_call F_is_within (hr.mono (by decide)) (by rfl) (jda_cons (jdv 0) (jda_cons (jdv 1) (jda_cons (jdv 2) jda_nil)))))) (jdss_one (jds_never)) (jdss_nil)), fun ds R h => ?_⟩
  · obtain ⟨n, lo, hi, rfl, _⟩ := h; rfl
  · obtain ⟨n, lo, hi, rfl, hl, hh, h1⟩ := h
    refine ⟨rfl, n, lo, hi, rfl, ?_⟩
    rw [if_pos hl]
    refine ifNN (P := n ≤ hi) hh ?_
    exact h1
theorem sc_check_ring : FnScope ["ring"] ["ring"] (defScope s_check_ring) := ⟨rfl, rfl, rfl, by decide +kernel, rfl, by decide +kernel, by decide +kernel⟩
set_option maxHeartbeats 8000000 in
theorem def_check_ring {f : Addr} {fd : FuncData} (F : Fun K "check_ring" "check_ring" s_check_ring f fd) (hm : mg "check_ring" = some (.ref f)) (hb : Binds K fd ["ring"] []) (T : Txt K mg) (F_is_within : Def P w K mg base 2 "is_within" ["thing", "least", "greatest"] S_is_within) : Def P w K mg base 3 "check_ring" ["ring"] S_check_ring := by
  obtain ⟨t_LEAST_RING, hc_LEAST_RING⟩ := T.c_LEAST_RING
  obtain ⟨t_GREATEST_RING, hc_GREATEST_RING⟩ := T.c_GREATEST_RING
  refine mkDefJ (N := ["ring"]) F hm hb sc_check_ring (by decide) (fun ds R h => ?_) fun cdv A outer s H E hr => ⟨_, jdss_one (jds_if (jdt_not (jdt_val (jd_call F_is_within (hr.mono (by decide)) (by rfl) (jda_cons (jdv 0) (jda_cons (jd_globI (by rfl) hc_LEAST_RING) (jda_cons (jd_globI (by rfl) hc_GREATEST_RING) jda_nil)))))) (jdss_one (jds_never)) (jdss_nil)), fun ds R h => ?_⟩
  · obtain ⟨m, rfl, _⟩ := h; rfl
  · obtain ⟨m, rfl, hm, h1⟩ := h
    refine ⟨rfl, m, 2, 24, rfl, ?_⟩
    rw [if_pos hm.lo]
    refine ifNN (P := m ≤ 24) hm.hi ?_
    exact h1
theorem sc_is_set : FnScope ["ring", "thing", "last", "number"] ["ring", "thing"] (defScope s_is_set) := ⟨rfl, rfl, rfl, by decide +kernel, rfl, by decide +kernel, by decide +kernel⟩
set_option maxHeartbeats 8000000 in
theorem def_is_set {f : Addr} {fd : FuncData} (F : Fun K "is_set" "is_set" s_is_set f fd) (hm : mg "is_set" = some (.ref f)) (hb : Binds K fd ["ring", "thing"] []) (T : Txt K mg) (F_check_ring : Def P w K mg base 3 "check_ring" ["ring"] S_check_ring) (F_is_whole : Def P w K mg base 1 "is_whole" ["thing"] S_is_whole) : Def P w K mg base 4 "is_set" ["ring", "thing"] S_is_set := by
  refine mkDefJ (N := ["ring", "thing", "last", "number"]) F hm hb sc_is_set (by decide) (fun ds R h => ?_) fun cdv A outer s H E hr => ⟨_, jdss_cons (jds_expr (jd_call F_check_ring (hr.mono (by decide)) (by rfl) (jda_cons (jdv 0) jda_nil))) (jdss_cons (jds_if (jdt_not (jdt_val (jd_isi isTuple_ok (by rfl) T.b_isinstance (by rfl) T.b_tuple (by decide +kernel) (jdv 1)))) (jdss_one (jds_ret (jd_bl))) (jdss_nil)) (jdss_cons (jds_set (i := 2) sc_is_set.nd rfl (by first | exact Or.inl rfl | exact Or.inr rfl) (jd_neg (jd_int))) (jdss_cons (jds_for PassesOwn.never rfl (jdi_seq (jdv 1)) (jdg_name (i := 3) sc_is_set.nd rfl (by first | exact Or.inl rfl | exact Or.inr rfl)) (jdss_cons (jds_if (jpt (jdw_or (jdt_not (jdt_val (jd_call F_is_whole (hr.mono (by decide)) (by rfl) (jda_cons (jdv 3) jda_nil)))) (jdw_or (jdt_le (jdv 3) (jdv 2)) (jdw_or1 (jdt_ge (jdv 3) (jdv 0)))))) (jdss_one (jds_ret (jd_bl))) (jdss_nil)) (jdss_one (jds_set (i := 2) sc_is_set.nd rfl (by first | exact Or.inl rfl | exact Or.inr rfl) (jdv 3))))) (jdss_one (jds_ret (jd_bl)))))), fun ds R h => ?_⟩
  · obtain ⟨m, xs, rfl, _⟩ := h; rfl
  · obtain ⟨m, xs, rfl, hm, hx, h1⟩ := h
    refine ⟨rfl, m, rfl, hm, ?_⟩
    refine ⟨rfl, ?_⟩
    refine ⟨fun rest ρ => ∃ (l : List Int) (last : Int) (v : Option D), rest = l.map .int ∧ ρ = [some (.int m), some (tI xs), some (.int last), v] ∧ l.Pairwise (· < ·) ∧ (∀ x ∈ l, last < x ∧ x < m), ⟨xs, -1, none, rfl, rfl, hx.up, fun x q => ⟨by have := hx.lo x q; omega, hx.hi x q⟩⟩, ?_, ?_⟩
    · rintro ρ ⟨l, last, v, _, rfl, _⟩
      exact h1
    · rintro d ds ρ ⟨l, last, v, e, rfl, hp, hl⟩
      cases l with
      | nil => cases e
      | cons x l =>
        cases e
        obtain ⟨p1, p2⟩ := List.pairwise_cons.mp hp
        have q := hl x List.mem_cons_self
        refine ⟨rfl, ?_⟩
        refine ifN (P := x ≤ last) (by omega) ?_
        refine ifN (P := m ≤ x) (by omega) ?_
        exact ⟨rfl, l, x, some (.int x), rfl, rfl, p2, fun y hy => ⟨p1 y hy, (hl y (List.mem_cons_of_mem _ hy)).2⟩⟩
theorem sc_check_step : FnScope ["ring", "d"] ["ring", "d"] (defScope s_check_step) := ⟨rfl, rfl, rfl, by decide +kernel, rfl, by decide +kernel, by decide +kernel⟩
set_option maxHeartbeats 8000000 in
theorem def_check_step {f : Addr} {fd : FuncData} (F : Fun K "check_step" "check_step" s_check_step f fd) (hm : mg "check_step" = some (.ref f)) (hb : Binds K fd ["ring", "d"] []) (T : Txt K mg) (F_check_within : Def P w K mg base 3 "check_within" ["number", "least", "greatest"] S_check_within) : Def P w K mg base 4 "check_step" ["ring", "d"] S_check_step := by
  refine mkDefJ (N := ["ring", "d"]) F hm hb sc_check_step (by decide) (fun ds R h => ?_) fun cdv A outer s H E hr => ⟨_, jdss_one (jds_expr (jd_call F_check_within (hr.mono (by decide)) (by rfl) (jda_cons (jdv 1) (jda_cons (jd_int) (jda_cons (jd_sub (jdv 0) (jd_int)) jda_nil))))), fun ds R h => ?_⟩
  · obtain ⟨m, d, rfl, _⟩ := h; rfl
  · obtain ⟨m, d, rfl, h0, h2, h1⟩ := h
    exact ⟨rfl, d, 1, m - 1, rfl, h0, by omega, h1⟩
theorem sc_check_set : FnScope ["ring", "some"] ["ring", "some"] (defScope s_check_set) := ⟨rfl, rfl, rfl, by decide +kernel, rfl, by decide +kernel, by decide +kernel⟩
set_option maxHeartbeats 8000000 in
theorem def_check_set {f : Addr} {fd : FuncData} (F : Fun K "check_set" "check_set" s_check_set f fd) (hm : mg "check_set" = some (.ref f)) (hb : Binds K fd ["ring", "some"] []) (T : Txt K mg) (F_is_set : Def P w K mg base 4 "is_set" ["ring", "thing"] S_is_set) : Def P w K mg base 5 "check_set" ["ring", "some"] S_check_set := by
  refine mkDefJ (N := ["ring", "some"]) F hm hb sc_check_set (by decide) (fun ds R h => ?_) fun cdv A outer s H E hr => ⟨_, jdss_one (jds_if (jdt_not (jdt_val (jd_call F_is_set (hr.mono (by decide)) (by rfl) (jda_cons (jdv 0) (jda_cons (jdv 1) jda_nil))))) (jdss_one (jds_never)) (jdss_nil)), fun ds R h => ?_⟩
  · obtain ⟨m, xs, rfl, _⟩ := h; rfl
  · obtain ⟨m, xs, rfl, hm, hx, h1⟩ := h
    exact ⟨rfl, m, xs, rfl, hm, hx, h1⟩
theorem sc_row_of : FnScope ["ring", "first", "d", "many", "turn"] ["ring", "first", "d", "many"] (defScope s_row_of) := ⟨rfl, rfl, rfl, by decide +kernel, rfl, by decide +kernel, by decide +kernel⟩
set_option maxHeartbeats 8000000 in
theorem def_row_of {f : Addr} {fd : FuncData} (F : Fun K "row_of" "row_of" s_row_of f fd) (hm : mg "row_of" = some (.ref f)) (hb : Binds K fd ["ring", "first", "d", "many"] []) (T : Txt K mg) (F_check_ring : Def P w K mg base 3 "check_ring" ["ring"] S_check_ring) (F_check_step : Def P w K mg base 4 "check_step" ["ring", "d"] S_check_step) (F_check_within : Def P w K mg base 3 "check_within" ["number", "least", "greatest"] S_check_within) (F_set_of_rests : Def P w K mg base 1 "set_of_rests" ["ring", "numbers"] S_set_of_rests) : Def P w K mg base 5 "row_of" ["ring", "first", "d", "many"] S_row_of := by
  refine mkDefJ (N := ["ring", "first", "d", "many", "turn"]) F hm hb sc_row_of (by decide) (fun ds R h => ?_) fun cdv A outer s H E hr => ⟨_, jdss_cons (jds_expr (jd_call F_check_ring (hr.mono (by decide)) (by rfl) (jda_cons (jdv 0) jda_nil))) (jdss_cons (jds_expr (jd_call F_check_within (hr.mono (by decide)) (by rfl) (jda_cons (jdv 1) (jda_cons (jd_int) (jda_cons (jd_sub (jdv 0) (jd_int)) jda_nil))))) (jdss_cons (jds_expr (jd_call F_check_step (hr.mono (by decide)) (by rfl) (jda_cons (jdv 0) (jda_cons (jdv 2) jda_nil)))) (jdss_cons (jds_expr (jd_call F_check_within (hr.mono (by decide)) (by rfl) (jda_cons (jdv 3) (jda_cons (jd_int) (jda_cons (jdv 0) jda_nil))))) (jdss_one (jds_ret (jd_call F_set_of_rests (hr.mono (by decide)) (by rfl) (jda_cons (jdv 0) (jda_cons (jd_lc (own := [("turn", 4)]) (i := 4) rfl sc_row_of.nd (by decide) (jdi_range1 (by rfl) T.b_range (jda_cons (jdv 3) jda_nil)) (blkOk_by (by kernel_rfl)) (fun _ _ _ _ _ => pg_name (i := 4) sc_row_of.nd rfl (by first | exact Or.inl rfl | exact Or.inr rfl)) (fun _ _ _ _ _ => jdts_nil) (fun _ _ _ _ _ => jd_add (jdv 1) (jd_mul (jdv 2) (jdv 4)))) jda_nil)))))))), fun ds R h => ?_⟩
  · obtain ⟨m, f, d, k, rfl, _⟩ := h; rfl
  · obtain ⟨m, f, d, k, rfl, hm, hf, hd, hk, h1⟩ := h
    have lo := hm.lo
    have hi := hm.hi
    refine ⟨rfl, m, rfl, hm, ?_⟩
    refine ⟨rfl, f, 0, m - 1, rfl, hf.1, by omega, ?_⟩
    refine ⟨rfl, m, d, rfl, hd.1, hd.2, ?_⟩
    refine ⟨rfl, k, 0, m, rfl, hk.1, hk.2, ?_⟩
    refine ⟨rng62 (by omega) (by omega), ?_⟩
    refine lc_rng (m := k) (fun _ => true) (fun t => f + d * t) (fun _ _ Q q => q) ?_ (by omega) ?_
    · intro t ht _ Q q
      exact ⟨.inl ⟨by omega, by omega⟩, q⟩
    rw [filter_yes]
    exact ⟨rfl, m, (rngI k).map fun t => f + d * t, rfl, hm, by rw [List.length_map, rngI_len]; omega, h1⟩
theorem sc_check_pair : FnScope ["ring", "one", "other"] ["ring", "one", "other"] (defScope s_check_pair) := ⟨rfl, rfl, rfl, by decide +kernel, rfl, by decide +kernel, by decide +kernel⟩
set_option maxHeartbeats 8000000 in
theorem def_check_pair {f : Addr} {fd : FuncData} (F : Fun K "check_pair" "check_pair" s_check_pair f fd) (hm : mg "check_pair" = some (.ref f)) (hb : Binds K fd ["ring", "one", "other"] []) (T : Txt K mg) (F_check_set : Def P w K mg base 5 "check_set" ["ring", "some"] S_check_set) : Def P w K mg base 6 "check_pair" ["ring", "one", "other"] S_check_pair := by
  refine mkDefJ (N := ["ring", "one", "other"]) F hm hb sc_check_pair (by decide) (fun ds R h => ?_) fun cdv A outer s H E hr => ⟨_, jdss_cons (jds_expr (jd_call F_check_set (hr.mono (by decide)) (by rfl) (jda_cons (jdv 0) (jda_cons (jdv 1) jda_nil)))) (jdss_one (jds_expr (jd_call F_check_set (hr.mono (by decide)) (by rfl) (jda_cons (jdv 0) (jda_cons (jdv 2) jda_nil))))), fun ds R h => ?_⟩
  · obtain ⟨m, xs, ys, rfl, _⟩ := h; rfl
  · obtain ⟨m, xs, ys, rfl, hm, hx, hy, h1⟩ := h
    refine ⟨rfl, m, xs, rfl, hm, hx, ?_⟩
    exact ⟨rfl, m, ys, rfl, hm, hy, h1⟩
theorem sc_others : FnScope ["ring", "some", "number"] ["ring", "some"] (defScope s_others) := ⟨rfl, rfl, rfl, by decide +kernel, rfl, by decide +kernel, by decide +kernel⟩
set_option maxHeartbeats 8000000 in
theorem def_others {f : Addr} {fd : FuncData} (F : Fun K "others" "others" s_others f fd) (hm : mg "others" = some (.ref f)) (hb : Binds K fd ["ring", "some"] []) (T : Txt K mg) (F_check_set : Def P w K mg base 5 "check_set" ["ring", "some"] S_check_set) : Def P w K mg base 6 "others" ["ring", "some"] S_others := by
  refine mkDefJ (N := ["ring", "some", "number"]) F hm hb sc_others (by decide) (fun ds R h => ?_) fun cdv A outer s H E hr => ⟨_, jdss_cons (jds_expr (jd_call F_check_set (hr.mono (by decide)) (by rfl) (jda_cons (jdv 0) (jda_cons (jdv 1) jda_nil)))) (jdss_one (jds_ret (jd_callTy call_tuple_of cp_tupleOf (by rfl) T.b_tuple (by decide +kernel) (jda_cons (jd_lc (own := [("number", 2)]) (i := 2) rfl sc_others.nd (by decide) (jdi_range1 (by rfl) T.b_range (jda_cons (jdv 0) jda_nil)) (blkOk_by (by kernel_rfl)) (fun _ _ _ _ _ => pg_name (i := 2) sc_others.nd rfl (by first | exact Or.inl rfl | exact Or.inr rfl)) (fun _ _ _ _ _ => jdts_one (jdt_notIn (jdv 2) (jdv 1))) (fun _ _ _ _ _ => jdv 2)) jda_nil)))), fun ds R h => ?_⟩
  · obtain ⟨m, xs, rfl, _⟩ := h; rfl
  · obtain ⟨m, xs, rfl, hm, hx, h1⟩ := h
    refine ⟨rfl, m, xs, rfl, hm, hx, ?_⟩
    refine ⟨hm.r62, ?_⟩
    refine lc_rng (m := m) (fun x => !decide (x ∈ xs)) (fun x => x) ?_ ?_ hm.le ?_
    · exact fun x _ Q q => notin_tI (x := x) (ys := xs) (R := fun d => d.blP Q) q
    · exact fun _ _ _ Q q => q
    · rw [map_self]
      exact h1
theorem sc_runs_by : FnScope ["ring", "some", "d", "whole", "runs", "first", "many", "least"] ["ring", "some", "d"] (defScope s_runs_by) := ⟨rfl, rfl, rfl, by decide +kernel, rfl, by decide +kernel, by decide +kernel⟩
set_option maxHeartbeats 8000000 in
theorem def_runs_by {f : Addr} {fd : FuncData} (F : Fun K "runs_by" "runs_by" s_runs_by f fd) (hm : mg "runs_by" = some (.ref f)) (hb : Binds K fd ["ring", "some", "d"] []) (T : Txt K mg) (F_check_set : Def P w K mg base 5 "check_set" ["ring", "some"] S_check_set) (F_check_step : Def P w K mg base 4 "check_step" ["ring", "d"] S_check_step) (F_round_many : Def P w K mg base 1 "round_many" ["ring", "d"] S_round_many) (F_run_many : Def P w K mg base 2 "run_many" ["ring", "some", "d", "first"] S_run_many) : DefO P w K mg base 6 "runs_by" ["ring", "some", "d"] O_runs_by := by
  refine mkDefOJ (N := ["ring", "some", "d", "whole", "runs", "first", "many", "least"]) F hm hb sc_runs_by (by decide) (fun ds R h => ?_) fun cdv A outer s H E hr => ⟨_, jdss_cons (jds_expr (jd_call F_check_set (hr.mono (by decide)) (by rfl) (jda_cons (jdv 0) (jda_cons (jdv 1) jda_nil)))) (jdss_cons (jds_expr (jd_call F_check_step (hr.mono (by decide)) (by rfl) (jda_cons (jdv 0) (jda_cons (jdv 2) jda_nil)))) (jdss_cons (jds_set (i := 3) sc_runs_by.nd rfl (by first | exact Or.inl rfl | exact Or.inr rfl) (jd_call F_round_many (hr.mono (by decide)) (by rfl) (jda_cons (jdv 0) (jda_cons (jdv 2) jda_nil)))) (jdss_cons (jds_setN (i := 4) sc_runs_by.nd rfl (by first | exact Or.inl rfl | exact Or.inr rfl) (jdn_lst (jda_nil))) (jdss_cons (jds_for PassesOwn.never rfl (jdi_seq (jdv 1)) (jdg_name (i := 5) sc_runs_by.nd rfl (by first | exact Or.inl rfl | exact Or.inr rfl)) (jdss_cons (jds_set (i := 6) sc_runs_by.nd rfl (by first | exact Or.inl rfl | exact Or.inr rfl) (jd_call F_run_many (hr.mono (by decide)) (by rfl) (jda_cons (jdv 0) (jda_cons (jdv 1) (jda_cons (jdv 2) (jda_cons (jdv 5) jda_nil)))))) (jdss_cons (jds_set (i := 7) sc_runs_by.nd rfl (by first | exact Or.inl rfl | exact Or.inr rfl) (jd_and (jd_eq hr.units (jdv 6) (jdv 3)) (jd_one (jd_lt (jdv 5) (jd_fdiv (jdv 0) (jdv 3)))))) (jdss_one (jds_if (jpt (jdw_or (jdt_val (jdv 7)) (jdw_or1 (jdt_notIn (jd_mod (jd_sub (jdv 5) (jdv 2)) (jdv 0)) (jdv 1))))) (jdss_one (jds_append (i := 4) rfl (by first | exact Or.inl rfl | exact Or.inr (Or.inl rfl) | exact Or.inr (Or.inr rfl)) (jda_cons (jd_tup (jda_cons (jdv 5) (jda_cons (jdv 6) jda_nil))) jda_nil))) (jdss_nil)))))) (jdss_one (jds_retV 4)))))), fun ds R h => ?_⟩
  · obtain ⟨m, xs, d, rfl, _⟩ := h; rfl
  · obtain ⟨m, xs, d, rfl, hm, hx, d0, d1, h1⟩ := h
    have w := rnd_is (d := d) hm
    have wl := w.lo
    have wh := w.hi
    have hi := hm.hi
    have lx := hx.len24 hm
    refine ⟨rfl, m, xs, rfl, hm, hx, ?_⟩
    refine ⟨rfl, m, d, rfl, d0, d1, ?_⟩
    refine ⟨rfl, m, d, rfl, hm, d0, d1, ?_⟩
    refine ⟨rfl, ?_⟩
    refine ⟨sz0, rfl, ?_⟩
    refine ⟨fun rest ρ => ∃ (pre l : List Int) (es : List D) (v5 v6 v7 : Option D), xs = pre ++ l ∧ rest = l.map .int ∧ es = ((pre.filter (stB m xs d)).map fun f => (f, runF m xs d f)).map pD ∧ ρ = [some (.int m), some (tI xs), some (.int d), some (.int (rndF m d)), some (.own es), v5, v6, v7], ⟨[], xs, [], none, none, none, rfl, rfl, rfl, rfl⟩, ?_, ?_⟩
    · rintro ρ ⟨pre, l, es, v5, v6, v7, e1, e2, rfl, rfl⟩
      cases l with
      | cons _ _ => cases e2
      | nil =>
        rw [List.append_nil] at e1
        subst e1
        exact h1
    · rintro x rest ρ ⟨pre, l, es, v5, v6, v7, e1, e2, rfl, rfl⟩
      cases l with
      | nil => cases e2
      | cons a l =>
        cases e2
        have hlp : pre.length ≤ 24 := by have := congrArg List.length e1; rw [List.length_append] at this; omega
        refine ⟨rfl, m, xs, d, a, rfl, hm, hx, d0, d1, ?_⟩
        refine ⟨rfl, ?_⟩
        refine if2 (P := runF m xs d a = rndF m d) (fun c => ?_) (fun c => ?_)
        · refine ⟨⟨by omega, by omega⟩, rfl, ?_⟩
          refine if2 (P := a < m / rndF m d) (fun c2 => ?_) (fun c2 => ?_)
          · have SB : stB m xs d a = true := by unfold stB; simp [c, c2]
            refine ⟨sz2, rfl, rfl, szlt (by rw [List.length_map, List.length_map]; have := List.length_filter_le (stB m xs d) pre; omega), ?_⟩
            exact ⟨pre ++ [a], l, _, _, _, _, by rw [e1]; simp, rfl, by rw [List.filter_append, List.filter_cons, SB]; simp [pD], rfl⟩
          · show _ ∧ _
            refine ⟨hm.pos, ?_⟩
            refine notinIf (x := (a - d) % m) (ys := xs) (fun z => ?_) (fun z => ?_)
            rotate_left
            · have SB : stB m xs d a = false := by unfold stB; simp [z, c2]
              exact ⟨pre ++ [a], l, _, _, _, _, by rw [e1]; simp, rfl, by rw [List.filter_append, List.filter_cons, SB]; simp, rfl⟩
            · have SB : stB m xs d a = true := by unfold stB; simp [z]
              refine ⟨sz2, rfl, rfl, szlt (by rw [List.length_map, List.length_map]; have := List.length_filter_le (stB m xs d) pre; omega), ?_⟩
              exact ⟨pre ++ [a], l, _, _, _, _, by rw [e1]; simp, rfl, by rw [List.filter_append, List.filter_cons, SB]; simp [pD], rfl⟩
        · refine ⟨rfl, ?_⟩
          show _ ∧ _
          refine ⟨hm.pos, ?_⟩
          refine notinIf (x := (a - d) % m) (ys := xs) (fun z => ?_) (fun z => ?_)
          rotate_left
          · have SB : stB m xs d a = false := by unfold stB; simp [z, c]
            exact ⟨pre ++ [a], l, _, _, _, _, by rw [e1]; simp, rfl, by rw [List.filter_append, List.filter_cons, SB]; simp, rfl⟩
          · have SB : stB m xs d a = true := by unfold stB; simp [z]
            refine ⟨sz2, rfl, rfl, szlt (by rw [List.length_map, List.length_map]; have := List.length_filter_le (stB m xs d) pre; omega), ?_⟩
            exact ⟨pre ++ [a], l, _, _, _, _, by rw [e1]; simp, rfl, by rw [List.filter_append, List.filter_cons, SB]; simp [pD], rfl⟩
theorem sc_longest_run : FnScope ["ring", "some", "d", "first", "many"] ["ring", "some", "d"] (defScope s_longest_run) := ⟨rfl, rfl, rfl, by decide +kernel, rfl, by decide +kernel, by decide +kernel⟩
set_option maxHeartbeats 8000000 in
theorem def_longest_run {f : Addr} {fd : FuncData} (F : Fun K "longest_run" "longest_run" s_longest_run f fd) (hm : mg "longest_run" = some (.ref f)) (hb : Binds K fd ["ring", "some", "d"] []) (T : Txt K mg) (F_runs_by : DefO P w K mg base 6 "runs_by" ["ring", "some", "d"] O_runs_by) : Def P w K mg base 7 "longest_run" ["ring", "some", "d"] S_longest_run := by
  refine mkDefJ (N := ["ring", "some", "d", "first", "many"]) F hm hb sc_longest_run (by decide) (fun ds R h => ?_) fun cdv A outer s H E hr => ⟨_, jdss_one (jds_ret (jd_maxD rfl (by rfl) T.b_max (jd_lcP (own := [("first", 3), ("many", 4)]) (i := 3) (i2 := 4) rfl sc_longest_run.nd (by decide) (by decide) (jdi_seq (jd_sh (jdn_call F_runs_by (hr.mono (by decide)) (by rfl) (jda_cons (jdv 0) (jda_cons (jdv 1) (jda_cons (jdv 2) jda_nil)))))) (blkOk_by (by kernel_rfl)) (fun _ _ _ _ _ => pg_tup rfl (pgs_cons (pg_name (i := 3) sc_longest_run.nd rfl (by first | exact Or.inl rfl | exact Or.inr rfl)) (pgs_cons (pg_name (i := 4) sc_longest_run.nd rfl (by first | exact Or.inl rfl | exact Or.inr rfl)) pgs_nil))) (fun _ _ _ _ _ => jdts_nil) (fun _ _ _ _ _ => jdv 4)) (jd_int))), fun ds R h => ?_⟩
  · obtain ⟨m, xs, d, rfl, _⟩ := h; rfl
  · obtain ⟨m, xs, d, rfl, hm, hx, d0, d1, h1⟩ := h
    have lx := hx.len24 hm
    have rl : (runsF m xs d).length ≤ 24 := by unfold runsF; rw [List.length_map]; exact Nat.le_trans (List.length_filter_le _ _) lx
    refine ⟨rfl, m, xs, d, rfl, hm, hx, d0, d1, ?_⟩
    refine lcP_ints (ps := runsF m xs d) (fun _ => true) (fun q => q.2) (fun _ _ Q k => k) (fun _ _ _ Q k => k) (szl (by omega)) ?_
    rw [filter_yes]
    show intsP (((runsF m xs d).map fun q => q.2).map D.int) _
    refine intsP_of (ns := (runsF m xs d).map fun q => q.2) ?_
    refine ⟨fun z => ?_, fun z n hn hb => ?_⟩
    · exact h1 0 (by omega) (by omega) (.inl ⟨rfl, List.map_eq_nil_iff.mp z⟩)
    · obtain ⟨q, hq, rfl⟩ := List.mem_map.mp hn
      have r := run_in hm hq
      exact h1 q.2 r.2.1 (run_len hm hx hq) (.inr ⟨⟨q, hq, rfl⟩, fun p hp => hb p.2 (List.mem_map.mpr ⟨p, hp, rfl⟩)⟩)
theorem sc_gaps : FnScope ["ring", "some", "d", "runs", "whole", "first", "many"] ["ring", "some", "d"] (defScope s_gaps) := ⟨rfl, rfl, rfl, by decide +kernel, rfl, by decide +kernel, by decide +kernel⟩
set_option maxHeartbeats 8000000 in
theorem def_gaps {f : Addr} {fd : FuncData} (F : Fun K "gaps" "gaps" s_gaps f fd) (hm : mg "gaps" = some (.ref f)) (hb : Binds K fd ["ring", "some", "d"] []) (T : Txt K mg) (F_gap_behind : Def P w K mg base 1 "gap_behind" ["ring", "some", "d", "last"] S_gap_behind) (F_round_many : Def P w K mg base 1 "round_many" ["ring", "d"] S_round_many) (F_runs_by : DefO P w K mg base 6 "runs_by" ["ring", "some", "d"] O_runs_by) : Def P w K mg base 7 "gaps" ["ring", "some", "d"] S_gaps := by
  refine mkDefJ (N := ["ring", "some", "d", "runs", "whole", "first", "many"]) F hm hb sc_gaps (by decide) (fun ds R h => ?_) fun cdv A outer s H E hr => ⟨_, jdss_cons (jds_set (i := 3) sc_gaps.nd rfl (by first | exact Or.inl rfl | exact Or.inr rfl) (jd_sh (jdn_call F_runs_by (hr.mono (by decide)) (by rfl) (jda_cons (jdv 0) (jda_cons (jdv 1) (jda_cons (jdv 2) jda_nil)))))) (jdss_cons (jds_set (i := 4) sc_gaps.nd rfl (by first | exact Or.inl rfl | exact Or.inr rfl) (jd_call F_round_many (hr.mono (by decide)) (by rfl) (jda_cons (jdv 0) (jda_cons (jdv 2) jda_nil)))) (jdss_one (jds_ret (jd_lcP (own := [("first", 5), ("many", 6)]) (i := 5) (i2 := 6) rfl sc_gaps.nd (by decide) (by decide) (jdi_seq (jdv 3)) (blkOk_by (by kernel_rfl)) (fun _ _ _ _ _ => pg_tup rfl (pgs_cons (pg_name (i := 5) sc_gaps.nd rfl (by first | exact Or.inl rfl | exact Or.inr rfl)) (pgs_cons (pg_name (i := 6) sc_gaps.nd rfl (by first | exact Or.inl rfl | exact Or.inr rfl)) pgs_nil))) (fun _ _ _ _ _ => jdts_one (jdt_lt (jdv 6) (jdv 4))) (fun _ _ _ _ _ => jd_call F_gap_behind (hr.mono (by decide)) (by rfl) (jda_cons (jdv 0) (jda_cons (jdv 1) (jda_cons (jdv 2) (jda_cons (jd_add (jdv 5) (jd_mul (jd_sub (jdv 6) (jd_int)) (jdv 2))) jda_nil))))))))), fun ds R h => ?_⟩
  · obtain ⟨m, xs, d, rfl, _⟩ := h; rfl
  · obtain ⟨m, xs, d, rfl, hm, hx, d0, d1, h1⟩ := h
    have hi := hm.hi
    have lx := hx.len24 hm
    refine ⟨rfl, m, xs, d, rfl, hm, hx, d0, d1, ?_⟩
    refine ⟨rfl, ?_⟩
    refine ⟨rfl, m, d, rfl, hm, d0, d1, ?_⟩
    refine ⟨rfl, ?_⟩
    refine lcP_ints (ps := runsF m xs d) (fun q => decide (q.2 < rndF m d)) (fun q => gapF m xs d (q.1 + (q.2 - 1) * d)) ?_ ?_ (szl (by unfold runsF; rw [List.length_map]; have := List.length_filter_le (stB m xs d) xs; omega)) ?_
    · exact fun q _ Q h => h
    · intro q hq lt Q h
      have ri := run_in hm hq
      have lt' : q.2 < rndF m d := by simpa using lt
      refine ⟨.inl ⟨by omega, by omega⟩, ?_⟩
      exact ⟨rfl, m, xs, d, _, rfl, hm, hx, d0, d1, run_end hm hx hq lt', h⟩
    · exact h1
theorem sc_sums : FnScope ["ring", "one", "other", "a", "b"] ["ring", "one", "other"] (defScope s_sums) := ⟨rfl, rfl, rfl, by decide +kernel, rfl, by decide +kernel, by decide +kernel⟩
set_option maxHeartbeats 8000000 in
theorem def_sums {f : Addr} {fd : FuncData} (F : Fun K "sums" "sums" s_sums f fd) (hm : mg "sums" = some (.ref f)) (hb : Binds K fd ["ring", "one", "other"] []) (T : Txt K mg) (F_check_pair : Def P w K mg base 6 "check_pair" ["ring", "one", "other"] S_check_pair) (F_set_of_rests : Def P w K mg base 1 "set_of_rests" ["ring", "numbers"] S_set_of_rests) : Def P w K mg base 7 "sums" ["ring", "one", "other"] S_sums := by
  refine mkDefJ (N := ["ring", "one", "other", "a", "b"]) F hm hb sc_sums (by decide) (fun ds R h => ?_) fun cdv A outer s H E hr => ⟨_, jdss_cons (jds_expr (jd_call F_check_pair (hr.mono (by decide)) (by rfl) (jda_cons (jdv 0) (jda_cons (jdv 1) (jda_cons (jdv 2) jda_nil))))) (jdss_one (jds_ret (jd_call F_set_of_rests (hr.mono (by decide)) (by rfl) (jda_cons (jdv 0) (jda_cons (jd_lc2 (own := [("a", 3), ("b", 4)]) (vs1 := [4]) (i := 3) (i1 := 4) rfl sc_sums.nd (by decide) (by decide) (jdi_seq (jdv 1)) (blkOk_by (by kernel_rfl)) (by decide) (fun _ _ _ _ _ => pg_name (i := 3) sc_sums.nd rfl (by first | exact Or.inl rfl | exact Or.inr rfl)) (fun _ _ _ _ _ => jdts_nil) (fun _ _ _ _ _ => jdi_seq (jdv 2)) (fun _ _ _ _ _ => pg_name (i := 4) sc_sums.nd rfl (by first | exact Or.inl rfl | exact Or.inr rfl)) (fun _ _ _ _ _ => jdts_nil) (fun _ _ _ _ _ => jd_add (jdv 3) (jdv 4))) jda_nil))))), fun ds R h => ?_⟩
  · obtain ⟨m, xs, ys, rfl, _⟩ := h; rfl
  · obtain ⟨m, xs, ys, rfl, hm, hx, hy, h1⟩ := h
    refine ⟨rfl, m, xs, ys, rfl, hm, hx, hy, ?_⟩
    have hl := mul24 (hx.len24 hm) (hy.len24 hm)
    refine lc2_det (xs := xs) (ys := ys) (fun _ _ => true) (fun a b => a + b) (fun _ _ Q q => q) (fun _ _ Q q => q) (fun _ _ _ _ Q q => q) (fun _ _ _ _ Q q => q) (line24 (by omega)) ?_
    simp only [filter_yes]
    exact ⟨rfl, m, _, rfl, hm, by rw [flat_len]; omega, h1⟩
theorem sc_grown_many : FnScope ["ring", "some", "d", "k", "between", "gap"] ["ring", "some", "d", "k"] (defScope s_grown_many) := ⟨rfl, rfl, rfl, by decide +kernel, rfl, by decide +kernel, by decide +kernel⟩
set_option maxHeartbeats 8000000 in
theorem def_grown_many {f : Addr} {fd : FuncData} (F : Fun K "grown_many" "grown_many" s_grown_many f fd) (hm : mg "grown_many" = some (.ref f)) (hb : Binds K fd ["ring", "some", "d", "k"] []) (T : Txt K mg) (F_check_within : Def P w K mg base 3 "check_within" ["number", "least", "greatest"] S_check_within) (F_gaps : Def P w K mg base 7 "gaps" ["ring", "some", "d"] S_gaps) : Def P w K mg base 8 "grown_many" ["ring", "some", "d", "k"] S_grown_many := by
  refine mkDefJ (N := ["ring", "some", "d", "k", "between", "gap"]) F hm hb sc_grown_many (by decide) (fun ds R h => ?_) fun cdv A outer s H E hr => ⟨_, jdss_cons (jds_set (i := 4) sc_grown_many.nd rfl (by first | exact Or.inl rfl | exact Or.inr rfl) (jd_call F_gaps (hr.mono (by decide)) (by rfl) (jda_cons (jdv 0) (jda_cons (jdv 1) (jda_cons (jdv 2) jda_nil))))) (jdss_cons (jds_expr (jd_call F_check_within (hr.mono (by decide)) (by rfl) (jda_cons (jdv 3) (jda_cons (jd_int) (jda_cons (jdv 0) jda_nil))))) (jdss_one (jds_ret (jd_add (jd_callB call_len_seq cp_len (by rfl) T.b_len (by decide +kernel) (jda_cons (jdv 1) jda_nil)) (jd_callB (cr_sum rfl) cp_sum (by rfl) T.b_sum (by decide +kernel) (jda_cons (jd_lc (own := [("gap", 5)]) (i := 5) rfl sc_grown_many.nd (by decide) (jdi_seq (jdv 4)) (blkOk_by (by kernel_rfl)) (fun _ _ _ _ _ => pg_name (i := 5) sc_grown_many.nd rfl (by first | exact Or.inl rfl | exact Or.inr rfl)) (fun _ _ _ _ _ => jdts_nil) (fun _ _ _ _ _ => jd_callB (call_min2 rfl) cp_min2 (by rfl) T.b_min (by decide +kernel) (jda_cons (jdv 5) (jda_cons (jd_sub (jdv 3) (jd_int)) jda_nil)))) jda_nil)))))), fun ds R h => ?_⟩
  · obtain ⟨m, xs, d, k, rfl, _⟩ := h; rfl
  · obtain ⟨m, xs, d, k, rfl, hm, hx, d0, d1, k0, k1, h1⟩ := h
    refine ⟨rfl, m, xs, d, rfl, hm, hx, d0, d1, ?_⟩
    refine ⟨rfl, ?_⟩
    refine ⟨rfl, k, 1, m, rfl, k0, k1, ?_⟩
    have gl : (gapsF m xs d).length ≤ 1000 := by
      rw [gaps_eq hm hx, List.length_map]
      have := (show IsSt m (startsF m xs d) from hx.filter _).len24 hm
      omega
    refine lc_ints (xs := gapsF m xs d) (fun _ => true) (fun g => if k - 1 < g then k - 1 else g) (fun _ _ Q q => q) (fun g _ _ Q q => q) (szl gl) ?_
    rw [filter_yes]
    refine intsP_of (ns := (gapsF m xs d).map fun g => if k - 1 < g then k - 1 else g) ?_
    show R (.int (((xs.map D.int).length : Int) + _))
    rw [List.length_map]
    exact h1
theorem sc_l_right : FnScope ["_law_ring_here", "_law_some", "_law_d", "_law_k", "_law_found", "_law_rows", "_law_first", "_law_many", "_law_lengths", "_law_left", "_law_other"] ["_law_ring_here", "_law_some", "_law_d", "_law_k"] (defScope s_l_right) := ⟨rfl, rfl, rfl, by decide +kernel, rfl, by decide +kernel, by decide +kernel⟩
set_option maxHeartbeats 8000000 in
theorem def_l_right {f : Addr} {fd : FuncData} (F : Fun K "_law_right" "_law_right" s_l_right f fd) (hm : mg "_law_right" = some (.ref f)) (hb : Binds K fd ["_law_ring_here", "_law_some", "_law_d", "_law_k"] []) (T : Txt K mg) (F_gaps : Def P w K mg base 7 "gaps" ["ring", "some", "d"] S_gaps) (F_grown_many : Def P w K mg base 8 "grown_many" ["ring", "some", "d", "k"] S_grown_many) (F_longest_run : Def P w K mg base 7 "longest_run" ["ring", "some", "d"] S_longest_run) (F_others : Def P w K mg base 6 "others" ["ring", "some"] S_others) (F_row_of : Def P w K mg base 5 "row_of" ["ring", "first", "d", "many"] S_row_of) (F_runs_by : DefO P w K mg base 6 "runs_by" ["ring", "some", "d"] O_runs_by) (F_sums : Def P w K mg base 7 "sums" ["ring", "one", "other"] S_sums) : Def P w K mg base 9 "_law_right" ["_law_ring_here", "_law_some", "_law_d", "_law_k"] S_l_right_dk := by
  refine mkDefJ (N := ["_law_ring_here", "_law_some", "_law_d", "_law_k", "_law_found", "_law_rows", "_law_first", "_law_many", "_law_lengths", "_law_left", "_law_other"]) F hm hb sc_l_right (by decide) (fun ds R h => ?_) fun cdv A outer s H E hr => ⟨_, jdss_cons (jds_set (i := 4) sc_l_right.nd rfl (by first | exact Or.inl rfl | exact Or.inr rfl) (jd_sh (jdn_call F_runs_by (hr.mono (by decide)) (by rfl) (jda_cons (jdv 0) (jda_cons (jdv 1) (jda_cons (jdv 2) jda_nil)))))) (jdss_cons (jds_setLcP (i' := 5) (own := [("_law_first", 6), ("_law_many", 7)]) (i := 6) (i2 := 7) rfl sc_l_right.nd rfl rfl (sw_true rfl rfl rfl (by decide +kernel)) (by decide) (by decide) (jdi_seq (jdv 4)) (blkOk_by (by kernel_rfl)) (fun _ _ _ _ _ => pg_tup rfl (pgs_cons (pg_name (i := 6) sc_l_right.nd rfl (by first | exact Or.inl rfl | exact Or.inr rfl)) (pgs_cons (pg_name (i := 7) sc_l_right.nd rfl (by first | exact Or.inl rfl | exact Or.inr rfl)) pgs_nil))) (fun _ _ _ _ _ => jdts_nil) (fun _ _ _ _ _ => jd_call F_row_of (hr.mono (by decide)) (by rfl) (jda_cons (jdv 0) (jda_cons (jdv 6) (jda_cons (jdv 2) (jda_cons (jdv 7) jda_nil)))))) (jdss_cons (jds_if (jpt (jdw_or (jdt_ne hr.units (jd_callB cr_sortedT cp_sortedT (by rfl) T.b_sorted (by decide +kernel) (jda_cons (jd_callB (cr_sumTs rfl) cp_sumTs (by rfl) T.b_sum (by decide +kernel) (jda_cons (jdv 5) (jda_cons (jd_tup (jda_nil)) jda_nil))) jda_nil)) (jd_callTy call_list_of cp_listOf (by rfl) T.b_list (by decide +kernel) (jda_cons (jdv 1) jda_nil))) (jdw_or1 (jdt_ne hr.units (jd_callB cr_sortedK cp_sortedK (by rfl) T.b_sorted (by decide +kernel) (jda_cons (jdv 4) jda_nil)) (jdv 4))))) (jdss_one (jds_ret (jd_bl))) (jdss_nil)) (jdss_cons (jds_if (jdt_ne hr.units (jd_call F_longest_run (hr.mono (by decide)) (by rfl) (jda_cons (jdv 0) (jda_cons (jdv 1) (jda_cons (jdv 2) jda_nil)))) (jd_callB (cr_max rfl) cp_maxL (by rfl) T.b_max (by decide +kernel) (jda_cons (jd_cat (jd_lst (jda_cons (jd_int) jda_nil)) (jd_lcP (own := [("_law_first", 6), ("_law_many", 7)]) (i := 6) (i2 := 7) rfl sc_l_right.nd (by decide) (by decide) (jdi_seq (jdv 4)) (blkOk_by (by kernel_rfl)) (fun _ _ _ _ _ => pg_tup rfl (pgs_cons (pg_name (i := 6) sc_l_right.nd rfl (by first | exact Or.inl rfl | exact Or.inr rfl)) (pgs_cons (pg_name (i := 7) sc_l_right.nd rfl (by first | exact Or.inl rfl | exact Or.inr rfl)) pgs_nil))) (fun _ _ _ _ _ => jdts_nil) (fun _ _ _ _ _ => jdv 7))) jda_nil))) (jdss_one (jds_ret (jd_bl))) (jdss_nil)) (jdss_cons (jds_if (jdt_ne hr.units (jd_call F_grown_many (hr.mono (by decide)) (by rfl) (jda_cons (jdv 0) (jda_cons (jdv 1) (jda_cons (jdv 2) (jda_cons (jdv 3) jda_nil))))) (jd_callB call_len_seq cp_len (by rfl) T.b_len (by decide +kernel) (jda_cons (jd_call F_sums (hr.mono (by decide)) (by rfl) (jda_cons (jdv 0) (jda_cons (jdv 1) (jda_cons (jd_call F_row_of (hr.mono (by decide)) (by rfl) (jda_cons (jdv 0) (jda_cons (jd_int) (jda_cons (jdv 2) (jda_cons (jdv 3) jda_nil))))) jda_nil)))) jda_nil))) (jdss_one (jds_ret (jd_bl))) (jdss_nil)) (jdss_cons (jds_set (i := 8) sc_l_right.nd rfl (by first | exact Or.inl rfl | exact Or.inr rfl) (jd_call F_gaps (hr.mono (by decide)) (by rfl) (jda_cons (jdv 0) (jda_cons (jdv 1) (jda_cons (jdv 2) jda_nil))))) (jdss_cons (jds_if (jpt (jdw_or (jdt_ne hr.units (jd_call F_grown_many (hr.mono (by decide)) (by rfl) (jda_cons (jdv 0) (jda_cons (jdv 1) (jda_cons (jdv 2) (jda_cons (jd_int) jda_nil))))) (jd_add (jd_callB call_len_seq cp_len (by rfl) T.b_len (by decide +kernel) (jda_cons (jdv 1) jda_nil)) (jd_callB call_len_seq cp_len (by rfl) T.b_len (by decide +kernel) (jda_cons (jdv 8) jda_nil)))) (jdw_or1 (jdt_gt (jd_callB call_len_seq cp_len (by rfl) T.b_len (by decide +kernel) (jda_cons (jdv 8) jda_nil)) (jd_callB call_len_seq cp_len (by rfl) T.b_len (by decide +kernel) (jda_cons (jdv 4) jda_nil)))))) (jdss_one (jds_ret (jd_bl))) (jdss_nil)) (jdss_cons (jds_setLcPN (i' := 9) (own := [("_law_first", 6), ("_law_many", 7)]) (i := 6) (i2 := 7) rfl sc_l_right.nd rfl rfl (sw_true rfl rfl rfl (by decide +kernel)) (by decide) (by decide) (jdi_seq (jdv 4)) (blkOk_by (by kernel_rfl)) (fun _ _ _ _ _ => pg_tup rfl (pgs_cons (pg_name (i := 6) sc_l_right.nd rfl (by first | exact Or.inl rfl | exact Or.inr rfl)) (pgs_cons (pg_name (i := 7) sc_l_right.nd rfl (by first | exact Or.inl rfl | exact Or.inr rfl)) pgs_nil))) (fun _ _ _ _ _ => jdts_nil) (fun _ _ _ _ _ => jdv 7)) (jdss_cons (jds_for PassesOwn.never rfl (jdi_seq (jd_call F_gaps (hr.mono (by decide)) (by rfl) (jda_cons (jdv 0) (jda_cons (jd_call F_others (hr.mono (by decide)) (by rfl) (jda_cons (jdv 0) (jda_cons (jdv 1) jda_nil))) (jda_cons (jdv 2) jda_nil))))) (jdg_name (i := 7) sc_l_right.nd rfl (by first | exact Or.inl rfl | exact Or.inr rfl)) (jdss_cons (jds_if (jdt_notInL hr.units (jdv 7) (jdv 9)) (jdss_one (jds_ret (jd_bl))) (jdss_nil)) (jdss_one (jds_remI (i := 9) rfl (by first | exact Or.inl rfl | exact Or.inr (Or.inl rfl) | exact Or.inr (Or.inr rfl)) (jda_cons (jdv 7) jda_nil))))) (jdss_cons (jds_if (jdt_ne hr.units (jd_callB call_len_seq cp_len (by rfl) T.b_len (by decide +kernel) (jda_cons (jdv 9) jda_nil)) (jd_sub (jd_callB call_len_seq cp_len (by rfl) T.b_len (by decide +kernel) (jda_cons (jdv 4) jda_nil)) (jd_callB call_len_seq cp_len (by rfl) T.b_len (by decide +kernel) (jda_cons (jdv 8) jda_nil)))) (jdss_one (jds_ret (jd_bl))) (jdss_nil)) (jdss_cons (jds_set (i := 10) sc_l_right.nd rfl (by first | exact Or.inl rfl | exact Or.inr rfl) (jd_sh (jdn_call F_runs_by (hr.mono (by decide)) (by rfl) (jda_cons (jdv 0) (jda_cons (jdv 1) (jda_cons (jd_sub (jdv 0) (jdv 2)) jda_nil)))))) (jdss_one (jds_ret (jd_eq hr.units (jd_callB cr_sorted cp_sorted (by rfl) T.b_sorted (by decide +kernel) (jda_cons (jd_lcP (own := [("_law_first", 6), ("_law_many", 7)]) (i := 6) (i2 := 7) rfl sc_l_right.nd (by decide) (by decide) (jdi_seq (jdv 10)) (blkOk_by (by kernel_rfl)) (fun _ _ _ _ _ => pg_tup rfl (pgs_cons (pg_name (i := 6) sc_l_right.nd rfl (by first | exact Or.inl rfl | exact Or.inr rfl)) (pgs_cons (pg_name (i := 7) sc_l_right.nd rfl (by first | exact Or.inl rfl | exact Or.inr rfl)) pgs_nil))) (fun _ _ _ _ _ => jdts_nil) (fun _ _ _ _ _ => jdv 7)) jda_nil)) (jd_callB cr_sorted cp_sorted (by rfl) T.b_sorted (by decide +kernel) (jda_cons (jd_lcP (own := [("_law_first", 6), ("_law_many", 7)]) (i := 6) (i2 := 7) rfl sc_l_right.nd (by decide) (by decide) (jdi_seq (jdv 4)) (blkOk_by (by kernel_rfl)) (fun _ _ _ _ _ => pg_tup rfl (pgs_cons (pg_name (i := 6) sc_l_right.nd rfl (by first | exact Or.inl rfl | exact Or.inr rfl)) (pgs_cons (pg_name (i := 7) sc_l_right.nd rfl (by first | exact Or.inl rfl | exact Or.inr rfl)) pgs_nil))) (fun _ _ _ _ _ => jdts_nil) (fun _ _ _ _ _ => jdv 7)) jda_nil))))))))))))))), fun ds R h => ?_⟩
  · obtain ⟨m, xs, d, k, rfl, _⟩ := h; rfl
  · obtain ⟨m, xs, d, k, rfl, hm, hx, d0, d1, k0, k1, h1⟩ := h
    have hi := hm.hi
    have lx := hx.len24 hm
    have rl := runs_len (d := d) hm hx
    refine ⟨rfl, m, xs, d, rfl, hm, hx, d0, d1, ?_⟩
    refine ⟨rfl, ?_⟩
    refine lcP_det (ps := runsF m xs d) (fun _ => true) (fun q => tI (rowF m q.1 d q.2)) (fun _ _ Q h => h) ?_ (fun _ => rfl) (szl (by omega)) ?_
    · intro q hq _ Q h
      obtain ⟨a1, a2, a3, a4, a5⟩ := run_in hm hq
      exact ⟨rfl, m, q.1, d, q.2, rfl, hm, ⟨hx.lo _ a1, hx.hi _ a1⟩, ⟨d0, d1⟩, ⟨a2, a3⟩, h⟩
    rw [filter_yes]
    refine ⟨rfl, ?_⟩
    refine ⟨sz0, rfl, ?_⟩
    have pr := rows_perm hm hx d0 d1
    have lr := pr.length_eq
    refine ⟨rfl, _, rows_tups, by rw [rows_flat, List.length_map]; exact szl (by omega), ?_⟩
    rw [rows_flat]
    refine intsP_of (ns := (rowsF m xs d).flatten) ?_
    refine ⟨by omega, fun ns hp hs => ?_⟩
    have en : xs = ns := (sorted_uniq (hp.trans pr) hs (st_le hx)).symm
    subst en
    refine neIfL rfl ?_
    show tupsP ((runsF m xs d).map pD) _
    rw [pDs_tI]
    refine tupsP_of (nss := (runsF m xs d).map prL) ?_
    have hh := runs_heads (d := d) hx
    refine ⟨⟨by rw [List.length_map]; omega, ?_, heads_nodup hh⟩, fun mss pm pw => ?_⟩
    · intro ns hns
      obtain ⟨q, _, rfl⟩ := List.mem_map.mp hns
      simp [prL]
    rw [← pDs_tI]
    refine neIfP (rows_ext mss _ pw hh fun t => pm.mem_iff) ?_
    refine ⟨rfl, m, xs, d, rfl, hm, hx, d0, d1, fun n n0 n1 hn => ?_⟩
    refine ⟨sz1, rfl, ?_⟩
    refine lcP_det (ps := runsF m xs d) (fun _ => true) (fun q => .int q.2) (fun _ _ Q h => h) (fun q _ _ Q h => h) (fun _ => rfl) (szl (by omega)) ?_
    rw [lens_map]
    refine ⟨szl (by simp only [List.length_map, List.length_cons, List.length_nil]; omega), ?_⟩
    refine intsP_of (ns := 0 :: (runsF m xs d).map fun q => q.2) ?_
    refine ⟨by simp, fun l hl hb => ?_⟩
    obtain rfl : l = n := long_uniq hm hn hl hb
    refine ifNN rfl ?_
    refine ⟨rfl, m, xs, d, k, rfl, hm, hx, d0, d1, k0, k1, ?_⟩
    refine ⟨rfl, m, 0, d, k, rfl, hm, ⟨by decide, by omega⟩, ⟨d0, d1⟩, ⟨by omega, k1⟩, ?_⟩
    refine ⟨rfl, m, xs, _, rfl, hm, hx, rowF_st hm, ?_⟩
    refine ifNN (by rw [List.length_map]; exact (sums_row4 hm hx d0 d1 k0).symm) ?_
    refine ⟨rfl, m, xs, d, rfl, hm, hx, d0, d1, ?_⟩
    refine ⟨rfl, ?_⟩
    refine ⟨rfl, m, xs, d, 2, rfl, hm, hx, d0, d1, by decide, hm.lo, ?_⟩
    refine ifNN (by rw [List.length_map, List.length_map]; exact grown_two hm hx) ?_
    refine ifN (by rw [List.length_map, List.length_map]; have := gaps_le (d := d) (xs := xs) hm; omega) ?_
    refine lcP_det (ps := runsF m xs d) (fun _ => true) (fun q => .int q.2) (fun _ _ Q h => h) (fun q _ _ Q h => h) (fun _ => rfl) (szl (by omega)) ?_
    rw [lens_map]
    obtain ⟨extra, pe, le⟩ := lens_gaps hm hx d0 d1
    have co : IsSt m (othF m xs) := othF_st
    refine ⟨rfl, m, xs, rfl, hm, hx, ?_⟩
    refine ⟨rfl, m, othF m xs, d, rfl, hm, co, d0, d1, ?_⟩
    refine ⟨fun rest ρ => ∃ (gs l : List Int) (v6 v7 : Option D), rest = gs.map .int ∧ l.Perm (gs ++ extra) ∧ ρ = [some (.int m), some (tI xs), some (.int d), some (.int k), some (.lst ((runsF m xs d).map pD)), some (.lst ((runsF m xs d).map fun q => tI (rowF m q.1 d q.2))), v6, v7, some (lI (gapsF m xs d)), some (.own (l.map .int)), none], ⟨_, _, _, _, rfl, pe, rfl⟩, ?_, ?_⟩
    rotate_left
    · rintro y rest ρ ⟨gs, l, w6, w7, e, pl, rfl⟩
      cases gs with
      | nil => cases e
      | cons g gs =>
        cases e
        obtain ⟨g1, g2⟩ := mem_left pl
        refine notinO g1 ?_
        exact ⟨l, rfl, g1, gs, _, _, _, rfl, g2, rfl⟩
    rintro ρ ⟨gs, l2, w6, w7, e, pl, rfl⟩
    have eg : gs = [] := by cases gs with | nil => rfl | cons _ _ => cases e
    subst eg
    have ll := pl.length_eq
    refine ifNN (by simp only [List.length_map, List.nil_append] at ll ⊢; omega) ?_
    refine ⟨rfl, m, xs, m - d, rfl, hm, hx, by omega, by omega, ?_⟩
    refine ⟨rfl, ?_⟩
    have rl2 := runs_len (d := m - d) hm hx
    refine lcP_det (ps := runsF m xs (m - d)) (fun _ => true) (fun q => .int q.2) (fun _ _ Q h => h) (fun q _ _ Q h => h) (fun _ => rfl) (szl (by omega)) ?_
    rw [lens_map]
    refine intsP_of (ns := (runsF m xs (m - d)).map fun q => q.2) ?_
    refine ⟨by rw [List.length_map]; omega, fun n1 p1 s1 => ?_⟩
    refine lcP_det (ps := runsF m xs d) (fun _ => true) (fun q => .int q.2) (fun _ _ Q h => h) (fun q _ _ Q h => h) (fun _ => rfl) (szl (by omega)) ?_
    rw [lens_map]
    refine intsP_of (ns := (runsF m xs d).map fun q => q.2) ?_
    refine ⟨by rw [List.length_map]; omega, fun n2 p2 s2 => ?_⟩
    have en : n1 = n2 := sorted_uniq ((p1.trans (lens_turn hm hx d0 d1)).trans p2.symm) s1 s2
    refine eq_lI ?_
    rw [decide_eq_true en]
    exact h1
theorem sc_law : FnScope ["_law_script", "_law_cell_here", "_law_pen_here", "_law_ring_here", "_law_some", "_law_turn"] ["_law_script"] (defScope s_law) := ⟨rfl, rfl, rfl, by decide +kernel, rfl, by decide +kernel, by decide +kernel⟩
set_option maxHeartbeats 8000000 in
theorem def_law {f : Addr} {fd : FuncData} (F : Fun K "law" "law" s_law f fd) (hm : mg "law" = some (.ref f)) (hb : Binds K fd ["_law_script"] []) (T : Txt K mg) (F_l_cell : Def P w K mg base 1 "_law_cell" ["_law_script", "_law_k"] S_l_cell) (F_l_draw : Def P w K mg base 1 "_law_draw" ["_law_pen_here", "_law_many"] S_l_draw) (F_l_pen : Def P w K mg base 1 "_law_pen" ["_law_cell_here"] S_l_pen) (F_l_right : Def P w K mg base 9 "_law_right" ["_law_ring_here", "_law_some", "_law_d", "_law_k"] S_l_right_dk) (F_l_ring : Def P w K mg base 2 "_law_ring" ["_law_pen_here"] S_l_ring) (F_l_set : Def P w K mg base 2 "_law_set" ["_law_pen_here", "_law_ring_here"] S_l_set) : FnOk P w K mg base CX0 10 f fd ["_law_script"] (spD K 1 S_law) := by
  refine mkFnJ (N := ["_law_script", "_law_cell_here", "_law_pen_here", "_law_ring_here", "_law_some", "_law_turn"]) F hm hb sc_law (by decide) (fun ds R h => ?_) fun cdv A outer s H E hr => ⟨_, jdss_cons (jds_for PassesOwn.never rfl (jdi_seq (jd_cat (jd_lst (jda_cons (jd_call F_l_cell (hr.mono (by decide)) (by rfl) (jda_cons (jdv 0) (jda_cons (jd_int) jda_nil))) jda_nil)) (jd_sliceL (jdv 0) (jdo_some (jd_int)) (jdo_some (jd_int))))) (jdg_name (i := 1) sc_law.nd rfl (by first | exact Or.inl rfl | exact Or.inr rfl)) (jdss_cons (jds_set (i := 2) sc_law.nd rfl (by first | exact Or.inl rfl | exact Or.inr rfl) (jd_call F_l_pen (hr.mono (by decide)) (by rfl) (jda_cons (jdv 1) jda_nil))) (jdss_cons (jds_set (i := 3) sc_law.nd rfl (by first | exact Or.inl rfl | exact Or.inr rfl) (jd_call F_l_ring (hr.mono (by decide)) (by rfl) (jda_cons (jdv 2) jda_nil))) (jdss_cons (jds_set (i := 4) sc_law.nd rfl (by first | exact Or.inl rfl | exact Or.inr rfl) (jd_call F_l_set (hr.mono (by decide)) (by rfl) (jda_cons (jdv 2) (jda_cons (jdv 3) jda_nil)))) (jdss_one (jds_for PassesOwn.never rfl (jdi_range1 (by rfl) T.b_range (jda_cons (jd_int) jda_nil)) (jdg_name (i := 5) sc_law.nd rfl (by first | exact Or.inl rfl | exact Or.inr rfl)) (jdss_one (jds_if (jdt_not (jdt_val (jd_call F_l_right (hr.mono (by decide)) (by rfl) (jda_cons (jdv 3) (jda_cons (jdv 4) (jda_cons (jd_add (jd_int) (jd_call F_l_draw (hr.mono (by decide)) (by rfl) (jda_cons (jdv 2) (jda_cons (jd_sub (jdv 3) (jd_int)) jda_nil)))) (jda_cons (jd_add (jd_int) (jd_call F_l_draw (hr.mono (by decide)) (by rfl) (jda_cons (jdv 2) (jda_cons (jdv 3) jda_nil)))) jda_nil))))))) (jdss_one (jds_ret (jd_bl))) (jdss_nil))))))))) (jdss_one (jds_ret (jd_bl))), fun ds R h => ?_⟩
  · obtain ⟨ns, rfl, _⟩ := h; rfl
  · obtain ⟨ns, rfl, hl, h1⟩ := h
    refine ⟨rfl, ns, 0, rfl, Int.le_refl _, fun i => ?_⟩
    refine ⟨sz1, rfl, ?_⟩
    obtain ⟨l, e1, hl1⟩ := cutD_ints ns (some 1) (some 4)
    have e2 : wSl rdSlL (wVar 0) (wPart (wC (.int 1))) (wPart (wC (.int 4))) (startD ["_law_script", "_law_cell_here", "_law_pen_here", "_law_ring_here", "_law_some", "_law_turn"] [lI ns]) = fun R => R (.lst (l.map .int)) := by
      funext R
      show R (.lst (cutD (ns.map .int) (some 1) (some 4))) = _
      rw [e1]
    show wSl rdSlL (wVar 0) (wPart (wC (.int 1))) (wPart (wC (.int 4))) (startD ["_law_script", "_law_cell_here", "_law_pen_here", "_law_ring_here", "_law_some", "_law_turn"] [lI ns]) _
    rw [e2]
    refine ⟨szl (by simp only [List.length_map, List.length_cons, List.length_nil]; omega), ?_⟩
    refine ⟨fun rest ρ => (∃ l : List Int, rest = l.map .int) ∧ ∃ v1 v2 v3 v4 v5, ρ = [some (lI ns), v1, v2, v3, v4, v5], ⟨⟨i :: l, rfl⟩, _, _, _, _, _, rfl⟩, ?_, ?_⟩
    · rintro ρ ⟨_, v1, v2, v3, v4, v5, rfl⟩
      exact h1
    · rintro d ds ρ ⟨⟨l, hl⟩, v1, v2, v3, v4, v5, rfl⟩
      cases l with
      | nil => cases hl
      | cons z l =>
        cases hl
        have done : ∃ l' : List Int, l.map D.int = l'.map D.int := ⟨l, rfl⟩
        refine ⟨rfl, z, rfl, ?_⟩
        refine ⟨rfl, ?_⟩
        refine ⟨rfl, rfl, fun m hm => ?_⟩
        refine ⟨rfl, ?_⟩
        have lo := hm.lo
        have hi := hm.hi
        refine ⟨rfl, m, rfl, hm, fun xs hx => ?_⟩
        refine ⟨rfl, ?_⟩
        refine ⟨rng62 (by decide) (by decide), ?_⟩
        refine ⟨fun rest ρ => ∃ v5 : Option D, ρ = [some (lI ns), some (.int z), some (.pen), some (.int m), some (tI xs), v5], ⟨_, rfl⟩, ?_, ?_⟩
        · rintro ρ ⟨v5, rfl⟩
          exact ⟨done, _, _, _, _, _, rfl⟩
        · rintro d rest ρ ⟨v5, rfl⟩
          refine ⟨rfl, m - 1, rfl, by omega, by omega, fun a a0 a1 => ?_⟩
          refine ⟨rfl, m, rfl, by omega, by omega, fun b b0 b1 => ?_⟩
          refine ⟨rfl, m, xs, 1 + a, 1 + b, rfl, hm, hx, by omega, by omega, by omega, by omega, ?_⟩
          exact ⟨_, rfl⟩
end
end KW

set_option Elab.async false
set_option linter.all false
set_option maxRecDepth 100000
set_option maxHeartbeats 4000000
namespace KW
open PySem PySem.Spec PyProof.Rows L2 DS DL
set_option maxHeartbeats 8000000 in
theorem all_mk {l : PySem.W.OpenLaw} {w : World} {K : PySem.W.Frag} {h : Heap} {mg : Str → Option Value} {fa : Addr} (X : K.In h) (G : h.Ns mainGlobals mg) (hfa : mg "law" = some (.ref fa))
    {f0 : Addr} {od0 an0 : Option Addr} {sl0 : Array (Option Value)} {oc0 kV0 dc0 pm0 cd0 ct0 : Value}
    (a0 : PySem.W.nsIn K mainGlobals "is_whole" = some (some (.ref f0))) (l0 : K.lookup f0 = some ⟨oc0, od0, .func (PySem.W.fnOf "is_whole" "is_whole" (defArgs s_is_whole) (defBody s_is_whole) (defScope s_is_whole) .none kV0 dc0 pm0 an0 cd0 ct0), sl0⟩) (c0 : PySem.W.codeIn K cd0 "is_whole" = true) (k0 : PySem.W.keepIn K (.ref f0) = true)
    {f1 : Addr} {od1 an1 : Option Addr} {sl1 : Array (Option Value)} {oc1 kV1 dc1 pm1 cd1 ct1 : Value}
    (a1 : PySem.W.nsIn K mainGlobals "set_of_rests" = some (some (.ref f1))) (l1 : K.lookup f1 = some ⟨oc1, od1, .func (PySem.W.fnOf "set_of_rests" "set_of_rests" (defArgs s_set_of_rests) (defBody s_set_of_rests) (defScope s_set_of_rests) .none kV1 dc1 pm1 an1 cd1 ct1), sl1⟩) (c1 : PySem.W.codeIn K cd1 "set_of_rests" = true) (k1 : PySem.W.keepIn K (.ref f1) = true)
    {f2 : Addr} {od2 an2 : Option Addr} {sl2 : Array (Option Value)} {oc2 kV2 dc2 pm2 cd2 ct2 : Value}
    (a2 : PySem.W.nsIn K mainGlobals "round_many" = some (some (.ref f2))) (l2 : K.lookup f2 = some ⟨oc2, od2, .func (PySem.W.fnOf "round_many" "round_many" (defArgs s_round_many) (defBody s_round_many) (defScope s_round_many) .none kV2 dc2 pm2 an2 cd2 ct2), sl2⟩) (c2 : PySem.W.codeIn K cd2 "round_many" = true) (k2 : PySem.W.keepIn K (.ref f2) = true)
    {f3 : Addr} {od3 an3 : Option Addr} {sl3 : Array (Option Value)} {oc3 kV3 dc3 pm3 cd3 ct3 : Value}
    (a3 : PySem.W.nsIn K mainGlobals "gap_behind" = some (some (.ref f3))) (l3 : K.lookup f3 = some ⟨oc3, od3, .func (PySem.W.fnOf "gap_behind" "gap_behind" (defArgs s_gap_behind) (defBody s_gap_behind) (defScope s_gap_behind) .none kV3 dc3 pm3 an3 cd3 ct3), sl3⟩) (c3 : PySem.W.codeIn K cd3 "gap_behind" = true) (k3 : PySem.W.keepIn K (.ref f3) = true)
    {f4 : Addr} {od4 an4 : Option Addr} {sl4 : Array (Option Value)} {oc4 kV4 dc4 pm4 cd4 ct4 : Value}
    (a4 : PySem.W.nsIn K mainGlobals "_law_cell" = some (some (.ref f4))) (l4 : K.lookup f4 = some ⟨oc4, od4, .func (PySem.W.fnOf "_law_cell" "_law_cell" (defArgs s_l_cell) (defBody s_l_cell) (defScope s_l_cell) .none kV4 dc4 pm4 an4 cd4 ct4), sl4⟩) (c4 : PySem.W.codeIn K cd4 "_law_cell" = true) (k4 : PySem.W.keepIn K (.ref f4) = true)
    {f5 : Addr} {od5 an5 : Option Addr} {sl5 : Array (Option Value)} {oc5 kV5 dc5 pm5 cd5 ct5 : Value}
    (a5 : PySem.W.nsIn K mainGlobals "_law_pen" = some (some (.ref f5))) (l5 : K.lookup f5 = some ⟨oc5, od5, .func (PySem.W.fnOf "_law_pen" "_law_pen" (defArgs s_l_pen) (defBody s_l_pen) (defScope s_l_pen) .none kV5 dc5 pm5 an5 cd5 ct5), sl5⟩) (c5 : PySem.W.codeIn K cd5 "_law_pen" = true) (k5 : PySem.W.keepIn K (.ref f5) = true)
    {f6 : Addr} {od6 an6 : Option Addr} {sl6 : Array (Option Value)} {oc6 kV6 dc6 pm6 cd6 ct6 : Value}
    (a6 : PySem.W.nsIn K mainGlobals "_law_draw" = some (some (.ref f6))) (l6 : K.lookup f6 = some ⟨oc6, od6, .func (PySem.W.fnOf "_law_draw" "_law_draw" (defArgs s_l_draw) (defBody s_l_draw) (defScope s_l_draw) .none kV6 dc6 pm6 an6 cd6 ct6), sl6⟩) (c6 : PySem.W.codeIn K cd6 "_law_draw" = true) (k6 : PySem.W.keepIn K (.ref f6) = true)
    {f7 : Addr} {od7 an7 : Option Addr} {sl7 : Array (Option Value)} {oc7 kV7 dc7 pm7 cd7 ct7 : Value}
    (a7 : PySem.W.nsIn K mainGlobals "is_within" = some (some (.ref f7))) (l7 : K.lookup f7 = some ⟨oc7, od7, .func (PySem.W.fnOf "is_within" "is_within" (defArgs s_is_within) (defBody s_is_within) (defScope s_is_within) .none kV7 dc7 pm7 an7 cd7 ct7), sl7⟩) (c7 : PySem.W.codeIn K cd7 "is_within" = true) (k7 : PySem.W.keepIn K (.ref f7) = true)
    {f8 : Addr} {od8 an8 : Option Addr} {sl8 : Array (Option Value)} {oc8 kV8 dc8 pm8 cd8 ct8 : Value}
    (a8 : PySem.W.nsIn K mainGlobals "run_many" = some (some (.ref f8))) (l8 : K.lookup f8 = some ⟨oc8, od8, .func (PySem.W.fnOf "run_many" "run_many" (defArgs s_run_many) (defBody s_run_many) (defScope s_run_many) .none kV8 dc8 pm8 an8 cd8 ct8), sl8⟩) (c8 : PySem.W.codeIn K cd8 "run_many" = true) (k8 : PySem.W.keepIn K (.ref f8) = true)
    {f9 : Addr} {od9 an9 : Option Addr} {sl9 : Array (Option Value)} {oc9 kV9 dc9 pm9 cd9 ct9 : Value}
    (a9 : PySem.W.nsIn K mainGlobals "_law_ring" = some (some (.ref f9))) (l9 : K.lookup f9 = some ⟨oc9, od9, .func (PySem.W.fnOf "_law_ring" "_law_ring" (defArgs s_l_ring) (defBody s_l_ring) (defScope s_l_ring) .none kV9 dc9 pm9 an9 cd9 ct9), sl9⟩) (c9 : PySem.W.codeIn K cd9 "_law_ring" = true) (k9 : PySem.W.keepIn K (.ref f9) = true)
    {f10 : Addr} {od10 an10 : Option Addr} {sl10 : Array (Option Value)} {oc10 kV10 dc10 pm10 cd10 ct10 : Value}
    (a10 : PySem.W.nsIn K mainGlobals "_law_set" = some (some (.ref f10))) (l10 : K.lookup f10 = some ⟨oc10, od10, .func (PySem.W.fnOf "_law_set" "_law_set" (defArgs s_l_set) (defBody s_l_set) (defScope s_l_set) .none kV10 dc10 pm10 an10 cd10 ct10), sl10⟩) (c10 : PySem.W.codeIn K cd10 "_law_set" = true) (k10 : PySem.W.keepIn K (.ref f10) = true)
    {f11 : Addr} {od11 an11 : Option Addr} {sl11 : Array (Option Value)} {oc11 kV11 dc11 pm11 cd11 ct11 : Value}
    (a11 : PySem.W.nsIn K mainGlobals "check_within" = some (some (.ref f11))) (l11 : K.lookup f11 = some ⟨oc11, od11, .func (PySem.W.fnOf "check_within" "check_within" (defArgs s_check_within) (defBody s_check_within) (defScope s_check_within) .none kV11 dc11 pm11 an11 cd11 ct11), sl11⟩) (c11 : PySem.W.codeIn K cd11 "check_within" = true) (k11 : PySem.W.keepIn K (.ref f11) = true)
    {f12 : Addr} {od12 an12 : Option Addr} {sl12 : Array (Option Value)} {oc12 kV12 dc12 pm12 cd12 ct12 : Value}
    (a12 : PySem.W.nsIn K mainGlobals "check_ring" = some (some (.ref f12))) (l12 : K.lookup f12 = some ⟨oc12, od12, .func (PySem.W.fnOf "check_ring" "check_ring" (defArgs s_check_ring) (defBody s_check_ring) (defScope s_check_ring) .none kV12 dc12 pm12 an12 cd12 ct12), sl12⟩) (c12 : PySem.W.codeIn K cd12 "check_ring" = true) (k12 : PySem.W.keepIn K (.ref f12) = true)
    {f13 : Addr} {od13 an13 : Option Addr} {sl13 : Array (Option Value)} {oc13 kV13 dc13 pm13 cd13 ct13 : Value}
    (a13 : PySem.W.nsIn K mainGlobals "is_set" = some (some (.ref f13))) (l13 : K.lookup f13 = some ⟨oc13, od13, .func (PySem.W.fnOf "is_set" "is_set" (defArgs s_is_set) (defBody s_is_set) (defScope s_is_set) .none kV13 dc13 pm13 an13 cd13 ct13), sl13⟩) (c13 : PySem.W.codeIn K cd13 "is_set" = true) (k13 : PySem.W.keepIn K (.ref f13) = true)
    {f14 : Addr} {od14 an14 : Option Addr} {sl14 : Array (Option Value)} {oc14 kV14 dc14 pm14 cd14 ct14 : Value}
    (a14 : PySem.W.nsIn K mainGlobals "check_step" = some (some (.ref f14))) (l14 : K.lookup f14 = some ⟨oc14, od14, .func (PySem.W.fnOf "check_step" "check_step" (defArgs s_check_step) (defBody s_check_step) (defScope s_check_step) .none kV14 dc14 pm14 an14 cd14 ct14), sl14⟩) (c14 : PySem.W.codeIn K cd14 "check_step" = true) (k14 : PySem.W.keepIn K (.ref f14) = true)
    {f15 : Addr} {od15 an15 : Option Addr} {sl15 : Array (Option Value)} {oc15 kV15 dc15 pm15 cd15 ct15 : Value}
    (a15 : PySem.W.nsIn K mainGlobals "check_set" = some (some (.ref f15))) (l15 : K.lookup f15 = some ⟨oc15, od15, .func (PySem.W.fnOf "check_set" "check_set" (defArgs s_check_set) (defBody s_check_set) (defScope s_check_set) .none kV15 dc15 pm15 an15 cd15 ct15), sl15⟩) (c15 : PySem.W.codeIn K cd15 "check_set" = true) (k15 : PySem.W.keepIn K (.ref f15) = true)
    {f16 : Addr} {od16 an16 : Option Addr} {sl16 : Array (Option Value)} {oc16 kV16 dc16 pm16 cd16 ct16 : Value}
    (a16 : PySem.W.nsIn K mainGlobals "row_of" = some (some (.ref f16))) (l16 : K.lookup f16 = some ⟨oc16, od16, .func (PySem.W.fnOf "row_of" "row_of" (defArgs s_row_of) (defBody s_row_of) (defScope s_row_of) .none kV16 dc16 pm16 an16 cd16 ct16), sl16⟩) (c16 : PySem.W.codeIn K cd16 "row_of" = true) (k16 : PySem.W.keepIn K (.ref f16) = true)
    {f17 : Addr} {od17 an17 : Option Addr} {sl17 : Array (Option Value)} {oc17 kV17 dc17 pm17 cd17 ct17 : Value}
    (a17 : PySem.W.nsIn K mainGlobals "check_pair" = some (some (.ref f17))) (l17 : K.lookup f17 = some ⟨oc17, od17, .func (PySem.W.fnOf "check_pair" "check_pair" (defArgs s_check_pair) (defBody s_check_pair) (defScope s_check_pair) .none kV17 dc17 pm17 an17 cd17 ct17), sl17⟩) (c17 : PySem.W.codeIn K cd17 "check_pair" = true) (k17 : PySem.W.keepIn K (.ref f17) = true)
    {f18 : Addr} {od18 an18 : Option Addr} {sl18 : Array (Option Value)} {oc18 kV18 dc18 pm18 cd18 ct18 : Value}
    (a18 : PySem.W.nsIn K mainGlobals "others" = some (some (.ref f18))) (l18 : K.lookup f18 = some ⟨oc18, od18, .func (PySem.W.fnOf "others" "others" (defArgs s_others) (defBody s_others) (defScope s_others) .none kV18 dc18 pm18 an18 cd18 ct18), sl18⟩) (c18 : PySem.W.codeIn K cd18 "others" = true) (k18 : PySem.W.keepIn K (.ref f18) = true)
    {f19 : Addr} {od19 an19 : Option Addr} {sl19 : Array (Option Value)} {oc19 kV19 dc19 pm19 cd19 ct19 : Value}
    (a19 : PySem.W.nsIn K mainGlobals "runs_by" = some (some (.ref f19))) (l19 : K.lookup f19 = some ⟨oc19, od19, .func (PySem.W.fnOf "runs_by" "runs_by" (defArgs s_runs_by) (defBody s_runs_by) (defScope s_runs_by) .none kV19 dc19 pm19 an19 cd19 ct19), sl19⟩) (c19 : PySem.W.codeIn K cd19 "runs_by" = true) (k19 : PySem.W.keepIn K (.ref f19) = true)
    {f20 : Addr} {od20 an20 : Option Addr} {sl20 : Array (Option Value)} {oc20 kV20 dc20 pm20 cd20 ct20 : Value}
    (a20 : PySem.W.nsIn K mainGlobals "longest_run" = some (some (.ref f20))) (l20 : K.lookup f20 = some ⟨oc20, od20, .func (PySem.W.fnOf "longest_run" "longest_run" (defArgs s_longest_run) (defBody s_longest_run) (defScope s_longest_run) .none kV20 dc20 pm20 an20 cd20 ct20), sl20⟩) (c20 : PySem.W.codeIn K cd20 "longest_run" = true) (k20 : PySem.W.keepIn K (.ref f20) = true)
    {f21 : Addr} {od21 an21 : Option Addr} {sl21 : Array (Option Value)} {oc21 kV21 dc21 pm21 cd21 ct21 : Value}
    (a21 : PySem.W.nsIn K mainGlobals "gaps" = some (some (.ref f21))) (l21 : K.lookup f21 = some ⟨oc21, od21, .func (PySem.W.fnOf "gaps" "gaps" (defArgs s_gaps) (defBody s_gaps) (defScope s_gaps) .none kV21 dc21 pm21 an21 cd21 ct21), sl21⟩) (c21 : PySem.W.codeIn K cd21 "gaps" = true) (k21 : PySem.W.keepIn K (.ref f21) = true)
    {f22 : Addr} {od22 an22 : Option Addr} {sl22 : Array (Option Value)} {oc22 kV22 dc22 pm22 cd22 ct22 : Value}
    (a22 : PySem.W.nsIn K mainGlobals "sums" = some (some (.ref f22))) (l22 : K.lookup f22 = some ⟨oc22, od22, .func (PySem.W.fnOf "sums" "sums" (defArgs s_sums) (defBody s_sums) (defScope s_sums) .none kV22 dc22 pm22 an22 cd22 ct22), sl22⟩) (c22 : PySem.W.codeIn K cd22 "sums" = true) (k22 : PySem.W.keepIn K (.ref f22) = true)
    {f23 : Addr} {od23 an23 : Option Addr} {sl23 : Array (Option Value)} {oc23 kV23 dc23 pm23 cd23 ct23 : Value}
    (a23 : PySem.W.nsIn K mainGlobals "grown_many" = some (some (.ref f23))) (l23 : K.lookup f23 = some ⟨oc23, od23, .func (PySem.W.fnOf "grown_many" "grown_many" (defArgs s_grown_many) (defBody s_grown_many) (defScope s_grown_many) .none kV23 dc23 pm23 an23 cd23 ct23), sl23⟩) (c23 : PySem.W.codeIn K cd23 "grown_many" = true) (k23 : PySem.W.keepIn K (.ref f23) = true)
    {f24 : Addr} {od24 an24 : Option Addr} {sl24 : Array (Option Value)} {oc24 kV24 dc24 pm24 cd24 ct24 : Value}
    (a24 : PySem.W.nsIn K mainGlobals "_law_right" = some (some (.ref f24))) (l24 : K.lookup f24 = some ⟨oc24, od24, .func (PySem.W.fnOf "_law_right" "_law_right" (defArgs s_l_right) (defBody s_l_right) (defScope s_l_right) .none kV24 dc24 pm24 an24 cd24 ct24), sl24⟩) (c24 : PySem.W.codeIn K cd24 "_law_right" = true) (k24 : PySem.W.keepIn K (.ref f24) = true)
    {f25 : Addr} {od25 an25 : Option Addr} {sl25 : Array (Option Value)} {oc25 kV25 dc25 pm25 cd25 ct25 : Value}
    (a25 : PySem.W.nsIn K mainGlobals "law" = some (some (.ref f25))) (l25 : K.lookup f25 = some ⟨oc25, od25, .func (PySem.W.fnOf "law" "law" (defArgs s_law) (defBody s_law) (defScope s_law) .none kV25 dc25 pm25 an25 cd25 ct25), sl25⟩) (c25 : PySem.W.codeIn K cd25 "law" = true) (k25 : PySem.W.keepIn K (.ref f25) = true)
    (z_bool : PySem.W.nsIn K mainGlobals "bool" = some none)
    (z_divmod : PySem.W.nsIn K mainGlobals "divmod" = some none)
    (z_int : PySem.W.nsIn K mainGlobals "int" = some none)
    (z_isinstance : PySem.W.nsIn K mainGlobals "isinstance" = some none)
    (z_len : PySem.W.nsIn K mainGlobals "len" = some none)
    (z_list : PySem.W.nsIn K mainGlobals "list" = some none)
    (z_max : PySem.W.nsIn K mainGlobals "max" = some none)
    (z_min : PySem.W.nsIn K mainGlobals "min" = some none)
    (z_range : PySem.W.nsIn K mainGlobals "range" = some none)
    (z_set : PySem.W.nsIn K mainGlobals "set" = some none)
    (z_sorted : PySem.W.nsIn K mainGlobals "sorted" = some none)
    (z_sum : PySem.W.nsIn K mainGlobals "sum" = some none)
    (z_tuple : PySem.W.nsIn K mainGlobals "tuple" = some none)
    {t_LEAST_RING} (q_LEAST_RING : PySem.W.nsIn K mainGlobals "LEAST_RING" = some (some (.int 2 t_LEAST_RING)))
    {t_GREATEST_RING} (q_GREATEST_RING : PySem.W.nsIn K mainGlobals "GREATEST_RING" = some (some (.int 24 t_GREATEST_RING)))
    {C_NoRing : Addr} (n_NoRing : PySem.W.nsIn K mainGlobals "NoRing" = some (some (.ref C_NoRing))) (e_NoRing : PySem.W.excIn K C_NoRing bmVE "ValueError.__new__" = true)
    {C_NoSet : Addr} (n_NoSet : PySem.W.nsIn K mainGlobals "NoSet" = some (some (.ref C_NoSet))) (e_NoSet : PySem.W.excIn K C_NoSet bmVE "ValueError.__new__" = true)
    {C_NoNumber : Addr} (n_NoNumber : PySem.W.nsIn K mainGlobals "NoNumber" = some (some (.ref C_NoNumber))) (e_NoNumber : PySem.W.excIn K C_NoNumber bmVE "ValueError.__new__" = true) :
    ∃ fd : FuncData, (∀ (s : Shared) (v : Value), BindsTo s fd ⟨[v], []⟩ [("_law_script", v)]) ∧ ∀ base : Heap, K.In base → base.Ns mainGlobals mg → LamB K mg base → FnOk l.prog w K mg base CX0 10 fa fd ["_law_script"] (spD K 1 S_law) := by
  have e := hfa.symm.trans (PySem.W.mg_of X G a25)
  cases e
  have T : Txt K mg := ⟨PySem.W.mg_none_of X G z_bool, PySem.W.mg_none_of X G z_divmod, PySem.W.mg_none_of X G z_int, PySem.W.mg_none_of X G z_isinstance, PySem.W.mg_none_of X G z_len, PySem.W.mg_none_of X G z_list, PySem.W.mg_none_of X G z_max, PySem.W.mg_none_of X G z_min, PySem.W.mg_none_of X G z_range, PySem.W.mg_none_of X G z_set, PySem.W.mg_none_of X G z_sorted, PySem.W.mg_none_of X G z_sum, PySem.W.mg_none_of X G z_tuple, ⟨_, PySem.W.mg_of X G q_LEAST_RING⟩, ⟨_, PySem.W.mg_of X G q_GREATEST_RING⟩, ⟨_, PySem.W.mg_of X G n_NoRing, n_NoRing, e_NoRing⟩, ⟨_, PySem.W.mg_of X G n_NoSet, n_NoSet, e_NoSet⟩, ⟨_, PySem.W.mg_of X G n_NoNumber, n_NoNumber, e_NoNumber⟩⟩
  have F0 := fun_mk (st := s_is_whole) l0 c0 k0
  have b0 := F0.binds (ps := ["thing"]) fun _ _ _ _ _ _ us hl => match us, hl with | [_], _ => rfl
  have F1 := fun_mk (st := s_set_of_rests) l1 c1 k1
  have b1 := F1.binds (ps := ["ring", "numbers"]) fun _ _ _ _ _ _ us hl => match us, hl with | [_, _], _ => rfl
  have F2 := fun_mk (st := s_round_many) l2 c2 k2
  have b2 := F2.binds (ps := ["ring", "d"]) fun _ _ _ _ _ _ us hl => match us, hl with | [_, _], _ => rfl
  have F3 := fun_mk (st := s_gap_behind) l3 c3 k3
  have b3 := F3.binds (ps := ["ring", "some", "d", "last"]) fun _ _ _ _ _ _ us hl => match us, hl with | [_, _, _, _], _ => rfl
  have F4 := fun_mk (st := s_l_cell) l4 c4 k4
  have b4 := F4.binds (ps := ["_law_script", "_law_k"]) fun _ _ _ _ _ _ us hl => match us, hl with | [_, _], _ => rfl
  have F5 := fun_mk (st := s_l_pen) l5 c5 k5
  have b5 := F5.binds (ps := ["_law_cell_here"]) fun _ _ _ _ _ _ us hl => match us, hl with | [_], _ => rfl
  have F6 := fun_mk (st := s_l_draw) l6 c6 k6
  have b6 := F6.binds (ps := ["_law_pen_here", "_law_many"]) fun _ _ _ _ _ _ us hl => match us, hl with | [_, _], _ => rfl
  have F7 := fun_mk (st := s_is_within) l7 c7 k7
  have b7 := F7.binds (ps := ["thing", "least", "greatest"]) fun _ _ _ _ _ _ us hl => match us, hl with | [_, _, _], _ => rfl
  have F8 := fun_mk (st := s_run_many) l8 c8 k8
  have b8 := F8.binds (ps := ["ring", "some", "d", "first"]) fun _ _ _ _ _ _ us hl => match us, hl with | [_, _, _, _], _ => rfl
  have F9 := fun_mk (st := s_l_ring) l9 c9 k9
  have b9 := F9.binds (ps := ["_law_pen_here"]) fun _ _ _ _ _ _ us hl => match us, hl with | [_], _ => rfl
  have F10 := fun_mk (st := s_l_set) l10 c10 k10
  have b10 := F10.binds (ps := ["_law_pen_here", "_law_ring_here"]) fun _ _ _ _ _ _ us hl => match us, hl with | [_, _], _ => rfl
  have F11 := fun_mk (st := s_check_within) l11 c11 k11
  have b11 := F11.binds (ps := ["number", "least", "greatest"]) fun _ _ _ _ _ _ us hl => match us, hl with | [_, _, _], _ => rfl
  have F12 := fun_mk (st := s_check_ring) l12 c12 k12
  have b12 := F12.binds (ps := ["ring"]) fun _ _ _ _ _ _ us hl => match us, hl with | [_], _ => rfl
  have F13 := fun_mk (st := s_is_set) l13 c13 k13
  have b13 := F13.binds (ps := ["ring", "thing"]) fun _ _ _ _ _ _ us hl => match us, hl with | [_, _], _ => rfl
  have F14 := fun_mk (st := s_check_step) l14 c14 k14
  have b14 := F14.binds (ps := ["ring", "d"]) fun _ _ _ _ _ _ us hl => match us, hl with | [_, _], _ => rfl
  have F15 := fun_mk (st := s_check_set) l15 c15 k15
  have b15 := F15.binds (ps := ["ring", "some"]) fun _ _ _ _ _ _ us hl => match us, hl with | [_, _], _ => rfl
  have F16 := fun_mk (st := s_row_of) l16 c16 k16
  have b16 := F16.binds (ps := ["ring", "first", "d", "many"]) fun _ _ _ _ _ _ us hl => match us, hl with | [_, _, _, _], _ => rfl
  have F17 := fun_mk (st := s_check_pair) l17 c17 k17
  have b17 := F17.binds (ps := ["ring", "one", "other"]) fun _ _ _ _ _ _ us hl => match us, hl with | [_, _, _], _ => rfl
  have F18 := fun_mk (st := s_others) l18 c18 k18
  have b18 := F18.binds (ps := ["ring", "some"]) fun _ _ _ _ _ _ us hl => match us, hl with | [_, _], _ => rfl
  have F19 := fun_mk (st := s_runs_by) l19 c19 k19
  have b19 := F19.binds (ps := ["ring", "some", "d"]) fun _ _ _ _ _ _ us hl => match us, hl with | [_, _, _], _ => rfl
  have F20 := fun_mk (st := s_longest_run) l20 c20 k20
  have b20 := F20.binds (ps := ["ring", "some", "d"]) fun _ _ _ _ _ _ us hl => match us, hl with | [_, _, _], _ => rfl
  have F21 := fun_mk (st := s_gaps) l21 c21 k21
  have b21 := F21.binds (ps := ["ring", "some", "d"]) fun _ _ _ _ _ _ us hl => match us, hl with | [_, _, _], _ => rfl
  have F22 := fun_mk (st := s_sums) l22 c22 k22
  have b22 := F22.binds (ps := ["ring", "one", "other"]) fun _ _ _ _ _ _ us hl => match us, hl with | [_, _, _], _ => rfl
  have F23 := fun_mk (st := s_grown_many) l23 c23 k23
  have b23 := F23.binds (ps := ["ring", "some", "d", "k"]) fun _ _ _ _ _ _ us hl => match us, hl with | [_, _, _, _], _ => rfl
  have F24 := fun_mk (st := s_l_right) l24 c24 k24
  have b24 := F24.binds (ps := ["_law_ring_here", "_law_some", "_law_d", "_law_k"]) fun _ _ _ _ _ _ us hl => match us, hl with | [_, _, _, _], _ => rfl
  have F25 := fun_mk (st := s_law) l25 c25 k25
  have b25 := F25.binds (ps := ["_law_script"]) fun _ _ _ _ _ _ us hl => match us, hl with | [_], _ => rfl
  refine ⟨PySem.W.fnOf "law" "law" (defArgs s_law) (defBody s_law) (defScope s_law) .none kV25 dc25 pm25 an25 cd25 ct25, fun s v => .of_eq rfl, fun base _ _ LB => ?_⟩
  have F_is_whole : Def l.prog w K mg base 1 "is_whole" ["thing"] S_is_whole := def_is_whole F0 (PySem.W.mg_of X G a0) b0 T 
  have F_set_of_rests : Def l.prog w K mg base 1 "set_of_rests" ["ring", "numbers"] S_set_of_rests := def_set_of_rests F1 (PySem.W.mg_of X G a1) b1 T 
  have F_round_many : Def l.prog w K mg base 1 "round_many" ["ring", "d"] S_round_many := def_round_many F2 (PySem.W.mg_of X G a2) b2 T 
  have F_gap_behind : Def l.prog w K mg base 1 "gap_behind" ["ring", "some", "d", "last"] S_gap_behind := def_gap_behind F3 (PySem.W.mg_of X G a3) b3 T 
  have F_l_cell : Def l.prog w K mg base 1 "_law_cell" ["_law_script", "_law_k"] S_l_cell := def_l_cell F4 (PySem.W.mg_of X G a4) b4 T 
  have F_l_pen : Def l.prog w K mg base 1 "_law_pen" ["_law_cell_here"] S_l_pen := def_l_pen F5 (PySem.W.mg_of X G a5) b5 T 
  have F_l_draw : Def l.prog w K mg base 1 "_law_draw" ["_law_pen_here", "_law_many"] S_l_draw := def_l_draw F6 (PySem.W.mg_of X G a6) b6 T 
  have F_is_within : Def l.prog w K mg base 2 "is_within" ["thing", "least", "greatest"] S_is_within := def_is_within F7 (PySem.W.mg_of X G a7) b7 T F_is_whole
  have F_run_many : Def l.prog w K mg base 2 "run_many" ["ring", "some", "d", "first"] S_run_many := def_run_many F8 (PySem.W.mg_of X G a8) b8 T F_round_many
  have F_l_ring : Def l.prog w K mg base 2 "_law_ring" ["_law_pen_here"] S_l_ring := def_l_ring F9 (PySem.W.mg_of X G a9) b9 T F_l_draw
  have F_l_set : Def l.prog w K mg base 2 "_law_set" ["_law_pen_here", "_law_ring_here"] S_l_set := def_l_set F10 (PySem.W.mg_of X G a10) b10 T F_l_draw
  have F_check_within : Def l.prog w K mg base 3 "check_within" ["number", "least", "greatest"] S_check_within := def_check_within F11 (PySem.W.mg_of X G a11) b11 T F_is_within
  have F_check_ring : Def l.prog w K mg base 3 "check_ring" ["ring"] S_check_ring := def_check_ring F12 (PySem.W.mg_of X G a12) b12 T F_is_within
  have F_is_set : Def l.prog w K mg base 4 "is_set" ["ring", "thing"] S_is_set := def_is_set F13 (PySem.W.mg_of X G a13) b13 T F_check_ring F_is_whole
  have F_check_step : Def l.prog w K mg base 4 "check_step" ["ring", "d"] S_check_step := def_check_step F14 (PySem.W.mg_of X G a14) b14 T F_check_within
  have F_check_set : Def l.prog w K mg base 5 "check_set" ["ring", "some"] S_check_set := def_check_set F15 (PySem.W.mg_of X G a15) b15 T F_is_set
  have F_row_of : Def l.prog w K mg base 5 "row_of" ["ring", "first", "d", "many"] S_row_of := def_row_of F16 (PySem.W.mg_of X G a16) b16 T F_check_ring F_check_step F_check_within F_set_of_rests
  have F_check_pair : Def l.prog w K mg base 6 "check_pair" ["ring", "one", "other"] S_check_pair := def_check_pair F17 (PySem.W.mg_of X G a17) b17 T F_check_set
  have F_others : Def l.prog w K mg base 6 "others" ["ring", "some"] S_others := def_others F18 (PySem.W.mg_of X G a18) b18 T F_check_set
  have F_runs_by : DefO l.prog w K mg base 6 "runs_by" ["ring", "some", "d"] O_runs_by := def_runs_by F19 (PySem.W.mg_of X G a19) b19 T F_check_set F_check_step F_round_many F_run_many
  have F_longest_run : Def l.prog w K mg base 7 "longest_run" ["ring", "some", "d"] S_longest_run := def_longest_run F20 (PySem.W.mg_of X G a20) b20 T F_runs_by
  have F_gaps : Def l.prog w K mg base 7 "gaps" ["ring", "some", "d"] S_gaps := def_gaps F21 (PySem.W.mg_of X G a21) b21 T F_gap_behind F_round_many F_runs_by
  have F_sums : Def l.prog w K mg base 7 "sums" ["ring", "one", "other"] S_sums := def_sums F22 (PySem.W.mg_of X G a22) b22 T F_check_pair F_set_of_rests
  have F_grown_many : Def l.prog w K mg base 8 "grown_many" ["ring", "some", "d", "k"] S_grown_many := def_grown_many F23 (PySem.W.mg_of X G a23) b23 T F_check_within F_gaps
  have F_l_right : Def l.prog w K mg base 9 "_law_right" ["_law_ring_here", "_law_some", "_law_d", "_law_k"] S_l_right_dk := def_l_right F24 (PySem.W.mg_of X G a24) b24 T F_gaps F_grown_many F_longest_run F_others F_row_of F_runs_by F_sums
  exact def_law F25 (PySem.W.mg_of X G a25) b25 T F_l_cell F_l_draw F_l_pen F_l_right F_l_ring F_l_set
end KW
open PySem PySem.W PyProof.Rows
set_option maxRecDepth 100000 in
set_option maxHeartbeats 0 in
theorem PySem.Challenge.cw_twosetsums_k47_whole_runs_and_sums_holds : PySem.Challenge.rw_twosetsums_k47_whole_runs_and_sums.Holds := by
  w_on; o_law; k_head; (case hw => w_witness2)
  k_fill
  refine DL.walk_ofT (l := PySem.Challenge.rw_twosetsums_k47_whole_runs_and_sums) (k := 10) (x := "_law_script") rfl rfl ⟨rfl, by decide, by decide, rfl⟩ (fun w h Y => PySem.W.kIn_of Y) ?OK ?F
  case OK => intro w; kernel_rfl
  case F =>
    intro w mg fa h KX G hmg
    refine' KW.all_mk KX G hmg ?a0 ?l0 ?c0 ?k0 ?a1 ?l1 ?c1 ?k1 ?a2 ?l2 ?c2 ?k2 ?a3 ?l3 ?c3 ?k3 ?a4 ?l4 ?c4 ?k4 ?a5 ?l5 ?c5 ?k5 ?a6 ?l6 ?c6 ?k6 ?a7 ?l7 ?c7 ?k7 ?a8 ?l8 ?c8 ?k8 ?a9 ?l9 ?c9 ?k9 ?a10 ?l10 ?c10 ?k10 ?a11 ?l11 ?c11 ?k11 ?a12 ?l12 ?c12 ?k12 ?a13 ?l13 ?c13 ?k13 ?a14 ?l14 ?c14 ?k14 ?a15 ?l15 ?c15 ?k15 ?a16 ?l16 ?c16 ?k16 ?a17 ?l17 ?c17 ?k17 ?a18 ?l18 ?c18 ?k18 ?a19 ?l19 ?c19 ?k19 ?a20 ?l20 ?c20 ?k20 ?a21 ?l21 ?c21 ?k21 ?a22 ?l22 ?c22 ?k22 ?a23 ?l23 ?c23 ?k23 ?a24 ?l24 ?c24 ?k24 ?a25 ?l25 ?c25 ?k25 ?z_bool ?z_divmod ?z_int ?z_isinstance ?z_len ?z_list ?z_max ?z_min ?z_range ?z_set ?z_sorted ?z_sum ?z_tuple ?q_LEAST_RING ?q_GREATEST_RING ?n_NoRing ?e_NoRing ?n_NoSet ?e_NoSet ?n_NoNumber ?e_NoNumber
    (case a0 => k_is); (case l0 => k_is); (case c0 => k_is); (case k0 => k_is); (case a1 => k_is); (case l1 => k_is)
    (case c1 => k_is); (case k1 => k_is); (case a2 => k_is); (case l2 => k_is); (case c2 => k_is); (case k2 => k_is)
    (case a3 => k_is); (case l3 => k_is); (case c3 => k_is); (case k3 => k_is); (case a4 => k_is); (case l4 => k_is)
    (case c4 => k_is); (case k4 => k_is); (case a5 => k_is); (case l5 => k_is); (case c5 => k_is); (case k5 => k_is)
    (case a6 => k_is); (case l6 => k_is); (case c6 => k_is); (case k6 => k_is); (case a7 => k_is); (case l7 => k_is)
    (case c7 => k_is); (case k7 => k_is); (case a8 => k_is); (case l8 => k_is); (case c8 => k_is); (case k8 => k_is)
    (case a9 => k_is); (case l9 => k_is); (case c9 => k_is); (case k9 => k_is); (case a10 => k_is); (case l10 => k_is)
    (case c10 => k_is); (case k10 => k_is); (case a11 => k_is); (case l11 => k_is); (case c11 => k_is); (case k11 => k_is)
    (case a12 => k_is); (case l12 => k_is); (case c12 => k_is); (case k12 => k_is); (case a13 => k_is); (case l13 => k_is)
    (case c13 => k_is); (case k13 => k_is); (case a14 => k_is); (case l14 => k_is); (case c14 => k_is); (case k14 => k_is)
    (case a15 => k_is); (case l15 => k_is); (case c15 => k_is); (case k15 => k_is); (case a16 => k_is); (case l16 => k_is)
    (case c16 => k_is); (case k16 => k_is); (case a17 => k_is); (case l17 => k_is); (case c17 => k_is); (case k17 => k_is)
    (case a18 => k_is); (case l18 => k_is); (case c18 => k_is); (case k18 => k_is); (case a19 => k_is); (case l19 => k_is)
    (case c19 => k_is); (case k19 => k_is); (case a20 => k_is); (case l20 => k_is); (case c20 => k_is); (case k20 => k_is)
    (case a21 => k_is); (case l21 => k_is); (case c21 => k_is); (case k21 => k_is); (case a22 => k_is); (case l22 => k_is)
    (case c22 => k_is); (case k22 => k_is); (case a23 => k_is); (case l23 => k_is); (case c23 => k_is); (case k23 => k_is)
    (case a24 => k_is); (case l24 => k_is); (case c24 => k_is); (case k24 => k_is); (case a25 => k_is); (case l25 => k_is)
    (case c25 => k_is); (case k25 => k_is); (case z_bool => k_is); (case z_divmod => k_is); (case z_int => k_is); (case z_isinstance => k_is)
    (case z_len => k_is); (case z_list => k_is); (case z_max => k_is); (case z_min => k_is); (case z_range => k_is); (case z_set => k_is)
    (case z_sorted => k_is); (case z_sum => k_is); (case z_tuple => k_is); (case q_LEAST_RING => k_is); (case q_GREATEST_RING => k_is); (case n_NoRing => k_is)
    (case e_NoRing => kernel_rfl); (case n_NoSet => k_is); (case e_NoSet => kernel_rfl); (case n_NoNumber => k_is); (case e_NoNumber => kernel_rfl)

