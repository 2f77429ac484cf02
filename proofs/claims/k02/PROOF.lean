import PyProof.Rows.All
import Wide.All
import OpenK.AllK
import Wide.FinOn
import HandS.ForMost
import HandS.Defaults
import HandS.Wide
import HandS.TupAny
import HandS.IsInst
import HandS.Style
import HandS.WideBits
import PySem.Challenge.RW_classprimes_k02_discriminants_parts_symb
set_option Elab.async false
set_option maxRecDepth 100000
/-! Zc: values as data, cells, what denotes them; readings by functions. -/
namespace Zm
open PySem L2

inductive D where
  | non | bl (b : Bool) | int (i : Int) | str (x : Str) | tup (xs : List D) | lst (xs : List D) | frl (xs : List D) | dic | cell (i : Nat) | ty (n : String)
  deriving Inhabited
abbrev Cells := List (List D)
/-- the cells, by their numbers; what is hidden (a list that a comprehension is making) -/
structure Rho where
  c : List Addr
  v : List Addr
instance : Membership Addr Rho := ⟨fun ρ a => a ∈ ρ.c ∨ a ∈ ρ.v⟩
theorem Rho.notIn {ρ : Rho} {a : Addr} (h : a ∉ ρ) : a ∉ ρ.c ∧ a ∉ ρ.v := ⟨fun z => h (.inl z), fun z => h (.inr z)⟩
theorem Rho.out {ρ : Rho} {a : Addr} (h1 : a ∉ ρ.c) (h2 : a ∉ ρ.v) : a ∉ ρ := fun z => z.elim h1 h2
structure MS where
  s : List (Option D)
  h : Cells

section
variable (K : PySem.W.Frag) (ρ : Rho) (H : Hp)
mutual
inductive Den : V → D → Prop
  | non : Den .non .non
  | bl (b) : Den (.bl b) (.bl b)
  | int (i) : Den (.int i) (.int i)
  | str (x) : Den (.str x) (.str x)
  | tup {a vs ds} : Rd H a (.tup vs) → a ∉ ρ → Dens vs ds → Den (.ref a) (.tup ds)
  | tupK {a vs ds} : (∀ H, SqT K H a vs) → Dens vs ds → Den (.ref a) (.tup ds)
  | lst {a vs ds} : H a = some (.lst vs) → a ∉ ρ → Dens vs ds → Den (.ref a) (.lst ds)
  | frl {a vs ds} : Rd H a (.lst vs) → a ∉ ρ → Dens vs ds → Den (.ref a) (.frl ds)
  | frlK {a vs ds} : (∀ H, SqL K H a vs) → Dens vs ds → Den (.ref a) (.frl ds)
  | ty (n) : Den (.ty n) (.ty n)
  | dic {a} : H a = some (.dK []) → a ∉ ρ → Den (.ref a) .dic
  | cell {a i} : ρ.c[i]? = some a → Den (.ref a) (.cell i)
inductive Dens : List V → List D → Prop
  | nil : Dens [] []
  | cons {v d vs ds} : Den v d → Dens vs ds → Dens (v :: vs) (d :: ds)
end
end

/-- what came after: what was there and is no cell stands; cells stay, more may come -/
structure Fut (ρ : Rho) (H : Hp) (ρ' : Rho) (H' : Hp) : Prop where
  keep : ∀ a o, a ∉ ρ.c → H a = some o → H' a = some o
  ext : ∃ more, ρ'.c = ρ.c ++ more
  sub : ∀ a ∈ ρ.v, a ∈ ρ'.v
  hid : ∀ a ∈ ρ'.v, a ∈ ρ.v ∨ (H a = none ∧ a ∉ ρ.c)
  fresh : ∀ a, a ∈ ρ'.c → a ∉ ρ.c → H a = none
theorem Fut.mk1 {ρ : Rho} {H H' : Hp} (h : ∀ a o, a ∉ ρ.c → H a = some o → H' a = some o) : Fut ρ H ρ H' := ⟨h, ⟨[], by simp⟩, fun _ h => h, fun _ h => .inl h, fun _ h n => absurd h n⟩
theorem Fut.refl (ρ : Rho) (H : Hp) : Fut ρ H ρ H := .mk1 fun _ _ _ h => h
theorem Fut.trans {ρ ρ1 ρ2 : Rho} {H H1 H2 : Hp} (a : Fut ρ H ρ1 H1) (b : Fut ρ1 H1 ρ2 H2) : Fut ρ H ρ2 H2 := by
  have back : ∀ x, x ∉ ρ.c → H1 x = none → H x = none := fun x n q => by
    cases e : H x with
    | none => rfl
    | some o => rw [a.keep x o n e] at q; cases q
  refine ⟨fun x o n e => ?_, ?_, fun x h => b.sub x (a.sub x h), fun x h => ?_, fun x h n => ?_⟩
  · refine b.keep x o (fun z => ?_) (a.keep x o n e)
    rw [a.fresh x z n] at e; cases e
  · obtain ⟨m, e1⟩ := a.ext
    obtain ⟨k, e2⟩ := b.ext
    exact ⟨m ++ k, by rw [e2, e1, List.append_assoc]⟩
  · rcases b.hid x h with z | z
    · exact a.hid x z
    · have n : x ∉ ρ.c := fun y => z.2 (by obtain ⟨m, e1⟩ := a.ext; rw [e1]; exact List.mem_append_left _ y)
      exact .inr ⟨back x n z.1, n⟩
  · by_cases z : x ∈ ρ1.c
    · exact a.fresh x z n
    · exact back x n (b.fresh x h z)

section
variable {K : PySem.W.Frag} {ρ ρ' : Rho} {H H' : Hp}
theorem Fut.rd (F : Fut ρ H ρ' H') {a : Addr} {u : HO} (n : a ∉ ρ) (h : Rd H a u) : Rd H' a u := by
  rcases h with h | ⟨o, h⟩
  · exact .inl (F.keep a _ (Rho.notIn n).1 h)
  · exact .inr ⟨o, F.keep a _ (Rho.notIn n).1 h⟩
theorem Fut.out (F : Fut ρ H ρ' H') {a : Addr} {u : HO} (n : a ∉ ρ) (h : Rd H a u) : a ∉ ρ' := by
  refine Rho.out (fun z => ?_) fun z => ?_
  · have q := F.fresh a z (Rho.notIn n).1
    rcases h with h | ⟨o, h⟩ <;> (rw [q] at h; cases h)
  · rcases F.hid a z with y | q
    · exact (Rho.notIn n).2 y
    · rcases h with h | ⟨o, h⟩ <;> (rw [q.1] at h; cases h)
theorem Fut.cellAt (F : Fut ρ H ρ' H') {a : Addr} {i : Nat} (h : ρ.c[i]? = some a) : ρ'.c[i]? = some a := by
  obtain ⟨m, e⟩ := F.ext
  obtain ⟨hl, _⟩ := List.getElem?_eq_some_iff.mp h
  rw [e, List.getElem?_append_left hl, h]
mutual
theorem Den.fut (F : Fut ρ H ρ' H') : ∀ {v : V} {d : D}, Den K ρ H v d → Den K ρ' H' v d
  | _, _, .non => .non
  | _, _, .bl b => .bl b
  | _, _, .int i => .int i
  | _, _, .str x => .str x
  | _, _, .tup h n ds => .tup (F.rd n h) (F.out n h) (Dens.fut F ds)
  | _, _, .tupK h ds => .tupK h (Dens.fut F ds)
  | _, _, .lst h n ds => .lst (F.keep _ _ (Rho.notIn n).1 h) (F.out n (.inl h)) (Dens.fut F ds)
  | _, _, .frl h n ds => .frl (F.rd n h) (F.out n h) (Dens.fut F ds)
  | _, _, .frlK h ds => .frlK h (Dens.fut F ds)
  | _, _, .ty n => .ty n
  | _, _, .dic h n => .dic (F.keep _ _ (Rho.notIn n).1 h) (F.out n (.inl h))
  | _, _, .cell h => .cell (F.cellAt h)
theorem Dens.fut (F : Fut ρ H ρ' H') : ∀ {vs : List V} {ds : List D}, Dens K ρ H vs ds → Dens K ρ' H' vs ds
  | _, _, .nil => .nil
  | _, _, .cons a b => .cons (Den.fut F a) (Dens.fut F b)
end
theorem Dens.length : ∀ {vs : List V} {ds : List D}, Dens K ρ H vs ds → vs.length = ds.length
  | _, _, .nil => rfl
  | _, _, .cons _ b => congrArg Nat.succ b.length
theorem Dens.get : ∀ {vs : List V} {ds : List D} {i : Nat} {d : D}, Dens K ρ H vs ds → ds[i]? = some d → ∃ v, vs[i]? = some v ∧ Den K ρ H v d
  | _, _, _, _, .nil, e => by simp at e
  | _, _, 0, _, .cons a _, e => by simp at e; subst e; exact ⟨_, rfl, a⟩
  | _, _, i + 1, _, .cons _ b, e => by
    obtain ⟨v, h1, h2⟩ := Dens.get (i := i) b (by simpa using e)
    exact ⟨v, by simpa using h1, h2⟩
theorem Dens.append : ∀ {vs ws : List V} {ds es : List D}, Dens K ρ H vs ds → Dens K ρ H ws es → Dens K ρ H (vs ++ ws) (ds ++ es)
  | _, _, _, _, .nil, s => s
  | _, _, _, _, .cons r t, s => .cons r (Dens.append t s)
theorem Dens.set {v : V} {d : D} (r : Den K ρ H v d) : ∀ {vs : List V} {ds : List D} (i : Nat), Dens K ρ H vs ds → Dens K ρ H (vs.set i v) (ds.set i d)
  | _, _, _, .nil => .nil
  | _, _, 0, .cons _ t => .cons r t
  | _, _, i + 1, .cons q t => .cons q (Dens.set r i t)
theorem Dens.take : ∀ {vs : List V} {ds : List D} (n : Nat), Dens K ρ H vs ds → Dens K ρ H (vs.take n) (ds.take n)
  | _, _, 0, _ => .nil
  | _, _, _ + 1, .nil => .nil
  | _, _, n + 1, .cons r t => .cons r (Dens.take n t)
theorem Dens.drop : ∀ {vs : List V} {ds : List D} (n : Nat), Dens K ρ H vs ds → Dens K ρ H (vs.drop n) (ds.drop n)
  | _, _, 0, r => r
  | _, _, _ + 1, .nil => .nil
  | _, _, n + 1, .cons _ t => Dens.drop n t
theorem Dens.reverse : ∀ {vs : List V} {ds : List D}, Dens K ρ H vs ds → Dens K ρ H vs.reverse ds.reverse
  | _, _, .nil => .nil
  | _, _, .cons r t => by simpa using Dens.append t.reverse (.cons r .nil)
end

/-- the cells stand -/
structure Rel (K : PySem.W.Frag) (ρ : Rho) (h : Cells) (H : Hp) : Prop where
  len : ρ.c.length = h.length
  nd : ρ.c.Nodup
  apart : ∀ a, a ∈ ρ.c → a ∉ ρ.v
  hidden : ∀ a ∈ ρ.v, ∃ o, H a = some o
  at_ : ∀ (i : Nat) a ds, ρ.c[i]? = some a → h[i]? = some ds → ∃ vs, H a = some (.lst vs) ∧ Dens K ρ H vs ds
def Slots (K : PySem.W.Frag) (ρ : Rho) (H : Hp) (l : List (Option D)) (σ : St) : Prop :=
  l.length = σ.length ∧ ∀ (i : Nat) d, l[i]? = some (some d) → ∃ v, σ[i]? = some (some v) ∧ Den K ρ H v d
theorem Slots.fut {K : PySem.W.Frag} {ρ ρ' : Rho} {H H' : Hp} {l : List (Option D)} {σ : St} (S : Slots K ρ H l σ) (F : Fut ρ H ρ' H') : Slots K ρ' H' l σ :=
  ⟨S.1, fun i d e => let ⟨v, h1, h2⟩ := S.2 i d e; ⟨v, h1, h2.fut F⟩⟩
theorem Slots.set {K : PySem.W.Frag} {ρ : Rho} {H : Hp} {l : List (Option D)} {σ : St} (S : Slots K ρ H l σ) (i : Nat) {v : V} {d : D} (r : Den K ρ H v d) : Slots K ρ H (l.set i (some d)) (σ.set i (some v)) := by
  refine ⟨by simp [S.1], fun j e h => ?_⟩
  by_cases hj : i = j
  · subst hj
    by_cases hl : i < l.length
    · rw [List.getElem?_set_self hl] at h
      cases h
      exact ⟨v, List.getElem?_set_self (by rw [← S.1]; exact hl), r⟩
    · rw [List.getElem?_eq_none (by simpa using Nat.le_of_not_lt hl)] at h; cases h
  · rw [List.getElem?_set_ne hj] at h
    obtain ⟨w, h1, h2⟩ := S.2 j e h
    exact ⟨w, by rw [List.getElem?_set_ne hj]; exact h1, h2⟩
theorem Slots.wipe {K : PySem.W.Frag} {ρ : Rho} {H : Hp} {l : List (Option D)} {σ : St} (S : Slots K ρ H l σ) : ∀ vs : List Nat, Slots K ρ H (vs.foldr (fun v l => l.set v none) l) (L2.wipe σ vs)
  | [] => S
  | v :: vs => by
    have T := S.wipe vs
    refine ⟨by simpa [L2.wipe] using T.1, fun j e h => ?_⟩
    simp only [List.foldr_cons] at h
    by_cases hj : v = j
    · subst hj
      by_cases hl : v < (vs.foldr (fun v l => l.set v none) l).length
      · rw [List.getElem?_set_self hl] at h; cases h
      · rw [List.getElem?_eq_none (by simpa using Nat.le_of_not_lt hl)] at h; cases h
    · rw [List.getElem?_set_ne hj] at h
      obtain ⟨w, h1, h2⟩ := T.2 j e h
      exact ⟨w, by show ((L2.wipe σ vs).set v none)[j]? = _; rw [List.getElem?_set_ne hj]; exact h1, h2⟩

abbrev ME := MS → Option (D × Cells)
abbrev MT := MS → Option (Bool × Cells)
abbrev MA := MS → Option (List D × Cells)
inductive Out where
  | nx | ret (d : D) | bk | ct
abbrev MB := MS → Option (Out × MS)
abbrev MG := D → MS → Option MS

section
variable (K : PySem.W.Frag)
def rdE (f : ME) : TE := fun σ H Q => ∃ ρ ms d h', Rel K ρ ms.h H ∧ Slots K ρ H ms.s σ ∧ f ms = some (d, h') ∧ ∀ v H' ρ', Fut ρ H ρ' H' → Rel K ρ' h' H' → Den K ρ' H' v d → Q v H'
def rdT (f : MT) : TT := fun σ H Q => ∃ ρ ms b h', Rel K ρ ms.h H ∧ Slots K ρ H ms.s σ ∧ f ms = some (b, h') ∧ ∀ H' ρ', Fut ρ H ρ' H' → Rel K ρ' h' H' → Q b H'
def rdA (f : MA) : TA := fun σ H Q => ∃ ρ ms ds h', Rel K ρ ms.h H ∧ Slots K ρ H ms.s σ ∧ f ms = some (ds, h') ∧ ∀ vs H' ρ', Fut ρ H ρ' H' → Rel K ρ' h' H' → Dens K ρ' H' vs ds → Q vs H'
def endsOf (ρ : Rho) (H : Hp) (D : Ends) (l : List (Option Zm.D)) : Out → Prop
  | .nx => ∀ σ', Slots K ρ H l σ' → D.nx σ' H
  | .ret d => ∀ v, Den K ρ H v d → D.rt v H
  | .bk => ∀ σ', Slots K ρ H l σ' → D.bk σ' H
  | .ct => ∀ σ', Slots K ρ H l σ' → D.ct σ' H
def rdB (f : MB) : TS := fun D σ H => ∃ ρ ms o ms', Rel K ρ ms.h H ∧ Slots K ρ H ms.s σ ∧ f ms = some (o, ms') ∧ ∀ H' ρ', Fut ρ H ρ' H' → Rel K ρ' ms'.h H' → endsOf K ρ' H' D ms'.s o
def rdG (g : MG) : TG := fun v σ H Q => ∃ ρ ms d ms', Rel K ρ ms.h H ∧ Slots K ρ H ms.s σ ∧ Den K ρ H v d ∧ g d ms = some ms' ∧ ∀ H' ρ' σ', Fut ρ H ρ' H' → Rel K ρ' ms'.h H' → Slots K ρ' H' ms'.s σ' → Q σ' H'
end
abbrev EV (X : Cx) (e : Expr) (f : ME) : Prop := PE X e (rdE X.K f)
abbrev TV (X : Cx) (e : Expr) (f : MT) : Prop := PT X e (rdT X.K f)
abbrev AV (X : Cx) (es : List Expr) (f : MA) : Prop := PA X es (rdA X.K f)
abbrev BV (X : Cx) (st : Stmt) (f : MB) : Prop := PS X st (rdB X.K f)
abbrev BVs (X : Cx) (st : List Stmt) (f : MB) : Prop := PSs X st (rdB X.K f)
abbrev GV (X : Cx) (e : Expr) (g : MG) : Prop := PG X e (rdG X.K g)

section
variable {X : Cx}
theorem pe_w {e : Expr} {t t' : TE} (h : PE X e t) (w : ∀ σ H Q, t' σ H Q → t σ H Q) : PE X e t' := ⟨fun pins s σ H Q I q => h.run pins s σ H Q I (w σ H Q q)⟩
theorem pt_w {e : Expr} {t t' : TT} (h : PT X e t) (w : ∀ σ H Q, t' σ H Q → t σ H Q) : PT X e t' := ⟨fun pins s σ H Q I q => h.run pins s σ H Q I (w σ H Q q)⟩
theorem pw_w {e : Expr} {t t' : TT} (h : PW X e t) (w : ∀ σ H Q, t' σ H Q → t σ H Q) : PW X e t' := ⟨fun wh pins s σ H Q I q => h.run wh pins s σ H Q I (w σ H Q q)⟩
theorem pa_w {e : List Expr} {t t' : TA} (h : PA X e t) (w : ∀ σ H Q, t' σ H Q → t σ H Q) : PA X e t' := ⟨fun pos pins s σ H Q I q => h.run pos pins s σ H Q I (w σ H Q q)⟩
theorem ps_w {e : Stmt} {t t' : TS} (h : PS X e t) (w : ∀ D σ H, t' D σ H → t D σ H) : PS X e t' := ⟨fun pins s σ H D I q => h.run pins s σ H D I (w D σ H q)⟩
theorem pss_w {e : List Stmt} {t t' : TS} (h : PSs X e t) (w : ∀ D σ H, t' D σ H → t D σ H) : PSs X e t' := ⟨fun pins s σ H D I q => h.run pins s σ H D I (w D σ H q)⟩
theorem pg_w {e : Expr} {t t' : TG} (h : PG X e t) (w : ∀ v σ H Q, t' v σ H Q → t v σ H Q) : PG X e t' := ⟨fun pins s σ H v u Q I r q => h.run pins s σ H v u Q I r (w v σ H Q q)⟩

/-! ### names and constants -/
def mVar (i : Nat) : ME := fun ms => match ms.s[i]? with
  | some (some d) => some (d, ms.h)
  | _ => none
def mC (d : D) : ME := fun ms => some (d, ms.h)
theorem rd_var {K : PySem.W.Frag} {i : Nat} {σ : St} {H : Hp} {Q : VK} (h : rdE K (mVar i) σ H Q) : tVar i σ H Q := by
  obtain ⟨ρ, ms, d, h', R, S, e, q⟩ := h
  unfold mVar at e
  split at e
  · rename_i d' hd
    cases e
    obtain ⟨v, h1, h2⟩ := S.2 i _ hd
    exact ⟨v, h1, q v H ρ (.refl ρ H) R h2⟩
  · cases e
theorem ev_var (i : Nat) {x : Str} {pos : Pos} (hN : X.N[i]? = some x := by rfl) (hv : Vis X.env.scope x := by first | exact Or.inl rfl | exact Or.inr (Or.inl rfl) | exact Or.inr (Or.inr rfl)) (hd : (x == ("__debug__" : Str)) = false := by decide)
    (hcd : (x == ("__classdict__" : Str)) = false := by decide) : EV X (.Name x pos) (mVar i) := pe_w (pe_var hN hv hd hcd) fun _ _ _ => rd_var
theorem rd_c {K : PySem.W.Frag} {d : D} {v : V} (hd : ∀ ρ H, Den K ρ H v d) {σ : St} {H : Hp} {Q : VK} (h : rdE K (mC d) σ H Q) : tC v σ H Q := by
  obtain ⟨ρ, ms, d', h', R, S, e, q⟩ := h
  cases e
  exact q v H ρ (.refl ρ H) R (hd ρ H)
theorem ev_int {i j pos} : EV X (.Constant (.int i) j pos) (mC (.int i)) := pe_w pe_int fun _ _ _ => rd_c fun _ _ => .int i
theorem ev_bl {i j pos} : EV X (.Constant (.bool i) j pos) (mC (.bl i)) := pe_w pe_bl fun _ _ _ => rd_c fun _ _ => .bl i
theorem ev_non {j pos} : EV X (.Constant .none j pos) (mC .non) := pe_w pe_non fun _ _ _ => rd_c fun _ _ => .non
theorem ev_str {x j pos} : EV X (.Constant (.str x) j pos) (mC (.str x)) := pe_w pe_str fun _ _ _ => rd_c fun _ _ => .str x

/-! ### two expressions in a row -/
theorem rd2 {K : PySem.W.Frag} {f g : ME} {o : Cells → D → D → Option D} {σ : St} {H : Hp} {R : V → V → Hp → Prop} {Q : VK}
    (h : rdE K (fun ms => do let (x, h1) ← f ms; let (y, h2) ← g { ms with h := h1 }; let d ← o h2 x y; some (d, h2)) σ H Q)
    (k : ∀ ρ h2 H2 x y dx dy d, Rel K ρ h2 H2 → Den K ρ H2 x dx → Den K ρ H2 y dy → o h2 dx dy = some d → (∀ v H' ρ', Fut ρ H2 ρ' H' → Rel K ρ' h2 H' → Den K ρ' H' v d → Q v H') → R x y H2) :
    rdE K f σ H fun x H1 => rdE K g σ H1 fun y H2 => R x y H2 := by
  obtain ⟨ρ, ms, d, h', R0, S, e, q⟩ := h
  cases e1 : f ms with
  | none => simp [e1] at e
  | some r =>
    obtain ⟨dx, h1⟩ := r
    cases e2 : g { ms with h := h1 } with
    | none => simp [e1, e2] at e
    | some r =>
      obtain ⟨dy, h2⟩ := r
      cases e3 : o h2 dx dy with
      | none => simp [e1, e2, e3] at e
      | some r =>
        simp [e1, e2, e3] at e
        obtain ⟨rfl, rfl⟩ := e
        refine ⟨ρ, ms, dx, h1, R0, S, e1, fun x H1 ρ1 F1 R1 dn1 => ?_⟩
        refine ⟨ρ1, { ms with h := h1 }, dy, h2, R1, S.fut F1, e2, fun y H2 ρ2 F2 R2 dn2 => ?_⟩
        exact k ρ2 h2 H2 x y dx dy r R2 (dn1.fut F2) dn2 e3 fun v H' ρ' F3 R3 dn3 => q v H' ρ' ((F1.trans F2).trans F3) R3 dn3
/-- an operation on values as a function of data -/
def Op2 (K : PySem.W.Frag) (r : R2) (o : Cells → D → D → Option D) : Prop :=
  ∀ ρ h H x y dx dy d (Q : VK), Rel K ρ h H → Den K ρ H x dx → Den K ρ H y dy → o h dx dy = some d → (∀ v H' ρ', Fut ρ H ρ' H' → Rel K ρ' h H' → Den K ρ' H' v d → Q v H') → r x y H Q
def mBin (o : Cells → D → D → Option D) (f g : ME) : ME := fun ms => do let (x, h1) ← f ms; let (y, h2) ← g { ms with h := h1 }; let d ← o h2 x y; some (d, h2)
theorem ev_bin {a b : Expr} {pos : Pos} {op : Operator} {r : R2} {o : Cells → D → D → Option D} {f g : ME} (ho : OpR X (binaryOp op) r) (p : Op2 X.K r o) (ha : EV X a f) (hb : EV X b g) : EV X (.BinOp a op b pos) (mBin o f g) :=
  pe_w (pe_op ho ha hb) fun _ _ _ h => rd2 h fun ρ h2 H2 x y dx dy d R a b e k => p ρ h2 H2 x y dx dy d _ R a b e k
theorem ev_cmp {a b : Expr} {pos : Pos} {op : CmpOp} {r : R2} {o : Cells → D → D → Option D} {f g : ME} (ho : OpR X (compareOp op) r) (p : Op2 X.K r o) (ha : EV X a f) (hb : EV X b g) (hm : behindInMarks op b = false) : EV X (.Compare a [op] [b] pos) (mBin o f g) :=
  pe_w (pe_cmpR ho ha hb hm) fun _ _ _ h => rd2 h fun ρ h2 H2 x y dx dy d R a b e k => p ρ h2 H2 x y dx dy d _ R a b e k
/-- a comparison as a test: o tells a bool -/
def mTBin (o : Cells → D → D → Option Bool) (f g : ME) : MT := fun ms => do let (x, h1) ← f ms; let (y, h2) ← g { ms with h := h1 }; let d ← o h2 x y; some (d, h2)
def oB (o : Cells → D → D → Option Bool) : Cells → D → D → Option D := fun h x y => (o h x y).map D.bl
theorem den_bl {K : PySem.W.Frag} {ρ : Rho} {H : Hp} {v : V} {b : Bool} (h : Den K ρ H v (.bl b)) : v = .bl b := by cases h; rfl
theorem den_int {K : PySem.W.Frag} {ρ : Rho} {H : Hp} {v : V} {b : Int} (h : Den K ρ H v (.int b)) : v = .int b := by cases h; rfl
theorem den_str {K : PySem.W.Frag} {ρ : Rho} {H : Hp} {v : V} {b : Str} (h : Den K ρ H v (.str b)) : v = .str b := by cases h; rfl
theorem den_non {K : PySem.W.Frag} {ρ : Rho} {H : Hp} {v : V} (h : Den K ρ H v .non) : v = .non := by cases h; rfl
theorem tv_cmp {a b : Expr} {pos : Pos} {op : CmpOp} {r : R2} {o : Cells → D → D → Option Bool} {f g : ME} (ho : OpR X (compareOp op) r) (p : Op2 X.K r (oB o)) (ha : EV X a f) (hb : EV X b g) (hm : behindInMarks op b = false) : TV X (.Compare a [op] [b] pos) (mTBin o f g) := by
  refine pt_w (pt_cmpR ho ha hb hm) fun σ H Q h => ?_
  obtain ⟨ρ, ms, d, h', R0, S, e, q⟩ := h
  refine rd2 (o := oB o) (Q := fun x H' => ∃ k, x = .bl k ∧ Q k H') ⟨ρ, ms, .bl d, h', R0, S, ?_, fun v H' ρ' F R dn => ⟨d, den_bl dn, q H' ρ' F R⟩⟩ fun ρ h2 H2 x y dx dy d R a b e k => p ρ h2 H2 x y dx dy d _ R a b e k
  unfold mTBin at e
  cases e1 : f ms with
  | none => simp [e1] at e
  | some r =>
    obtain ⟨dx, h1⟩ := r
    cases e2 : g { ms with h := h1 } with
    | none => simp [e1, e2] at e
    | some r =>
      obtain ⟨dy, h2⟩ := r
      cases e3 : o h2 dx dy with
      | none => simp [e1, e2, e3] at e
      | some r =>
        simp [e1, e2, e3] at e
        obtain ⟨rfl, rfl⟩ := e
        simp [e1, e2, oB, e3]
end
end Zm

set_option Elab.async false
set_option linter.all false
set_option maxRecDepth 100000
/-! Zg: defs that are called where no guard stands (so that repr of tuples and lists is known to go). -/
namespace Zm
open PySem PySem.Spec PyProof.Rows L2
structure RoomG (k : Nat) (A : Around) : Prop where
  r : Room k A
  g : A.guards = some []
theorem RoomG.deeper {k : Nat} {A : Around} (h : RoomG (k + 1) A) (env : Env) : RoomG k (A.deeper env) := ⟨h.r.deeper env, h.g⟩
theorem RoomG.mono {j k : Nat} {A : Around} (h : RoomG k A) (l : j ≤ k) : RoomG j A := ⟨h.r.mono l, h.g⟩
theorem RoomG.depth {k : Nat} {A : Around} (h : RoomG k A) : A.depth < recursionLimit := h.r.depth
theorem RoomG.hdv {k : Nat} {A : Around} (h : RoomG k A) : A.handled = none := h.r.hd
structure FnG (P : Program) (w : World) (K : PySem.W.Frag) (mg : Str → Option Value) (base : Heap) (CX : CXT) (k : Nat) (f : Addr) (fd : FuncData) (ps : List Str) (sp : Sp) : Prop where
  len : ∀ vz Hh Qq E, sp vz Hh Qq E → vz.length = ps.length
  run : ∀ (A : Around) (oute : List Env) (s : Shared) (Hh : Hp) (args : Args) (uz : List Value) (vz : List V) (Qq : VK) (E : XK), RoomG k A → Env0 P w K mg base A oute s Hh → BindsTo s fd args (ps.zip uz) → Vals vz uz → sp vz Hh Qq E →
    codeAny (model P w) A (.call (.ref f) args) (CR CX oute P w Hh s Qq E) s
theorem FnG.mono {P : Program} {w : World} {K : PySem.W.Frag} {mg : Str → Option Value} {base : Heap} {CX : CXT} {j k : Nat} {f : Addr} {fd : FuncData} {ps : List Str} {sp : Sp} (F : FnG P w K mg base CX j f fd ps sp) (h : j ≤ k) :
    FnG P w K mg base CX k f fd ps sp := ⟨F.len, fun A oute s Hh args uz vz Qq E hroom => F.run A oute s Hh args uz vz Qq E (hroom.mono h)⟩
section
variable {X : Cx} {CX : CXT} {k : Nat} {f C : Addr} {fd : FuncData} {ps ks : List Str} {sp : Sp} {dvs : List V} {ds : List Value} {E : XK} {x m : Str} {p pos apos : Pos} {e o : Expr} {ez : List Expr} {ta : TE} {t : TA}
variable {g : List Value → List Value → List Value} {gV : List V → List V → List V}
theorem run_fnG {pinz : List (Addr × Obj)} {σ : L2.St} {Hh : Hp} {s : Shared} {Qq : VK} {uz : List Value} {vz : List V} (Fg : FnG X.prog X.w X.K X.mg X.base CX k f fd ps sp) (hroom : RoomG k X.A) (hbi : Binds X.K fd ps ds) (hdv : Vals dvs ds) (hpas : Passes CX X E)
    (I : Inv X pinz σ Hh s) (r : Vals vz uz) (h : sp (vz ++ dvs) Hh Qq E) : wpAny (model X.prog X.w) X.A (call (.ref f) uz) (EP X pinz σ Qq) X.xe s := by
  have r2 : Vals (vz ++ dvs) (uz ++ ds) := r.append hdv
  have hl : (uz ++ ds).length = ps.length := by rw [← r2.length]; exact Fg.len _ _ _ _ h
  refine wpAny_call (codeAny_mono (Fg.run X.A X.stack s Hh ⟨uz, []⟩ (uz ++ ds) (vz ++ dvs) Qq E hroom I.env0 (hbi s uz I.kIn hl) r2 h) fun r sn hqq => ?_)
  cases r with
  | error e => exact hpas pinz σ Hh s e sn I hqq
  | ok fl =>
    cases fl with
    | ret u => exact I.after hqq
    | next => exact False.elim hqq
    | brk => exact False.elim hqq
    | cont => exact False.elim hqq

theorem pe_callG (Fg : FnG X.prog X.w X.K X.mg X.base CX k f fd ps sp) (hroom : RoomG k X.A) (hgl : Gl X x) (hmg : X.mg x = some (.ref f)) (hkp : PySem.W.keepIn X.K (.ref f) = true) (hbi : Binds X.K fd ps ds) (hdv : Vals dvs ds) (hpas : Passes CX X E)
    (hargs : PA X (e :: ez) t) (hdb : (x == ("__debug__" : Str)) = false := by decide) (he : starEach (e :: ez) X.env = (false, eval e X.env) :: starEach ez X.env := by rfl) (hpl : (backTo pos (starEach ez X.env)).any (·.1) = false := by rfl) :
    PE X (.Call (.Name x p) (e :: ez) [] pos) (tCall sp dvs E t) := by
  refine ⟨fun pinz s σ Hh Qq I h => ?_⟩
  refine wpAny_Call_Name_kw (ld_glob I hgl hmg ?_ hdb)
  refine PySem.W.callWith_K (h₀ := X.base) I.ok.mod.kin hkp (thn (hargs.run pos pinz s σ Hh _ I h) fun uz s1 ⟨vz, H1, I1, r, q⟩ => ⟨I1.kIn, ?_⟩) he hpl
  exact run_fnG Fg hroom hbi hdv hpas I1 r q
theorem pe_call0G (Fg : FnG X.prog X.w X.K X.mg X.base CX k f fd ps sp) (hroom : RoomG k X.A) (hgl : Gl X x) (hmg : X.mg x = some (.ref f)) (hkp : PySem.W.keepIn X.K (.ref f) = true) (hbi : Binds X.K fd ps ds) (hdv : Vals dvs ds) (hpas : Passes CX X E)
    (hdb : (x == ("__debug__" : Str)) = false := by decide) : PE X (.Call (.Name x p) [] [] pos) (tCall sp dvs E tNil) := by
  refine ⟨fun pinz s σ Hh Qq I h => ?_⟩
  refine wpAny_Call_Name_kw (ld_glob I hgl hmg ?_ hdb)
  exact PySem.W.callWith_K0 I.kIn hkp (run_fnG (uz := []) Fg hroom hbi hdv hpas I .nil h)

theorem run_fnkG {pinz : List (Addr × Obj)} {σ : L2.St} {Hh : Hp} {s : Shared} {Qq : VK} {uz wz : List Value} {vz zz : List V} (Fg : FnG X.prog X.w X.K X.mg X.base CX k f fd ps sp) (hroom : RoomG k X.A) (hbi : KBinds X.K fd ps ks g gV) (hpas : Passes CX X E)
    (I : Inv X pinz σ Hh s) (r : Vals vz uz) (rz : Vals zz wz) (h : sp (gV vz zz) Hh Qq E) : wpAny (model X.prog X.w) X.A (call (.ref f) uz (ks.zip wz)) (EP X pinz σ Qq) X.xe s := by
  have r2 := hbi.rel r rz
  have hl : (g uz wz).length = ps.length := by rw [← r2.length]; exact Fg.len _ _ _ _ h
  refine wpAny_call (codeAny_mono (Fg.run X.A X.stack s Hh ⟨uz, ks.zip wz⟩ (g uz wz) (gV vz zz) Qq E hroom I.env0 (hbi.to s uz wz I.kIn hl) r2 h) fun r sn hqq => ?_)
  cases r with
  | error e => exact hpas pinz σ Hh s e sn I hqq
  | ok fl =>
    cases fl with
    | ret u => exact I.after hqq
    | next => exact False.elim hqq
    | brk => exact False.elim hqq
    | cont => exact False.elim hqq
end
theorem fn_ofG {CX : CXT} {P : Program} {w : World} {K : PySem.W.Frag} {mg : Str → Option Value} {base : Heap} {k : Nat} {f : Addr} {name qual : Str} {params : Arguments} {body : List Stmt} {scope : Scope} {dV kV doc pm cdv ct oc : Value} {an od : Option Addr}
    {osl : Array (Option Value)} {N ps : List Str} {sp : Sp} (lk : K.lookup f = some ⟨oc, od, .func (PySem.W.fnOf name qual params body scope dV kV doc pm an cdv ct), osl⟩) (hcd : PySem.W.codeIn K cdv qual = true) (S : FnScope N ps scope)
    (len : ∀ vz Hh Qq E, sp vz Hh Qq E → vz.length = ps.length)
    (hwalk : ∀ (A : Around) (oute : List Env) (s : Shared) (Hh : Hp) (vz : List V) (Qq : VK) (E : XK), RoomG k (A.deeper (envOfC qual scope s.heap.objs.size f cdv)) → sp vz Hh Qq E →
      ∃ t, PSs (cxOf CX P w K mg base N qual scope f cdv A oute s Hh E) body t ∧ t { nx := fun _ H' => Qq .non H', rt := Qq } (start N vz) Hh) :
    FnG P w K mg base CX (k + 1) f (PySem.W.fnOf name qual params body scope dV kV doc pm an cdv ct) ps sp := by
  refine ⟨len, fun A oute s Hh args uz vz Qq E hroom env_0 hbi r hspec => ?_⟩
  have hl := len _ _ _ _ hspec
  have Kin : K.In s.heap := env_0.mod.kin.keeps fun b o e => (env_0.bs b o e).1
  have lim : s.heap.NoLimit := env_0.mod.nolimit.keeps fun b o e => (env_0.bs b o e).1
  have hkind : ∀ y ∈ ps.zip uz, scope.names.lookup y.1 = some .local ∨ (scope.names.lookup y.1 = some .cell ∧ ((cellsFrom (s.heap.objs.size + 1) scope.names []).lookup y.1).isSome = true) := fun ⟨n, v⟩ hy => by
    rcases S.par n (List.of_mem_zip hy).1 with q | q
    · exact .inl q
    · exact .inr ⟨q, PySem.W.cellsFrom_some _ _ _ (.inl q)⟩
  refine codeAny_call_function hroom.depth (Kin _ _ lk) rfl S.co S.gen rfl (PySem.W.codeRec_of Kin hcd) (hbi _ _ _ _ ?_)
  refine wpAny_newFunctionEnv_cells S.kind hkind fun env he s1 x => ?_
  subst he
  refine ⟨lim.keeps x.toInCall.keep, codeAny_func ?_⟩
  obtain ⟨t, ht, hqq⟩ := hwalk A oute s Hh vz Qq E (hroom.deeper _) hspec
  have I : Inv (cxOf CX P w K mg base N qual scope f cdv A oute s Hh E) [] (start N vz) Hh s1 := inv_start S hroom.hdv env_0 hl r x
  refine wpAny_mono (ht.run [] s1 (start N vz) Hh _ I hqq) (fun fl sn hs => ?_) fun e sn hs => hs
  have fin : ∀ {σ' : L2.St} {H' : Hp} {v : V} {u : Value}, Inv (cxOf CX P w K mg base N qual scope f cdv A oute s Hh E) [] σ' H' sn → RelV v u → Qq v H' → CE oute P w Hh s Qq u sn :=
    fun {σ' H' v u} J rv q => ⟨v, H', J.os, J.bare, J.base, J.hok, rv, q⟩
  cases fl with
  | ret u =>
    obtain ⟨v, σ', H', J, rv, q⟩ := hs
    exact fin J rv q
  | next =>
    obtain ⟨σ', H', J, q⟩ := hs
    exact fin (v := V.non) (u := Value.none) J rfl q
  | brk =>
    obtain ⟨_, _, _, q⟩ := hs
    exact False.elim q
  | cont =>
    obtain ⟨_, _, _, q⟩ := hs
    exact False.elim q
theorem law_callG {P : Program} {w : World} {K : PySem.W.Frag} {mg mb : Str → Option Value} {CX : CXT} {k : Nat} {fa a : Addr} {fd : FuncData} {x : Str} {sp : Sp} {sv : Shared} {vz : List Value} {ns : List Int}
    (Kin : K.In sv.heap) (hns : sv.heap.Ns mainGlobals mg) (hbi : sv.heap.Ns builtinsNs mb) (hbb : ∀ x : Str, x ≠ "__name__" → mb x = bootBuiltins x) (hlim : sv.heap.NoLimit) (hgl : sv.gens = #[])
    (hargs : sv.heap.get? a = some { cls := .type "list", data := .seq vz.toArray }) (hi : IntsAre vz ns) (hl : ns.length ≤ sizeLine) (hroom : RoomG k callerA)
    (Fg : ∀ base : Heap, K.In base → base.Ns mainGlobals mg → FnG P w K mg base CX k fa fd [x] sp) (hbind : ∀ (s : Shared) (u : Value), BindsTo s fd ⟨[u], []⟩ [(x, u)])
    (hspec : ∀ Hh : Hp, Only Hh → SqL K Hh a (ns.map V.int) → sp [.ref a] Hh (fun v _ => v = .bl true) fun _ _ _ => False)
    (hCX : ∀ Hh e sn, CX [] Hh sv (fun _ _ _ => False) e sn → False) :
    codeAny (model P w) callerA (.call (.ref fa) ⟨[.ref a], []⟩) (fun r sn => r = .ok (.ret (.bool true)) ∧ OldK sv.heap sn.heap ∧ sn.os = sv.os ∧ AllBare sn.gens) sv := by
  have rv := vals_ints hi
  have lenV := hi.length
  -- from an abstract heap in which nothing but the script may be tracked
  have kern : ∀ Hh : Hp, Only Hh → SqL K Hh a (ns.map V.int) → HOk P w Hh sv.heap → (∀ b, Hh b ≠ none → b = a) → (Hh a ≠ none → K.lookup a = none) →
      codeAny (model P w) callerA (.call (.ref fa) ⟨[.ref a], []⟩) (fun r sn => r = .ok (.ret (.bool true)) ∧ OldK sv.heap sn.heap ∧ sn.os = sv.os ∧ AllBare sn.gens) sv := by
    intro Hh hOnly hS hok hA hK
    have baseOf : ∀ {b : Addr} {o : Obj}, sv.heap.get? b = some o → Hh b = none → (hidT sv.heap Hh).get? b = some o := fun e n => hidT_get e n
    have noAt : ∀ {b : Addr} {o : Obj} {ez : Array DictEntry} {ep : Nat}, sv.heap.get? b = some o → o.data = .dict ez ep → Hh b = none := fun {b o ez ep} e d => by
      cases q : Hh b with
      | none => rfl
      | some u =>
        have e' : b = a := hA b (by rw [q]; simp)
        subst e'
        rw [hargs] at e; cases e
        have d' : Data.seq vz.toArray _ = Data.dict ez ep := d
        cases d'
    have nsKeep : ∀ {b : Addr} {m : Str → Option Value}, sv.heap.Ns b m → (hidT sv.heap Hh).Ns b m := fun {b m} ⟨o, ez, ep, e, d, r⟩ => ⟨o, ez, ep, baseOf e (noAt e d), d, r⟩
    have hKb : K.In (hidT sv.heap Hh) := fun b o e => baseOf (Kin b o e) (by
      cases q : Hh b with
      | none => rfl
      | some u =>
        have e' : b = a := hA b (by rw [q]; simp)
        subst e'
        rw [hK (by rw [q]; simp)] at e; cases e)
    have hM : Mod K mg (hidT sv.heap Hh) := ⟨hKb, nsKeep hns, ⟨mb, nsKeep hbi, hbb⟩, let ⟨mc, h1, h2⟩ := hlim; ⟨mc, nsKeep h1, h2⟩⟩
    have env_0 : Env0 P w K mg (hidT sv.heap Hh) callerA [] sv Hh := ⟨rfl, hM, fun b o e => of_hidT e, Nat.le_of_eq (hidT_size _ _), trivial, fun b hbi => absurd (show b ∈ ([] : List Addr) from hbi) (by simp), hok, .of_eq hgl⟩
    refine codeAny_mono ((Fg _ hKb (nsKeep hns)).run callerA [] sv Hh ⟨[.ref a], []⟩ [.ref a] [.ref a] _ _ hroom env_0 (hbind sv (.ref a)) (.cons rfl .nil) (hspec Hh hOnly hS)) fun r sn h => ?_
    cases r with
    | error e => exact (hCX Hh e sn h).elim
    | ok fl =>
      cases fl with
      | next => exact False.elim h
      | brk => exact False.elim h
      | cont => exact False.elim h
      | ret u =>
        obtain ⟨v, H', os, bare, un, hok', r', q⟩ := h
        have q' : v = .bl true := q
        subst q'
        obtain rfl : u = Value.bool true := r'
        refine ⟨rfl, OldK.of_keep fun b o e => ?_, os, bare⟩
        cases q : Hh b with
        | none => exact un.keep b o e q (by intro z; exact absurd (show b ∈ ([] : List Addr) from z) (by simp)) (by simp)
        | some u =>
          rcases hOnly b with z | ⟨ob, xs, z⟩
          · rw [q] at z; cases z
          · have z2 := un.frzs b ob _ z
            obtain ⟨e1, _⟩ := hok b _ z
            obtain ⟨e2, _⟩ := hok' b _ z2
            rw [e] at e1; cases e1
            exact e2
  cases hkp : K.lookup a with
  | some o =>
    -- the script is one of the module's own objects
    have e := Kin a o hkp
    rw [hargs] at e
    cases e
    refine kern (fun _ => none) (fun _ => .inl rfl) (.inr ⟨_, vz.toArray, _, hkp, rfl, rfl, rfl, by rw [List.size_toArray, lenV]; exact hl, by simpa using rv⟩) (fun b u z => by have z' : (none : Option HO) = some u := z; cases z') (fun b z => absurd rfl z) fun z => absurd rfl z
  | none =>
    refine kern (fun b => if b = a then some (.frz { cls := .type "list", data := .seq vz.toArray } (.lst (ns.map V.int))) else none) (fun b => ?_) (.inl (.inr ⟨{ cls := .type "list", data := .seq vz.toArray }, if_pos rfl⟩)) (fun b u z => ?_) (fun b z => ?_) fun _ => hkp
    · by_cases hbi : b = a
      · exact .inr ⟨_, _, if_pos hbi⟩
      · exact .inl (if_neg hbi)
    · by_cases hbi : b = a
      · have z' := (if_pos hbi).symm.trans z
        cases z'
        subst hbi
        exact ⟨hargs, by rw [List.length_map]; exact hl, vz, _, rv, hargs⟩
      · have z' := (if_neg hbi).symm.trans z
        cases z'
    · by_cases hbi : b = a
      · exact hbi
      · exact absurd (if_neg hbi) z
theorem walk_ofG {l : PySem.W.OpenLaw} {n k : Nat} {q : Program} {loose : List Str} {XP : (Str → Option Value) → Heap → Prop} {YP : World → Heap → Prop} {d : DefRec} {K : Params → PySem.W.Frag} {CX : World → CXT} {sp : World → Sp} {x : Str}
    (hn : l.most = some n) (hn2 : n ≤ sizeLine) (hdf : d.params.defaults = []) (hroom : RoomG k callerA)
    (hY : ∀ (w : World) (h : Heap), YP w h → (K w.params).In h)
    (Fg : ∀ (w : World) (mg : Str → Option Value) (fa : Addr) (h : Heap), (K w.params).In h → h.Ns mainGlobals mg → mg d.name = some (.ref fa) →
      ∃ fd : FuncData, (∀ (s : Shared) (u : Value), BindsTo s fd ⟨[u], []⟩ [(x, u)]) ∧
        ∀ base : Heap, (K w.params).In base → base.Ns mainGlobals mg → FnG l.prog w (K w.params) mg base (CX w) k fa fd [x] (sp w))
    (hspec : ∀ (w : World) (Hh : Hp) (a : Addr) (ns : List Int), ns.length ≤ n → Only Hh → SqL (K w.params) Hh a (ns.map V.int) → sp w [.ref a] Hh (fun v _ => v = .bl true) fun _ _ _ => False)
    (hCX : ∀ (w : World) (Hh : Hp) (s : Shared) (e : Value) (sn : Shared), CX w [] Hh s (fun _ _ _ => False) e sn → False) :
    PySem.W.WalkO q loose XP YP l.row.toRowW d [] (fun f vz => PySem.call f vz) := by
  refine Att.attach_call hn hdf fun w s₀ sv mg mb fa o pm cd doc a vz ns G Y ho hdv hcd hmg hobj hints hlen hgl => ?_
  have Kin := hY w _ Y
  obtain ⟨fd, hbi, hF⟩ := Fg w mg fa _ Kin G.T.g hmg
  exact law_callG Kin G.T.g G.T.b G.T.builtins G.T.nolimit hgl hobj hints (Nat.le_trans hlen hn2) hroom hF hbi (fun Hh hOnly hS => hspec w Hh a ns hlen hOnly hS) fun Hh e sn => hCX w Hh sv e sn
end Zm

set_option Elab.async false
set_option maxRecDepth 100000
/-! Zd: tests, argument lists, displays, calls, statements, loops. -/
namespace Zm
open PySem L2
section
variable {X : Cx}

/-! ### tests -/
def truthD : Cells → D → Option Bool
  | _, .non => some false
  | _, .bl b => some b
  | _, .int i => some (i != 0)
  | _, .tup ds => some !ds.isEmpty
  | _, .lst ds => some !ds.isEmpty
  | _, .frl ds => some !ds.isEmpty
  | h, .cell i => (h[i]?).map fun ds => !ds.isEmpty
  | _, _ => none
theorem dens_empty {K : PySem.W.Frag} {ρ : Rho} {H : Hp} {vs : List V} {ds : List D} (h : Dens K ρ H vs ds) : (!ds.isEmpty) = !vs.isEmpty := by cases h <;> rfl
theorem truV_of {K : PySem.W.Frag} {ρ : Rho} {h : Cells} {H : Hp} {x : V} {d : D} {b : Bool} (R : Rel K ρ h H) (dn : Den K ρ H x d) (e : truthD h d = some b) : TruV K x H b := by
  cases dn with
  | non => cases e; exact (rfl : false = false)
  | bl b => cases e; exact (rfl : b = b)
  | int i => cases e; exact (rfl : (i != 0) = (i != 0))
  | str x => cases e
  | tup r n ds => cases e; exact .inr (.inl ⟨_, .inl r, dens_empty ds⟩)
  | tupK r ds => cases e; exact .inr (.inl ⟨_, r H, dens_empty ds⟩)
  | lst r n ds => cases e; exact .inl ⟨_, SqL.of r, dens_empty ds⟩
  | frl r n ds => cases e; exact .inl ⟨_, .inl r, dens_empty ds⟩
  | frlK r ds => cases e; exact .inl ⟨_, r H, dens_empty ds⟩
  | ty n => cases e
  | dic r n => cases e
  | cell c =>
    simp only [truthD, Option.map_eq_some_iff] at e
    obtain ⟨ds, e1, e2⟩ := e
    obtain ⟨vs, h1, h2⟩ := R.at_ _ _ _ c e1
    exact .inl ⟨vs, SqL.of h1, by rw [← e2, dens_empty h2]⟩
def mTru (f : ME) : MT := fun ms => (f ms).bind fun r => (truthD r.2 r.1).map fun b => (b, r.2)
theorem tv_val {e : Expr} {f : ME} (h : EV X e f) (he : ∀ whole, isTrue e X.env whole = (do let v ← whole; standAt e.pos; holding [v] (truthy v)) := by intro _; rfl) : TV X e (mTru f) := by
  refine pt_w (pt_truth h he) fun σ H Q hw => ?_
  obtain ⟨ρ, ms, b, h', R, S, e, q⟩ := hw
  unfold mTru at e
  obtain ⟨r, e1, e2⟩ := Option.bind_eq_some_iff.mp e
  obtain ⟨b', e3, e4⟩ := Option.map_eq_some_iff.mp e2
  obtain ⟨d, h1⟩ := r
  cases e4
  exact ⟨ρ, ms, d, h1, R, S, e1, fun v H' ρ' F R' dn => ⟨b, truV_of R' dn e3, q H' ρ' F R'⟩⟩
abbrev WV (X : Cx) (e : Expr) (f : MT) : Prop := PW X e (rdT X.K f)
def mAnd (f g : MT) : MT := fun ms => (f ms).bind fun r => bif r.1 then g { ms with h := r.2 } else some (false, r.2)
def mOr (f g : MT) : MT := fun ms => (f ms).bind fun r => bif r.1 then some (true, r.2) else g { ms with h := r.2 }
def mNot (f : MT) : MT := fun ms => (f ms).bind fun r => some (!r.1, r.2)
theorem wv_and1 {a : Expr} {pos : Pos} {f : MT} (h : TV X a f) : WV X (.BoolOp .And [a] pos) f := pw_and1 h
theorem wv_or1 {a : Expr} {pos : Pos} {f : MT} (h : TV X a f) : WV X (.BoolOp .Or [a] pos) f := pw_or1 h
theorem rd_andT {K : PySem.W.Frag} {f g : MT} {σ : St} {H : Hp} {Q : Bool → Hp → Prop} (h : rdT K (mAnd f g) σ H Q) : tAnd (rdT K f) (rdT K g) σ H Q := by
  obtain ⟨ρ, ms, b, h', R, S, e, q⟩ := h
  obtain ⟨r, e1, e2⟩ := Option.bind_eq_some_iff.mp e
  obtain ⟨c, h1⟩ := r
  refine ⟨ρ, ms, c, h1, R, S, e1, fun H1 ρ1 F1 R1 => ?_⟩
  cases c with
  | true => exact ⟨ρ1, { ms with h := h1 }, b, h', R1, S.fut F1, e2, fun H' ρ' F R' => q H' ρ' (F1.trans F) R'⟩
  | false => cases e2; exact q H1 ρ1 F1 R1
theorem rd_orT {K : PySem.W.Frag} {f g : MT} {σ : St} {H : Hp} {Q : Bool → Hp → Prop} (h : rdT K (mOr f g) σ H Q) : tOr (rdT K f) (rdT K g) σ H Q := by
  obtain ⟨ρ, ms, b, h', R, S, e, q⟩ := h
  obtain ⟨r, e1, e2⟩ := Option.bind_eq_some_iff.mp e
  obtain ⟨c, h1⟩ := r
  refine ⟨ρ, ms, c, h1, R, S, e1, fun H1 ρ1 F1 R1 => ?_⟩
  cases c with
  | false => exact ⟨ρ1, { ms with h := h1 }, b, h', R1, S.fut F1, e2, fun H' ρ' F R' => q H' ρ' (F1.trans F) R'⟩
  | true => cases e2; exact q H1 ρ1 F1 R1
theorem wv_and {a b : Expr} {rest : List Expr} {pos : Pos} {f g : MT} (ha : TV X a f) (hb : WV X (.BoolOp .And (b :: rest) pos) g) : WV X (.BoolOp .And (a :: b :: rest) pos) (mAnd f g) := pw_w (pw_and ha hb) fun _ _ _ => rd_andT
theorem wv_or {a b : Expr} {rest : List Expr} {pos : Pos} {f g : MT} (ha : TV X a f) (hb : WV X (.BoolOp .Or (b :: rest) pos) g) : WV X (.BoolOp .Or (a :: b :: rest) pos) (mOr f g) := pw_w (pw_or ha hb) fun _ _ _ => rd_orT
theorem tv_pw {a : Expr} {f : MT} (h : WV X a f) : TV X a f := h.pt
theorem tv_not {a : Expr} {pos : Pos} {f : MT} (ha : TV X a f) : TV X (.UnaryOp .Not a pos) (mNot f) := by
  refine pt_w (pt_not ha) fun σ H Q h => ?_
  obtain ⟨ρ, ms, b, h', R, S, e, q⟩ := h
  obtain ⟨r, e1, e2⟩ := Option.bind_eq_some_iff.mp e
  obtain ⟨c, h1⟩ := r
  cases e2
  exact ⟨ρ, ms, c, h1, R, S, e1, fun H1 ρ1 F1 R1 => q H1 ρ1 F1 R1⟩
/-- as values: bools -/
def asB : D → Option Bool
  | .bl b => some b
  | _ => none
theorem den_asB {K : PySem.W.Frag} {ρ : Rho} {H : Hp} {x : V} {d : D} {c : Bool} (dn : Den K ρ H x d) (e : asB d = some c) : x = .bl c := by
  cases d <;> simp [asB] at e
  subst e
  exact den_bl dn
def mAndV (f g : ME) : ME := fun ms => (f ms).bind fun r => (asB r.1).bind fun c => bif c then g { ms with h := r.2 } else some (.bl false, r.2)
def mOrV (f g : ME) : ME := fun ms => (f ms).bind fun r => (asB r.1).bind fun c => bif c then some (.bl true, r.2) else g { ms with h := r.2 }
def mNotV (f : ME) : ME := fun ms => (f ms).bind fun r => (asB r.1).bind fun c => some (.bl (!c), r.2)
theorem ev_one {a : Expr} {op : _root_.PySem.BoolOp} {pos : Pos} {f : ME} (h : EV X a f) : EV X (.BoolOp op [a] pos) f := pe_one h
theorem ev_and {a b : Expr} {rest : List Expr} {pos : Pos} {f g : ME} (ha : EV X a f) (hb : EV X (.BoolOp .And (b :: rest) pos) g) : EV X (.BoolOp .And (a :: b :: rest) pos) (mAndV f g) := by
  refine pe_w (pe_and ha hb) fun σ H Q h => ?_
  obtain ⟨ρ, ms, d, h', R, S, e, q⟩ := h
  obtain ⟨r, e1, e2⟩ := Option.bind_eq_some_iff.mp e
  obtain ⟨c, e3, e4⟩ := Option.bind_eq_some_iff.mp e2
  obtain ⟨x, h1⟩ := r
  refine ⟨ρ, ms, x, h1, R, S, e1, fun v H1 ρ1 F1 R1 dn => ⟨c, den_asB dn e3, ?_⟩⟩
  cases c with
  | true => exact ⟨ρ1, { ms with h := h1 }, d, h', R1, S.fut F1, e4, fun v H' ρ' F R' dn => q v H' ρ' (F1.trans F) R' dn⟩
  | false => cases e4; exact q _ H1 ρ1 F1 R1 (.bl false)
theorem ev_or {a b : Expr} {rest : List Expr} {pos : Pos} {f g : ME} (ha : EV X a f) (hb : EV X (.BoolOp .Or (b :: rest) pos) g) : EV X (.BoolOp .Or (a :: b :: rest) pos) (mOrV f g) := by
  refine pe_w (pe_or ha hb) fun σ H Q h => ?_
  obtain ⟨ρ, ms, d, h', R, S, e, q⟩ := h
  obtain ⟨r, e1, e2⟩ := Option.bind_eq_some_iff.mp e
  obtain ⟨c, e3, e4⟩ := Option.bind_eq_some_iff.mp e2
  obtain ⟨x, h1⟩ := r
  refine ⟨ρ, ms, x, h1, R, S, e1, fun v H1 ρ1 F1 R1 dn => ⟨c, den_asB dn e3, ?_⟩⟩
  cases c with
  | false => exact ⟨ρ1, { ms with h := h1 }, d, h', R1, S.fut F1, e4, fun v H' ρ' F R' dn => q v H' ρ' (F1.trans F) R' dn⟩
  | true => cases e4; exact q _ H1 ρ1 F1 R1 (.bl true)
theorem ev_not {a : Expr} {pos : Pos} {f : ME} (ha : EV X a f) : EV X (.UnaryOp .Not a pos) (mNotV f) := by
  refine pe_w (pe_not ha) fun σ H Q h => ?_
  obtain ⟨ρ, ms, d, h', R, S, e, q⟩ := h
  obtain ⟨r, e1, e2⟩ := Option.bind_eq_some_iff.mp e
  obtain ⟨c, e3, e4⟩ := Option.bind_eq_some_iff.mp e2
  obtain ⟨x, h1⟩ := r
  cases e4
  exact ⟨ρ, ms, x, h1, R, S, e1, fun v H1 ρ1 F1 R1 dn => ⟨c, den_asB dn e3, q _ H1 ρ1 F1 R1 (.bl _)⟩⟩
def mIf (c : MT) (f g : ME) : ME := fun ms => (c ms).bind fun r => bif r.1 then f { ms with h := r.2 } else g { ms with h := r.2 }
theorem ev_if {c a b : Expr} {pos : Pos} {t : MT} {f g : ME} (hc : TV X c t) (ha : EV X a f) (hb : EV X b g) : EV X (.IfExp c a b pos) (mIf t f g) := by
  refine pe_w (pe_ifExp hc ha hb) fun σ H Q h => ?_
  obtain ⟨ρ, ms, d, h', R, S, e, q⟩ := h
  obtain ⟨r, e1, e2⟩ := Option.bind_eq_some_iff.mp e
  obtain ⟨c, h1⟩ := r
  refine ⟨ρ, ms, c, h1, R, S, e1, fun H1 ρ1 F1 R1 => ?_⟩
  cases c with
  | true => exact ⟨ρ1, { ms with h := h1 }, d, h', R1, S.fut F1, e2, fun v H' ρ' F R' dn => q v H' ρ' (F1.trans F) R' dn⟩
  | false => exact ⟨ρ1, { ms with h := h1 }, d, h', R1, S.fut F1, e2, fun v H' ρ' F R' dn => q v H' ρ' (F1.trans F) R' dn⟩
/-- one operand -/
def Op1 (K : PySem.W.Frag) (r : V → Hp → VK → Prop) (o : Cells → D → Option D) : Prop :=
  ∀ ρ h H x dx d (Q : VK), Rel K ρ h H → Den K ρ H x dx → o h dx = some d → (∀ v H' ρ', Fut ρ H ρ' H' → Rel K ρ' h H' → Den K ρ' H' v d → Q v H') → r x H Q
def mUn (o : Cells → D → Option D) (f : ME) : ME := fun ms => (f ms).bind fun r => (o r.2 r.1).map fun d => (d, r.2)
theorem ev_un {a : Expr} {pos : Pos} {op : UnaryOp} {r : V → Hp → VK → Prop} {o : Cells → D → Option D} {f : ME} (ho : UnR X (unaryOp op) r) (p : Op1 X.K r o) (ha : EV X a f) : EV X (.UnaryOp op a pos) (mUn o f) := by
  refine pe_w (pe_un ho ha) fun σ H Q h => ?_
  obtain ⟨ρ, ms, d, h', R, S, e, q⟩ := h
  obtain ⟨r, e1, e2⟩ := Option.bind_eq_some_iff.mp e
  obtain ⟨x, h1⟩ := r
  obtain ⟨y, e3, e4⟩ := Option.map_eq_some_iff.mp e2
  cases e4
  exact ⟨ρ, ms, x, h1, R, S, e1, fun v H1 ρ1 F1 R1 dn => p ρ1 h1 H1 v x d Q R1 dn e3 fun v H' ρ' F R' dn => q v H' ρ' (F1.trans F) R' dn⟩

/-! ### argument lists, displays -/
def mNil : MA := fun ms => some ([], ms.h)
def mCons (f : ME) (g : MA) : MA := fun ms => (f ms).bind fun r => (g { ms with h := r.2 }).map fun t => (r.1 :: t.1, t.2)
theorem rd_nil {K : PySem.W.Frag} {σ : St} {H : Hp} {Q : List V → Hp → Prop} (h : rdA K mNil σ H Q) : tNil σ H Q := by
  obtain ⟨ρ, ms, d, h', R, S, e, q⟩ := h
  cases e
  exact q [] H ρ (.refl ρ H) R .nil
theorem rd_cons {K : PySem.W.Frag} {f : ME} {g : MA} {σ : St} {H : Hp} {Q : List V → Hp → Prop} (h : rdA K (mCons f g) σ H Q) : tCons (rdE K f) (rdA K g) σ H Q := by
  obtain ⟨ρ, ms, ds, h', R, S, e, q⟩ := h
  obtain ⟨r, e1, e2⟩ := Option.bind_eq_some_iff.mp e
  obtain ⟨t, e3, e4⟩ := Option.map_eq_some_iff.mp e2
  obtain ⟨x, h1⟩ := r
  obtain ⟨xs, h2⟩ := t
  cases e4
  refine ⟨ρ, ms, x, h1, R, S, e1, fun v H1 ρ1 F1 R1 dn => ?_⟩
  exact ⟨ρ1, { ms with h := h1 }, xs, h2, R1, S.fut F1, e3, fun vs H' ρ' F R' dns => q (v :: vs) H' ρ' (F1.trans F) R' (.cons (dn.fut F) dns)⟩
theorem av_nil : AV X [] mNil := pa_w pa_nil fun _ _ _ => rd_nil
theorem av_cons {e : Expr} {es : List Expr} {f : ME} {g : MA} (ha : EV X e f) (hr : AV X es g) (hs : starEach (e :: es) X.env = (false, eval e X.env) :: starEach es X.env := by rfl) : AV X (e :: es) (mCons f g) := pa_w (pa_cons ha hr hs) fun _ _ _ => rd_cons
abbrev KV' (X : Cx) (kws : List Keyword) (f : MA) : Prop := PK X kws (rdA X.K f)
theorem pk_w {kws : List Keyword} {t t' : TA} (h : PK X kws t) (w : ∀ σ H Q, t' σ H Q → t σ H Q) : PK X kws t' := ⟨fun pos pins s σ H Q I q => h.run pos pins s σ H Q I (w σ H Q q)⟩
theorem kv_nil : KV' X [] mNil := pk_w pk_nil fun _ _ _ => rd_nil
theorem kv_cons {e : Expr} {kws : List Keyword} {f : ME} {g : MA} {nm : Option Str} {kpos : Pos} (ha : EV X e f) (hr : KV' X kws g) : KV' X (⟨nm, e, kpos⟩ :: kws) (mCons f g) := pk_w (pk_cons ha hr) fun _ _ _ => rd_cons
abbrev line : Nat := 16777216
theorem line_eq : line = sizeLine := sizeLine_eq.symm
/-- a new object beside what there is -/
theorem fut_new {ρ : Rho} {H : Hp} {p : Addr} (o : HO) (hp : H p = none) : Fut ρ H ρ (upd H p o) :=
  .mk1 fun a u _ e => by rw [upd_ne (ne_of_none e hp)]; exact e
theorem Rel.out {K : PySem.W.Frag} {ρ : Rho} {h : Cells} {H : Hp} (R : Rel K ρ h H) {p : Addr} (hp : H p = none) : p ∉ ρ := by
  refine Rho.out (fun z => ?_) fun z => ?_
  · obtain ⟨i, hi, e⟩ := List.getElem_of_mem z
    have hl : i < h.length := by rw [← R.len]; exact hi
    obtain ⟨vs, q, _⟩ := R.at_ i p h[i] (by rw [List.getElem?_eq_getElem hi, e]) (List.getElem?_eq_getElem hl)
    rw [hp] at q; cases q
  · obtain ⟨o, q⟩ := R.hidden p z
    rw [hp] at q; cases q
theorem Rel.new {K : PySem.W.Frag} {ρ : Rho} {h : Cells} {H : Hp} (R : Rel K ρ h H) {p : Addr} (o : HO) (hp : H p = none) : Rel K ρ h (upd H p o) :=
  ⟨R.len, R.nd, R.apart, fun a ha => let ⟨u, q⟩ := R.hidden a ha; ⟨u, by rw [upd_ne (ne_of_none q hp)]; exact q⟩, fun i a ds e1 e2 => by
    obtain ⟨vs, q, dn⟩ := R.at_ i a ds e1 e2
    exact ⟨vs, by rw [upd_ne (ne_of_none q hp)]; exact q, dn.fut (fut_new o hp)⟩⟩
def mTup (f : MA) : ME := fun ms => (f ms).bind fun r => bif decide (r.1.length ≤ line) then some (.tup r.1, r.2) else none
def mLst (f : MA) : ME := fun ms => (f ms).bind fun r => bif decide (r.1.length ≤ line) then some (.lst r.1, r.2) else none
theorem bif_some {α : Type} {c : Bool} {x : α} {z : α} (h : (bif c then some x else none) = some z) : c = true ∧ x = z := by
  cases c
  · cases h
  · cases h; exact ⟨rfl, rfl⟩
theorem ev_tup {es : List Expr} {k : Nat} {pos : Pos} {f : MA} (h : AV X es f) : EV X (.Tuple es k pos) (mTup f) := by
  refine pe_w (pe_tup h) fun σ H Q h => ?_
  obtain ⟨ρ, ms, d, h', R, S, e, q⟩ := h
  obtain ⟨r, e1, e2⟩ := Option.bind_eq_some_iff.mp e
  obtain ⟨ds, h1⟩ := r
  obtain ⟨hl, e3⟩ := bif_some e2
  cases e3
  refine ⟨ρ, ms, ds, _, R, S, e1, fun vs H1 ρ1 F1 R1 dn => ⟨by rw [dn.length, ← line_eq]; exact of_decide_eq_true hl, fun p hp => ?_⟩⟩
  exact q _ _ ρ1 (F1.trans (fut_new _ hp)) (R1.new _ hp) (.tup (.inl upd_same) (R1.out hp) (dn.fut (fut_new _ hp)))
theorem ev_lst {es : List Expr} {pos : Pos} {f : MA} (h : AV X es f) : EV X (.List es pos) (mLst f) := by
  refine pe_w (pe_lst h) fun σ H Q h => ?_
  obtain ⟨ρ, ms, d, h', R, S, e, q⟩ := h
  obtain ⟨r, e1, e2⟩ := Option.bind_eq_some_iff.mp e
  obtain ⟨ds, h1⟩ := r
  obtain ⟨hl, e3⟩ := bif_some e2
  cases e3
  refine ⟨ρ, ms, ds, _, R, S, e1, fun vs H1 ρ1 F1 R1 dn => ⟨by rw [dn.length, ← line_eq]; exact of_decide_eq_true hl, fun p hp => ?_⟩⟩
  exact q _ _ ρ1 (F1.trans (fut_new _ hp)) (R1.new _ hp) (.lst upd_same (R1.out hp) (dn.fut (fut_new _ hp)))
/-- a list that is to change: a new cell -/
def mLstC (f : MA) : ME := fun ms => (f ms).bind fun r => bif decide (r.1.length ≤ line) then some (.cell r.2.length, r.2 ++ [r.1]) else none
def Rho.add (ρ : Rho) (p : Addr) : Rho := ⟨ρ.c ++ [p], ρ.v⟩
theorem fut_cell {ρ : Rho} {H : Hp} {p : Addr} (o : HO) (hp : H p = none) : Fut ρ H (ρ.add p) (upd H p o) :=
  ⟨fun a u _ e => by rw [upd_ne (ne_of_none e hp)]; exact e, ⟨[p], rfl⟩, fun _ h => h, fun _ h => .inl h, fun a h n => by
    rcases List.mem_append.mp h with z | z
    · exact absurd z n
    · obtain rfl : a = p := by simpa using z
      exact hp⟩
theorem Rel.more {K : PySem.W.Frag} {ρ : Rho} {h : Cells} {H : Hp} (R : Rel K ρ h H) {p : Addr} {vs : List V} {ds : List D} (hp : H p = none) (dn : Dens K ρ H vs ds) : Rel K (ρ.add p) (h ++ [ds]) (upd H p (.lst vs)) := by
  have F := fut_cell (ρ := ρ) (.lst vs) hp
  refine ⟨by simp [Rho.add, R.len], ?_, fun a ha z => ?_, fun a ha => let ⟨u, q⟩ := R.hidden a ha; ⟨u, by rw [upd_ne (ne_of_none q hp)]; exact q⟩, fun i a es e1 e2 => ?_⟩
  · exact List.nodup_append.mpr ⟨R.nd, by simp, fun a ha b hb z => by
      obtain rfl : b = p := by simpa using hb
      subst z
      exact R.out hp (.inl ha)⟩
  · rcases List.mem_append.mp ha with y | y
    · exact R.apart a y z
    · obtain rfl : a = p := by simpa using y
      exact R.out hp (.inr z)
  · simp only [Rho.add] at e1
    by_cases hi : i < ρ.c.length
    · rw [List.getElem?_append_left hi] at e1
      rw [List.getElem?_append_left (by rw [← R.len]; exact hi)] at e2
      obtain ⟨ws, q, d⟩ := R.at_ i a es e1 e2
      exact ⟨ws, by rw [upd_ne (ne_of_none q hp)]; exact q, d.fut F⟩
    · have hi' : i = ρ.c.length := by
        obtain ⟨hl, _⟩ := List.getElem?_eq_some_iff.mp e1
        simp at hl; omega
      subst hi'
      rw [List.getElem?_append_right (Nat.le_refl _)] at e1
      simp at e1
      rw [R.len, List.getElem?_append_right (Nat.le_refl _)] at e2
      simp at e2
      subst e1; subst e2
      exact ⟨vs, upd_same, dn.fut F⟩
theorem ev_lstC {es : List Expr} {pos : Pos} {f : MA} (h : AV X es f) : EV X (.List es pos) (mLstC f) := by
  refine pe_w (pe_lst h) fun σ H Q h => ?_
  obtain ⟨ρ, ms, d, h', R, S, e, q⟩ := h
  obtain ⟨r, e1, e2⟩ := Option.bind_eq_some_iff.mp e
  obtain ⟨ds, h1⟩ := r
  obtain ⟨hl, e3⟩ := bif_some e2
  cases e3
  refine ⟨ρ, ms, ds, _, R, S, e1, fun vs H1 ρ1 F1 R1 dn => ⟨by rw [dn.length, ← line_eq]; exact of_decide_eq_true hl, fun p hp => ?_⟩⟩
  exact q _ _ (ρ1.add p) (F1.trans (fut_cell _ hp)) (R1.more hp dn) (.cell (by rw [← R1.len]; simp [Rho.add]))

/-! ### calls -/
abbrev MF := List D → Cells → Option (D × Cells)
def spF (K : PySem.W.Frag) (n : Nat) (F : MF) : Sp := fun vs H Q _ => ∃ ρ h ds d h', Rel K ρ h H ∧ Dens K ρ H vs ds ∧ ds.length = n ∧ F ds h = some (d, h') ∧ ∀ v H' ρ', Fut ρ H ρ' H' → Rel K ρ' h' H' → Den K ρ' H' v d → Q v H'
def mCall (n : Nat) (F : MF) (f : MA) : ME := fun ms => (f ms).bind fun r => bif r.1.length == n then F r.1 r.2 else none
theorem rd_call {K : PySem.W.Frag} {n : Nat} {F : MF} {f : MA} {σ : St} {H : Hp} {Q : VK} (h : rdE K (mCall n F f) σ H Q) : tCall (spF K n F) [] E0 (rdA K f) σ H Q := by
  obtain ⟨ρ, ms, d, h', R, S, e, q⟩ := h
  obtain ⟨r, e1, e2⟩ := Option.bind_eq_some_iff.mp e
  obtain ⟨ds, h1⟩ := r
  cases hl : (ds.length == n) with
  | false => simp [hl] at e2
  | true =>
    simp only [hl, cond_true] at e2
    refine ⟨ρ, ms, ds, h1, R, S, e1, fun vs H1 ρ1 F1 R1 dn => ?_⟩
    show spF K n F (vs ++ []) H1 Q E0
    rw [List.append_nil]
    exact ⟨ρ1, h1, ds, d, h', R1, dn, by simpa using hl, e2, fun v H' ρ' F2 R2 d2 => q v H' ρ' (F1.trans F2) R2 d2⟩
theorem ev_call {k : Nat} {f : Addr} {fd : FuncData} {ps : List Str} {x : Str} {p pos : Pos} {e : Expr} {es : List Expr} {n : Nat} {F : MF} {fa : MA} (G : FnG X.prog X.w X.K X.mg X.base CX0 k f fd ps (spF X.K n F)) (hr : RoomG k X.A) (hm : X.mg x = some (.ref f)) (hk : PySem.W.keepIn X.K (.ref f) = true) (hb : Binds X.K fd ps [])
    (ha : AV X (e :: es) fa) (hg : Gl X x := by rfl) (hdb : (x == ("__debug__" : Str)) = false := by decide) (he : starEach (e :: es) X.env = (false, eval e X.env) :: starEach es X.env := by rfl) (hpl : (backTo pos (starEach es X.env)).any (·.1) = false := by rfl) :
    EV X (.Call (.Name x p) (e :: es) [] pos) (mCall n F fa) := pe_w (pe_callG G hr hg hm hk hb .nil pass0 ha hdb he hpl) fun _ _ _ => rd_call
/-- f(k = v, ..) alone: g puts the keywords' values in the parameters' order -/
theorem pe_callK0 {CX : CXT} {E : XK} {k : Nat} {f : Addr} {fd : FuncData} {ps ks : List Str} {x : Str} {p pos : Pos} {sp : Sp} {kws : List Keyword} {tk : TA} {g : List Value → List Value → List Value} {gV : List V → List V → List V}
    (F : FnG X.prog X.w X.K X.mg X.base CX k f fd ps sp) (hr : RoomG k X.A) (hg : Gl X x) (hm : X.mg x = some (.ref f)) (hk : PySem.W.keepIn X.K (.ref f) = true) (hb : KBinds X.K fd ps ks g gV) (hx : Passes CX X E)
    (hkw : PK X kws tk) (hall : (backToKw pos (keywordEach kws X.env)).all (·.1.isSome) = true := by rfl) (hks : (backToKw pos (keywordEach kws X.env)).filterMap (·.1) = ks := by rfl)
    (hdb : (x == ("__debug__" : Str)) = false := by decide)
    (hpl : ((backTo pos (starEach [] X.env)).any (·.1) || (backToKw pos (keywordEach kws X.env)).any (·.1.isNone)) = false := by rfl) :
    PE X (.Call (.Name x p) [] kws pos) (tCallK sp gV E tNil tk) := by
  refine ⟨fun pins s σ H Q I h => ?_⟩
  refine wpAny_Call_Name_kw (ld_glob I hg hm ?_ hdb)
  refine PySem.W.callWith_KW0 (h₀ := X.base) I.ok.mod.kin hk hall ?_ hpl
  refine thn (hkw.run pos pins s σ H _ I h) fun ws s2 ⟨zs, H2, I2, rz, q2⟩ => ⟨I2.kIn, ?_⟩
  rw [hks]
  exact run_fnkG F hr hb hx I2 (uz := []) .nil rz q2
/-- the order of keywords: perm of the data -/
def mCallK (n : Nat) (gD : List D → List D → List D) (F : MF) (f g : MA) : ME := fun ms => (f ms).bind fun r => (g { ms with h := r.2 }).bind fun t => bif (gD r.1 t.1).length == n then F (gD r.1 t.1) t.2 else none
def GD (gD : List D → List D → List D) (gV : List V → List V → List V) : Prop := ∀ K ρ H vs ws ds es, Dens K ρ H vs ds → Dens K ρ H ws es → Dens K ρ H (gV vs ws) (gD ds es)
theorem rd_callK {K : PySem.W.Frag} {n : Nat} {gD : List D → List D → List D} {gV : List V → List V → List V} (hG : GD gD gV) {F : MF} {f g : MA} {σ : St} {H : Hp} {Q : VK} (h : rdE K (mCallK n gD F f g) σ H Q) : tCallK (spF K n F) gV E0 (rdA K f) (rdA K g) σ H Q := by
  obtain ⟨ρ, ms, d, h', R, S, e, q⟩ := h
  obtain ⟨r, e1, e2⟩ := Option.bind_eq_some_iff.mp e
  obtain ⟨ds, h1⟩ := r
  obtain ⟨t, e3, e4⟩ := Option.bind_eq_some_iff.mp e2
  obtain ⟨es, h2⟩ := t
  cases hl : ((gD ds es).length == n) with
  | false => simp [hl] at e4
  | true =>
    simp only [hl, cond_true] at e4
    refine ⟨ρ, ms, ds, h1, R, S, e1, fun vs H1 ρ1 F1 R1 dn => ?_⟩
    refine ⟨ρ1, { ms with h := h1 }, es, h2, R1, S.fut F1, e3, fun ws H2 ρ2 F2 R2 dm => ?_⟩
    exact ⟨ρ2, h2, gD ds es, d, h', R2, hG K ρ2 H2 vs ws ds es (dn.fut F2) dm, by simpa using hl, e4, fun v H' ρ' F3 R3 d2 => q v H' ρ' ((F1.trans F2).trans F3) R3 d2⟩
theorem ev_callK0 {k : Nat} {f : Addr} {fd : FuncData} {ps ks : List Str} {x : Str} {p pos : Pos} {kws : List Keyword} {n : Nat} {F : MF} {fk : MA} {g : List Value → List Value → List Value} {gV : List V → List V → List V} {gD : List D → List D → List D}
    (G : FnG X.prog X.w X.K X.mg X.base CX0 k f fd ps (spF X.K n F)) (hr : RoomG k X.A) (hm : X.mg x = some (.ref f)) (hk : PySem.W.keepIn X.K (.ref f) = true) (hb : KBinds X.K fd ps ks g gV) (hG : GD gD gV)
    (hkw : KV' X kws fk) (hg : Gl X x := by rfl) (hall : (backToKw pos (keywordEach kws X.env)).all (·.1.isSome) = true := by rfl) (hks : (backToKw pos (keywordEach kws X.env)).filterMap (·.1) = ks := by rfl)
    (hdb : (x == ("__debug__" : Str)) = false := by decide)
    (hpl : ((backTo pos (starEach [] X.env)).any (·.1) || (backToKw pos (keywordEach kws X.env)).any (·.1.isNone)) = false := by rfl) : EV X (.Call (.Name x p) [] kws pos) (mCallK n gD F mNil fk) := by
  refine pe_w (pe_callK0 G hr hg hm hk hb pass0 hkw hall hks hdb hpl) fun σ H Q h => ?_
  obtain ⟨ρ, ms, ds, h', R, S, e, q⟩ := rd_callK hG h
  cases e
  exact q [] H ρ (.refl _ _) R .nil
/-- built-ins -/
def OpC (K : PySem.W.Frag) (r : List V → Hp → VK → Prop) (o : Cells → List D → Option D) : Prop :=
  ∀ ρ h H xs dxs d (Q : VK), Rel K ρ h H → Dens K ρ H xs dxs → o h dxs = some d → (∀ v H' ρ', Fut ρ H ρ' H' → Rel K ρ' h H' → Den K ρ' H' v d → Q v H') → r xs H Q
def mCB (o : Cells → List D → Option D) (f : MA) : ME := fun ms => (f ms).bind fun r => (o r.2 r.1).map fun d => (d, r.2)
theorem rd_cb {K : PySem.W.Frag} {r : List V → Hp → VK → Prop} {o : Cells → List D → Option D} {f : MA} (p : OpC K r o) {σ : St} {H : Hp} {Q : VK} (h : rdE K (mCB o f) σ H Q) : tCB r (rdA K f) σ H Q := by
  obtain ⟨ρ, ms, d, h', R, S, e, q⟩ := h
  obtain ⟨r, e1, e2⟩ := Option.bind_eq_some_iff.mp e
  obtain ⟨x, h1⟩ := r
  obtain ⟨y, e3, e4⟩ := Option.map_eq_some_iff.mp e2
  cases e4
  exact ⟨ρ, ms, x, h1, R, S, e1, fun v H1 ρ1 F1 R1 dn => p ρ1 h1 H1 v x d Q R1 dn e3 fun v H' ρ' F R' dn => q v H' ρ' (F1.trans F) R' dn⟩
theorem ev_callB {id : String} {r : List V → Hp → VK → Prop} {o : Cells → List D → Option D} {x : Str} {e : Expr} {es : List Expr} {f : MA} {p pos : Pos} (hc : CallR X (.builtin id) r) (po : OpC X.K r o) (hm : X.mg x = none) (hv : bootBuiltins x = some (.builtin id)) (ha : AV X (e :: es) f) (hg : Gl X x := by rfl) (hn : x ≠ "__name__" := by decide) (hdb : (x == ("__debug__" : Str)) = false := by decide)
    (he : starEach (e :: es) X.env = (false, eval e X.env) :: starEach es X.env := by rfl) (hpl : (backTo pos (starEach es X.env)).any (·.1) = false := by rfl) : EV X (.Call (.Name x p) (e :: es) [] pos) (mCB o f) :=
  pe_w (pe_callB hc hg hm hv ha hn hdb he hpl) fun _ _ _ => rd_cb po
theorem ev_callTy {T : String} {r : List V → Hp → VK → Prop} {o : Cells → List D → Option D} {x : Str} {e : Expr} {es : List Expr} {f : MA} {p pos : Pos} (hc : CallR X (.type T) r) (po : OpC X.K r o) (hm : X.mg x = none) (hv : bootBuiltins x = some (.type T)) (ha : AV X (e :: es) f) (hg : Gl X x := by rfl) (hn : x ≠ "__name__" := by decide) (hdb : (x == ("__debug__" : Str)) = false := by decide)
    (he : starEach (e :: es) X.env = (false, eval e X.env) :: starEach es X.env := by rfl) (hpl : (backTo pos (starEach es X.env)).any (·.1) = false := by rfl) : EV X (.Call (.Name x p) (e :: es) [] pos) (mCB o f) :=
  pe_w (pe_callTy hc hg hm hv ha hn hdb he hpl) fun _ _ _ => rd_cb po
end
end Zm

set_option Elab.async false
set_option linter.all false
set_option maxRecDepth 100000
/-! Ze: statements, targets, loops, defs. -/
namespace Zm
open PySem L2
section
variable {X : Cx}

/-! ### statements -/
def mNx : MB := fun ms => some (.nx, ms)
def mNev : MB := fun _ => none
def mBk : MB := fun ms => some (.bk, ms)
def mCt : MB := fun ms => some (.ct, ms)
def mSeq (a b : MB) : MB := fun ms => (a ms).bind fun r => match r.1 with
  | .nx => b r.2
  | o => some (o, r.2)

theorem rd_nx {K : PySem.W.Frag} {D : Ends} {σ : St} {H : Hp} (h : rdB K mNx D σ H) : tNext D σ H := by
  obtain ⟨ρ, ms, o, ms', R, S, e, q⟩ := h
  cases e
  exact q H ρ (.refl ρ H) R σ S
theorem bv_pass {pos : Pos} : BV X (.Pass pos) mNx := ps_w ps_pass fun _ _ _ => rd_nx
theorem bvs_nil : BVs X [] mNx := pss_w pss_nil fun _ _ _ => rd_nx
theorem bv_never {st : Stmt} : BV X st mNev := ps_w ps_never fun D σ H h => by
  obtain ⟨ρ, ms, o, ms', R, S, e, q⟩ := h
  cases e
theorem bv_break {pos : Pos} : BV X (.Break pos) mBk := ps_w ps_break fun D σ H h => by
  obtain ⟨ρ, ms, o, ms', R, S, e, q⟩ := h
  cases e
  exact q H ρ (.refl ρ H) R σ S
theorem bv_continue {pos : Pos} : BV X (.Continue pos) mCt := ps_w ps_continue fun D σ H h => by
  obtain ⟨ρ, ms, o, ms', R, S, e, q⟩ := h
  cases e
  exact q H ρ (.refl ρ H) R σ S
theorem bv_doc {x j pos pos'} : BV X (.Expr (.Constant (.str x) j pos) pos') mNx := ps_w ps_doc fun _ _ _ => rd_nx
theorem endsOf_mono {K : PySem.W.Frag} {ρ : Rho} {H : Hp} {D D' : Ends} {l : List (Option Zm.D)} {o : Out} (h : endsOf K ρ H D l o) (hn : D.nx = D'.nx) (hr : D.rt = D'.rt) (hb : D.bk = D'.bk) (hc : D.ct = D'.ct) : endsOf K ρ H D' l o := by
  cases o
  · rw [endsOf, ← hn]; exact h
  · rw [endsOf, ← hr]; exact h
  · rw [endsOf, ← hb]; exact h
  · rw [endsOf, ← hc]; exact h
theorem bvs_cons {st : Stmt} {rest : List Stmt} {a b : MB} (h1 : BV X st a) (h2 : BVs X rest b) : BVs X (st :: rest) (mSeq a b) := by
  refine pss_w (pss_cons h1 h2) fun D σ H h => ?_
  obtain ⟨ρ, ms, o, ms', R, S, e, q⟩ := h
  obtain ⟨r, e1, e2⟩ := Option.bind_eq_some_iff.mp e
  obtain ⟨o1, ms1⟩ := r
  refine ⟨ρ, ms, o1, ms1, R, S, e1, fun H1 ρ1 F1 R1 => ?_⟩
  cases o1 with
  | nx => exact fun σ' S' => ⟨ρ1, ms1, o, ms', R1, S', e2, fun H' ρ' F R' => q H' ρ' (F1.trans F) R'⟩
  | ret d => cases e2; exact q H1 ρ1 F1 R1
  | bk => cases e2; exact q H1 ρ1 F1 R1
  | ct => cases e2; exact q H1 ρ1 F1 R1
theorem bvs_one {st : Stmt} {a : MB} (h1 : BV X st a) : BVs X [st] a := pss_w (pss_one h1) fun _ _ _ h => h
def mDrop (f : ME) : MB := fun ms => (f ms).map fun r => (.nx, { ms with h := r.2 })
theorem bv_expr {e : Expr} {pos : Pos} {f : ME} (he : EV X e f) (hs : swapsWith e none pos.line X.env = pure false := by rfl) : BV X (.Expr e pos) (mDrop f) := by
  refine ps_w (ps_expr he hs) fun D σ H h => ?_
  obtain ⟨ρ, ms, o, ms', R, S, e, q⟩ := h
  obtain ⟨r, e1, e2⟩ := Option.map_eq_some_iff.mp e
  obtain ⟨d, h1⟩ := r
  cases e2
  exact ⟨ρ, ms, d, h1, R, S, e1, fun v H1 ρ1 F1 R1 dn => q H1 ρ1 F1 R1 σ (S.fut F1)⟩
def mRet (f : ME) : MB := fun ms => (f ms).map fun r => (.ret r.1, { ms with h := r.2 })
theorem bv_ret {e : Expr} {pos : Pos} {f : ME} (he : EV X e f) : BV X (.Return (some e) pos) (mRet f) := by
  refine ps_w (ps_ret he) fun D σ H h => ?_
  obtain ⟨ρ, ms, o, ms', R, S, e, q⟩ := h
  obtain ⟨r, e1, e2⟩ := Option.map_eq_some_iff.mp e
  obtain ⟨d, h1⟩ := r
  cases e2
  exact ⟨ρ, ms, d, h1, R, S, e1, fun v H1 ρ1 F1 R1 dn => q H1 ρ1 F1 R1 v dn⟩
def mRetN : MB := fun ms => some (.ret .non, ms)
theorem bv_retN {pos : Pos} : BV X (.Return none pos) mRetN := ps_w ps_retN fun D σ H h => by
  obtain ⟨ρ, ms, o, ms', R, S, e, q⟩ := h
  cases e
  exact q H ρ (.refl ρ H) R .non .non
def mIfS (c : MT) (a b : MB) : MB := fun ms => (c ms).bind fun r => bif r.1 then a { ms with h := r.2 } else b { ms with h := r.2 }
theorem bv_if {c : Expr} {x y : List Stmt} {pos : Pos} {t : MT} {a b : MB} (hc : TV X c t) (ha : BVs X x a) (hb : BVs X y b) : BV X (.If c x y pos) (mIfS t a b) := by
  refine ps_w (ps_if hc ha hb) fun D σ H h => ?_
  obtain ⟨ρ, ms, o, ms', R, S, e, q⟩ := h
  obtain ⟨r, e1, e2⟩ := Option.bind_eq_some_iff.mp e
  obtain ⟨c, h1⟩ := r
  refine ⟨ρ, ms, c, h1, R, S, e1, fun H1 ρ1 F1 R1 => ?_⟩
  cases c with
  | true => exact ⟨ρ1, { ms with h := h1 }, o, ms', R1, S.fut F1, e2, fun H' ρ' F R' => q H' ρ' (F1.trans F) R'⟩
  | false => exact ⟨ρ1, { ms with h := h1 }, o, ms', R1, S.fut F1, e2, fun H' ρ' F R' => q H' ρ' (F1.trans F) R'⟩

/-! ### targets -/
def gN (i : Nat) : MG := fun d ms => some { ms with s := ms.s.set i (some d) }
theorem gv_name {x : Str} {pos : Pos} (i : Nat) (hN : X.N.Nodup) (hi : X.N[i]? = some x := by rfl) (hx : Loc X.env.scope x := by first | exact Or.inl rfl | exact Or.inr rfl) (hf : X.fn x = true ∨ X.env.scope.names.lookup x = some .local := by first | exact .inl rfl | exact .inr rfl) : GV X (.Name x pos) (gN i) := by
  refine pg_w (pg_name hN hi hx hf) fun v σ H Q h => ?_
  obtain ⟨ρ, ms, d, ms', R, S, dn, e, q⟩ := h
  cases e
  exact q H ρ _ (.refl ρ H) R (S.set i dn)
/-- several, one after another -/
abbrev MGs := List D → MS → Option MS
def rdGs (K : PySem.W.Frag) (g : MGs) : TGs := fun vs σ H Q => ∃ ρ ms ds ms', Rel K ρ ms.h H ∧ Slots K ρ H ms.s σ ∧ Dens K ρ H vs ds ∧ g ds ms = some ms' ∧ ∀ H' ρ' σ', Fut ρ H ρ' H' → Rel K ρ' ms'.h H' → Slots K ρ' H' ms'.s σ' → Q σ' H'
abbrev GVs (X : Cx) (es : List Expr) (g : MGs) : Prop := PGs X es (rdGs X.K g)
def gsNil : MGs := fun ds ms => match ds with
  | [] => some ms
  | _ => none
def gsCons (g : MG) (gs : MGs) : MGs := fun ds ms => match ds with
  | [] => none
  | d :: r => (g d ms).bind (gs r)
theorem pgs_w {es : List Expr} {t t' : TGs} (h : PGs X es t) (w : ∀ v σ H Q, t' v σ H Q → t v σ H Q) : PGs X es t' := ⟨fun pins s σ H v u Q I r q => h.run pins s σ H v u Q I r (w v σ H Q q)⟩
theorem gvs_nil : GVs X [] gsNil := by
  refine pgs_w pgs_nil fun vs σ H Q h => ?_
  obtain ⟨ρ, ms, d, ms', R, S, dn, e, q⟩ := h
  cases dn with
  | nil => cases e; exact ⟨rfl, q H ρ σ (.refl ρ H) R S⟩
  | cons a b => cases e
theorem gvs_cons {e : Expr} {es : List Expr} {g : MG} {gs : MGs} (h1 : GV X e g) (h2 : GVs X es gs)
    (hs : (assignEach (e :: es) X.env).map (·.2) = assign e X.env :: (assignEach es X.env).map (·.2) := by rfl) : GVs X (e :: es) (gsCons g gs) := by
  refine pgs_w (pgs_cons h1 h2 hs) fun vs σ H Q h => ?_
  obtain ⟨ρ, ms, d, ms', R, S, dn, e, q⟩ := h
  cases dn with
  | nil => cases e
  | cons a b =>
    obtain ⟨ms1, e1, e2⟩ := Option.bind_eq_some_iff.mp e
    refine ⟨_, _, rfl, ρ, ms, _, ms1, R, S, a, e1, fun H1 ρ1 σ1 F1 R1 S1 => ?_⟩
    exact ⟨ρ1, ms1, _, ms', R1, S1, b.fut F1, e2, fun H' ρ' σ' F R' S' => q H' ρ' σ' (F1.trans F) R' S'⟩
def gT (n : Nat) (gs : MGs) : MG := fun d ms => match d with
  | .tup ds => bif ds.length == n then gs ds ms else none
  | _ => none
theorem den_tup {K : PySem.W.Frag} {ρ : Rho} {H : Hp} {v : V} {ds : List D} (h : Den K ρ H v (.tup ds)) : ∃ a vs, v = .ref a ∧ SqT K H a vs ∧ Dens K ρ H vs ds := by
  cases h with
  | tup r n d => exact ⟨_, _, rfl, .inl r, d⟩
  | tupK r d => exact ⟨_, _, rfl, r H, d⟩
theorem gv_tup {es : List Expr} {k : Nat} {pos : Pos} {gs : MGs} {n : Nat} (hc : X.calm = true) (h : GVs X es gs)
    (hn : (assignEach es X.env).length = n := by rfl) (hst : (assignEach es X.env).findIdx? (·.1) = none := by rfl) : GV X (.Tuple es k pos) (gT n gs) := by
  refine pg_w (pg_tup hc h hn hst) fun v σ H Q h => ?_
  obtain ⟨ρ, ms, d, ms', R, S, dn, e, q⟩ := h
  cases d <;> simp only [gT] at e <;> try (cases e; done)
  rename_i ds
  obtain ⟨a, vs, rfl, hq, dn⟩ := den_tup dn
  cases hl : (ds.length == n) with
  | false => simp [hl] at e
  | true =>
    simp only [hl, cond_true] at e
    exact ⟨a, vs, rfl, hq, by rw [dn.length]; simpa using hl, ρ, ms, ds, ms', R, S, dn, e, q⟩
def mAsg (f : ME) (g : MG) : MB := fun ms => (f ms).bind fun r => (g r.1 { ms with h := r.2 }).map fun t => (.nx, t)
theorem rd_asg {K : PySem.W.Frag} {f : ME} {g : MG} {D : Ends} {σ : St} {H : Hp} (h : rdB K (mAsg f g) D σ H) : tAsg (rdE K f) (rdG K g) D σ H := by
  obtain ⟨ρ, ms, o, ms', R, S, e, q⟩ := h
  obtain ⟨r, e1, e2⟩ := Option.bind_eq_some_iff.mp e
  obtain ⟨d, h1⟩ := r
  obtain ⟨t, e3, e4⟩ := Option.map_eq_some_iff.mp e2
  cases e4
  refine ⟨ρ, ms, d, h1, R, S, e1, fun v H1 ρ1 F1 R1 dn => ?_⟩
  exact ⟨ρ1, { ms with h := h1 }, d, _, R1, S.fut F1, dn, e3, fun H' ρ' σ' F R' S' => q H' ρ' (F1.trans F) R' σ' S'⟩
theorem rd_asgN {K : PySem.W.Frag} {f : ME} {i : Nat} {D : Ends} {σ : St} {H : Hp} (h : rdB K (mAsg f (gN i)) D σ H) : tAsg (rdE K f) (gName i) D σ H := by
  obtain ⟨ρ, ms, o, ms', R, S, e, q⟩ := h
  obtain ⟨r, e1, e2⟩ := Option.bind_eq_some_iff.mp e
  obtain ⟨d, h1⟩ := r
  cases e2
  exact ⟨ρ, ms, d, h1, R, S, e1, fun v H1 ρ1 F1 R1 dn => q H1 ρ1 F1 R1 _ ((S.fut F1).set i dn)⟩
theorem bv_set {x : Str} {e : Expr} {pos pos' : Pos} {f : ME} (i : Nat) (hN : X.N.Nodup) (he : EV X e f) (hi : X.N[i]? = some x := by rfl) (hx : Loc X.env.scope x := by first | exact Or.inl rfl | exact Or.inr rfl) (hs : swapsWith e (some (.Name x pos')) pos.line X.env = pure false := by rfl)
    (hf : X.fn x = true ∨ X.env.scope.names.lookup x = some .local := by first | exact .inl rfl | exact .inr rfl) : BV X (.Assign [.Name x pos'] e pos) (mAsg f (gN i)) :=
  ps_w (ps_set hN hi hx he hs hf) fun _ _ _ => rd_asgN
theorem bv_asg {tg e : Expr} {pos : Pos} {f : ME} {g : MG} (he : EV X e f) (hg : GV X tg g) (hs : swapsWithSole [tg] e pos.line X.env = pure false := by rfl) (hw : swappedStores [tg] e X.env = pure none := by rfl)
    (h1 : (assignEach [tg] X.env).map (·.2) = [assign tg X.env] := by rfl) : BV X (.Assign [tg] e pos) (mAsg f g) := ps_w (ps_asg he hg hs hw h1) fun _ _ _ => rd_asg

/-! ### while, by fuel -/
def mWhileL (c : MT) (b : MB) : Nat → MB
  | 0, _ => none
  | n + 1, ms => (c ms).bind fun r => bif r.1 then (b { ms with h := r.2 }).bind fun t => (match t.1 with
      | .nx => mWhileL c b n t.2
      | .ct => mWhileL c b n t.2
      | .bk => some (.nx, t.2)
      | .ret d => some (.ret d, t.2)) else some (.nx, { ms with h := r.2 })
def mWhile (fuel : MS → Nat) (c : MT) (b : MB) : MB := fun ms => mWhileL c b (fuel ms) ms
theorem bv_while {c : Expr} {body : List Stmt} {pos : Pos} {t : MT} {b : MB} (fuel : MS → Nat) (hc : TV X c t) (hb : BVs X body b) (hp : PassesOwn (model X.prog X.w) X.A X.env X.xe) : BV X (.While c body [] pos) (mWhile fuel t b) := by
  refine ps_w (ps_while hp hc hb) fun D σ H h => ?_
  obtain ⟨ρ, ms, o, ms', R, S, e, q⟩ := h
  refine ⟨fun m σ1 H1 => ∃ ρ1 ms1, Fut ρ H ρ1 H1 ∧ Rel X.K ρ1 ms1.h H1 ∧ Slots X.K ρ1 H1 ms1.s σ1 ∧ mWhileL t b m ms1 = some (o, ms'), ⟨_, ρ, ms, .refl ρ H, R, S, e⟩, ?_⟩
  rintro m σ1 H1 ⟨ρ1, ms1, F1, R1, S1, e1⟩
  cases m with
  | zero => cases e1
  | succ n =>
    obtain ⟨r, e2, e3⟩ := Option.bind_eq_some_iff.mp e1
    obtain ⟨c', h2⟩ := r
    refine ⟨ρ1, ms1, c', h2, R1, S1, e2, fun H2 ρ2 F2 R2 => ?_⟩
    cases c' with
    | false =>
      cases e3
      exact iteF (q H2 ρ2 (F1.trans F2) R2 σ1 (S1.fut F2))
    | true =>
      obtain ⟨u, e4, e5⟩ := Option.bind_eq_some_iff.mp e3
      obtain ⟨o3, ms3⟩ := u
      refine iteT ⟨fun σ3 H3 => ∃ ρ3 ms3, Fut ρ H ρ3 H3 ∧ Rel X.K ρ3 ms3.h H3 ∧ Slots X.K ρ3 H3 ms3.s σ3 ∧ mWhileL t b n ms3 = some (o, ms'), fun σ' H' w => ⟨n, Nat.lt_succ_self n, w⟩, ?_⟩
      refine ⟨ρ2, { ms1 with h := h2 }, o3, ms3, R2, S1.fut F2, e4, fun H3 ρ3 F3 R3 => ?_⟩
      have F13 := (F1.trans F2).trans F3
      cases o3 with
      | nx => exact fun σ3 S3 => ⟨ρ3, ms3, F13, R3, S3, e5⟩
      | ct => exact fun σ3 S3 => ⟨ρ3, ms3, F13, R3, S3, e5⟩
      | bk => cases e5; exact fun σ3 S3 => q H3 ρ3 F13 R3 σ3 S3
      | ret d => cases e5; exact fun v dn => q H3 ρ3 F13 R3 v dn

/-! ### for, over the items of a source -/
def mForL (g : MG) (b : MB) : List D → MB
  | [], ms => some (.nx, ms)
  | d :: ds, ms => (g d ms).bind fun m1 => (b m1).bind fun t => match t.1 with
      | .nx => mForL g b ds t.2
      | .ct => mForL g b ds t.2
      | .bk => some (.nx, t.2)
      | .ret d => some (.ret d, t.2)
/-- a source: the state to items and cells -/
abbrev MI := MS → Option (List D × Cells)
/-- what a walk J yields is the items ds: at any future of ρ0, H0 -/
def Yields (K : PySem.W.Frag) (ρ0 : Rho) (H0 : Hp) (J : It) (ds : List D) : Prop :=
  ∀ i ρ H h, Fut ρ0 H0 ρ H → Rel K ρ h H → (ds.length ≤ i → J.stop i H) ∧ ∀ d, ds[i]? = some d → J.go i H ∧ ∀ x H', J.yld i H x H' → Fut ρ H ρ H' ∧ Rel K ρ h H' ∧ Den K ρ H' x d
def rdI (K : PySem.W.Frag) (f : MI) : TI := fun σ H Rk => ∃ ρ ms ds h', Rel K ρ ms.h H ∧ Slots K ρ H ms.s σ ∧ f ms = some (ds, h') ∧ ∀ J H' ρ', Fut ρ H ρ' H' → Rel K ρ' h' H' → Yields K ρ' H' J ds → Rk J H'
abbrev IV (X : Cx) (tg iter : Expr) (f : MI) : Prop := PI X tg iter (rdI X.K f)
def mFor (f : MI) (g : MG) (b : MB) : MB := fun ms => (f ms).bind fun r => mForL g b r.1 { ms with h := r.2 }
theorem bv_for {tg iter : Expr} {body : List Stmt} {pos : Pos} {f : MI} {g : MG} {b : MB} (hi : IV X tg iter f) (hg : GV X tg g) (hb : BVs X body b) (hc : X.calm = true) (hp : PassesOwn (model X.prog X.w) X.A X.env X.xe)
    (hs : ∀ x, foldedSetIterable iter X.env x = pure x := by intro _; rfl) : BV X (.For tg iter body [] pos) (mFor f g b) := by
  refine ps_w (ps_for hp hc hi hg hb hs) fun D σ H h => ?_
  obtain ⟨ρ, ms, o, ms', R, S, e, q⟩ := h
  obtain ⟨r, e1, e2⟩ := Option.bind_eq_some_iff.mp e
  obtain ⟨ds, h1⟩ := r
  refine ⟨ρ, ms, ds, h1, R, S, e1, fun J H1 ρ1 F1 R1 Y => ?_⟩
  refine ⟨fun i m σ2 H2 => m = ds.length - i ∧ i ≤ ds.length ∧ ∃ ρ2 ms2, Fut ρ1 H1 ρ2 H2 ∧ Rel X.K ρ2 ms2.h H2 ∧ Slots X.K ρ2 H2 ms2.s σ2 ∧ mForL g b (ds.drop i) ms2 = some (o, ms'), ⟨_, rfl, Nat.zero_le _, ρ1, { ms with h := h1 }, .refl ρ1 H1, R1, S.fut F1, e2⟩, ?_⟩
  rintro i m σ2 H2 ⟨rfl, hi, ρ2, ms2, F2, R2, S2, e3⟩
  obtain ⟨ystop, ygo⟩ := Y i ρ2 H2 ms2.h F2 R2
  by_cases hl : i < ds.length
  · right
    have hd : ds[i]? = some ds[i] := List.getElem?_eq_getElem hl
    obtain ⟨g1, g2⟩ := ygo _ hd
    rw [List.drop_eq_getElem_cons hl] at e3
    obtain ⟨m1, e4, e5⟩ := Option.bind_eq_some_iff.mp e3
    obtain ⟨u, e6, e7⟩ := Option.bind_eq_some_iff.mp e5
    obtain ⟨o3, ms3⟩ := u
    refine ⟨g1, fun σ3 H3 => ∃ ρ3 ms3, Fut ρ1 H1 ρ3 H3 ∧ Rel X.K ρ3 ms3.h H3 ∧ Slots X.K ρ3 H3 ms3.s σ3 ∧ mForL g b (ds.drop (i + 1)) ms3 = some (o, ms'), fun σ' H' w => ⟨ds.length - (i + 1), by omega, rfl, hl, w⟩, fun x H' y => ?_⟩
    obtain ⟨Fy, Ry, dy⟩ := g2 x H' y
    refine ⟨ρ2, ms2, _, m1, Ry, S2.fut Fy, dy, e4, fun H4 ρ4 σ4 F4 R4 S4 => ?_⟩
    refine ⟨ρ4, m1, o3, ms3, R4, S4, e6, fun H5 ρ5 F5 R5 => ?_⟩
    have F15 := ((F2.trans Fy).trans F4).trans F5
    cases o3 with
    | nx => exact fun σ5 S5 => ⟨ρ5, ms3, F15, R5, S5, e7⟩
    | ct => exact fun σ5 S5 => ⟨ρ5, ms3, F15, R5, S5, e7⟩
    | bk => cases e7; exact fun σ5 S5 => q H5 ρ5 (F1.trans F15) R5 σ5 S5
    | ret d => cases e7; exact fun v dn => q H5 ρ5 (F1.trans F15) R5 v dn
  · left
    rw [List.drop_eq_nil_of_le (Nat.le_of_not_lt hl)] at e3
    cases e3
    exact ⟨ystop (Nat.le_of_not_lt hl), q H2 ρ2 (F1.trans F2) R2 σ2 S2⟩
/-- the sources -/
def asL : D → Option (List D)
  | .lst ds => some ds
  | .frl ds => some ds
  | _ => none
def asT : D → Option (List D)
  | .tup ds => some ds
  | _ => none
def iL (f : ME) : MI := fun ms => (f ms).bind fun r => (asL r.1).map fun ds => (ds, r.2)
def iT (f : ME) : MI := fun ms => (f ms).bind fun r => (asT r.1).map fun ds => (ds, r.2)
theorem den_lst {K : PySem.W.Frag} {ρ : Rho} {H : Hp} {v : V} {ds : List D} (h : Den K ρ H v (.lst ds)) : ∃ a vs, v = .ref a ∧ (∀ ρ' H', Fut ρ H ρ' H' → SqL K H' a vs ∧ Dens K ρ' H' vs ds) := by
  cases h with
  | lst r n d => exact ⟨_, _, rfl, fun ρ' H' F => ⟨SqL.of (F.keep _ _ (Rho.notIn n).1 r), d.fut F⟩⟩
theorem den_frl {K : PySem.W.Frag} {ρ : Rho} {H : Hp} {v : V} {ds : List D} (h : Den K ρ H v (.frl ds)) : ∃ a vs, v = .ref a ∧ (∀ ρ' H', Fut ρ H ρ' H' → SqL K H' a vs ∧ Dens K ρ' H' vs ds) := by
  cases h with
  | frl r n d => exact ⟨_, _, rfl, fun ρ' H' F => ⟨.inl (F.rd n r), d.fut F⟩⟩
  | frlK r d => exact ⟨_, _, rfl, fun ρ' H' F => ⟨r H', d.fut F⟩⟩
theorem den_lf {K : PySem.W.Frag} {ρ : Rho} {H : Hp} {v : V} {d : D} {ds : List D} (h : Den K ρ H v d) (e : asL d = some ds) : ∃ a vs, v = .ref a ∧ (∀ ρ' H', Fut ρ H ρ' H' → SqL K H' a vs ∧ Dens K ρ' H' vs ds) := by
  cases d <;> simp only [asL] at e <;> try (cases e; done)
  · cases e; exact den_lst h
  · cases e; exact den_frl h
theorem den_tupF {K : PySem.W.Frag} {ρ : Rho} {H : Hp} {v : V} {ds : List D} (h : Den K ρ H v (.tup ds)) : ∃ a vs, v = .ref a ∧ (∀ ρ' H', Fut ρ H ρ' H' → SqT K H' a vs ∧ Dens K ρ' H' vs ds) := by
  cases h with
  | tup r n d => exact ⟨_, _, rfl, fun ρ' H' F => ⟨.inl (F.rd n r), d.fut F⟩⟩
  | tupK r d => exact ⟨_, _, rfl, fun ρ' H' F => ⟨r H', d.fut F⟩⟩
theorem pi_w {tg iter : Expr} {t t' : TI} (h : PI X tg iter t) (w : ∀ σ H R, t' σ H R → t σ H R) : PI X tg iter t' := ⟨fun pins s σ H R I q => h.run pins s σ H R I (w σ H R q)⟩
theorem iv_list {tg l : Expr} {f : ME} (h : EV X l f) : IV X tg l (iL f) := by
  refine pi_w (pi_list h) fun σ H Rk h => ?_
  obtain ⟨ρ, ms, ds, h', R, S, e, q⟩ := h
  obtain ⟨r, e1, e2⟩ := Option.bind_eq_some_iff.mp e
  obtain ⟨d, h1⟩ := r
  obtain ⟨es, e3, e4⟩ := Option.map_eq_some_iff.mp e2
  cases e4
  refine ⟨ρ, ms, _, _, R, S, e1, fun v H1 ρ1 F1 R1 dn => ?_⟩
  obtain ⟨a, vs, rfl, hq⟩ := den_lf dn e3
  refine ⟨a, rfl, ⟨vs, (hq ρ1 H1 (.refl _ _)).1⟩, q _ _ ρ1 F1 R1 fun i ρ2 H2 h2 F2 R2 => ⟨fun hl => ⟨vs, (hq ρ2 H2 F2).1, by rw [(hq ρ2 H2 F2).2.length]; exact hl⟩, fun d hd => ?_⟩⟩
  obtain ⟨x, hx, dx⟩ := (hq ρ2 H2 F2).2.get hd
  refine ⟨⟨vs, x, (hq ρ2 H2 F2).1, hx⟩, fun y H' hy => ?_⟩
  obtain ⟨rfl, hy⟩ := hy
  have hy' := hy vs (hq ρ2 _ F2).1
  rw [hx] at hy'
  cases hy'
  exact ⟨.refl _ _, R2, dx⟩
theorem iv_tup {tg l : Expr} {f : ME} (h : EV X l f) : IV X tg l (iT f) := by
  refine pi_w (pi_tup h) fun σ H Rk h => ?_
  obtain ⟨ρ, ms, ds, h', R, S, e, q⟩ := h
  obtain ⟨r, e1, e2⟩ := Option.bind_eq_some_iff.mp e
  obtain ⟨d, h1⟩ := r
  obtain ⟨es, e3, e4⟩ := Option.map_eq_some_iff.mp e2
  cases e4
  cases d <;> simp only [asT] at e3 <;> try (cases e3; done)
  cases e3
  refine ⟨ρ, ms, _, _, R, S, e1, fun v H1 ρ1 F1 R1 dn => ?_⟩
  obtain ⟨a, vs, rfl, hq⟩ := den_tupF dn
  refine ⟨a, rfl, ⟨vs, (hq ρ1 H1 (.refl _ _)).1⟩, q _ _ ρ1 F1 R1 fun i ρ2 H2 h2 F2 R2 => ⟨fun hl => ⟨vs, (hq ρ2 H2 F2).1, by rw [(hq ρ2 H2 F2).2.length]; exact hl⟩, fun d hd => ?_⟩⟩
  obtain ⟨x, hx, dx⟩ := (hq ρ2 H2 F2).2.get hd
  refine ⟨⟨vs, x, (hq ρ2 H2 F2).1, hx⟩, fun y H' hy => ?_⟩
  obtain ⟨rfl, hy⟩ := hy
  have hy' := hy vs (hq ρ2 _ F2).1
  rw [hx] at hy'
  cases hy'
  exact ⟨.refl _ _, R2, dx⟩
def intsD (lo : Int) (n : Nat) : List D := (List.range n).map fun (i : Nat) => D.int (lo + (i : Int))
theorem yields_rng {K : PySem.W.Frag} {ρ : Rho} {H : Hp} (lo : Int) (n : Nat) : Yields K ρ H (Itr lo n) (intsD lo n) := by
  intro i ρ2 H2 h2 F2 R2
  refine ⟨fun hl => show n ≤ i by simpa [intsD] using hl, fun d hd => ?_⟩
  have hi : i < n := by
    obtain ⟨hl, _⟩ := List.getElem?_eq_some_iff.mp hd
    simpa [intsD] using hl
  refine ⟨hi, fun x H' hy => ?_⟩
  obtain ⟨rfl, rfl⟩ := hy
  simp [intsD, hi] at hd
  subst hd
  exact ⟨.refl _ _, R2, .int _⟩
def big62 (j : Int) : Bool := decide (-4611686018427387904 ≤ j ∧ j < 4611686018427387904)
def iR1 (f : MA) : MI := fun ms => (f ms).bind fun r => match r.1 with
  | [.int j] => bif big62 j then some (intsD 0 j.toNat, r.2) else none
  | _ => none
def iR2 (f : MA) : MI := fun ms => (f ms).bind fun r => match r.1 with
  | [.int i, .int j] => bif big62 i && big62 j then some (intsD i (j - i).toNat, r.2) else none
  | _ => none
theorem iv_range1 {tg a : Expr} {p pos : Pos} {f : MA} (hm : X.mg "range" = none) (ha : AV X [a] f) (hg : Gl X "range" := by rfl) (hs : starEach [a] X.env = [(false, eval a X.env)] := by rfl) : IV X tg (.Call (.Name "range" p) [a] [] pos) (iR1 f) := by
  refine pi_w (pi_range1 hg hm ha hs) fun σ H Rk h => ?_
  obtain ⟨ρ, ms, ds, h', R, S, e, q⟩ := h
  obtain ⟨r, e1, e2⟩ := Option.bind_eq_some_iff.mp e
  obtain ⟨xs, h1⟩ := r
  dsimp only at e2
  split at e2
  · rename_i j
    obtain ⟨hb, e3⟩ := bif_some e2
    cases e3
    have hb' : -4611686018427387904 ≤ j ∧ j < 4611686018427387904 := of_decide_eq_true hb
    refine ⟨ρ, ms, _, _, R, S, e1, fun vs H1 ρ1 F1 R1 dn => ?_⟩
    cases dn with
    | cons a b =>
      cases b
      exact ⟨j, by rw [den_int a], by omega, by omega, q _ _ ρ1 F1 R1 (yields_rng 0 j.toNat)⟩
  · cases e2
theorem iv_range2 {tg a b : Expr} {p pos : Pos} {f : MA} (hm : X.mg "range" = none) (ha : AV X [a, b] f) (hg : Gl X "range" := by rfl) (hs : starEach [a, b] X.env = [(false, eval a X.env), (false, eval b X.env)] := by rfl) (hs2 : starEach [b] X.env = [(false, eval b X.env)] := by rfl) : IV X tg (.Call (.Name "range" p) [a, b] [] pos) (iR2 f) := by
  refine pi_w (pi_range2 hg hm ha hs hs2) fun σ H Rk h => ?_
  obtain ⟨ρ, ms, ds, h', R, S, e, q⟩ := h
  obtain ⟨r, e1, e2⟩ := Option.bind_eq_some_iff.mp e
  obtain ⟨xs, h1⟩ := r
  dsimp only at e2
  split at e2
  · rename_i i j
    obtain ⟨hb, e3⟩ := bif_some e2
    cases e3
    rw [Bool.and_eq_true] at hb
    have hb1 : -4611686018427387904 ≤ i ∧ i < 4611686018427387904 := of_decide_eq_true hb.1
    have hb2 : -4611686018427387904 ≤ j ∧ j < 4611686018427387904 := of_decide_eq_true hb.2
    refine ⟨ρ, ms, _, _, R, S, e1, fun vs H1 ρ1 F1 R1 dn => ?_⟩
    cases dn with
    | cons a b =>
      cases b with
      | cons b c =>
        cases c
        exact ⟨i, j, by rw [den_int a, den_int b], ⟨by omega, by omega, by omega, by omega⟩, q _ _ ρ1 F1 R1 (yields_rng i _)⟩
  · cases e2
end

/-! ### a def -/
def mFun (n m : Nat) (b : MB) : MF := fun ds h => (b ⟨ds.map some ++ List.replicate (n - m) none, h⟩).bind fun r => match r.1 with
  | .ret d => some (d, r.2.h)
  | .nx => some (.non, r.2.h)
  | _ => none
theorem slots_start {K : PySem.W.Frag} {ρ : Rho} {H : Hp} {N : List Str} {vs : List V} {ds : List D} (dn : Dens K ρ H vs ds) : Slots K ρ H (ds.map some ++ List.replicate (N.length - ds.length) none) (L2.start N vs) := by
  refine ⟨by simp [L2.start, dn.length], fun i d h => ?_⟩
  by_cases hi : i < ds.length
  · rw [List.getElem?_append_left (by simpa using hi), List.getElem?_map] at h
    cases e : ds[i]? with
    | none => rw [e] at h; cases h
    | some d' =>
      rw [e] at h
      cases h
      obtain ⟨v, h1, h2⟩ := dn.get e
      exact ⟨v, by unfold L2.start; rw [List.getElem?_append_left (by simpa [dn.length] using hi), List.getElem?_map, h1]; rfl, h2⟩
  · rw [List.getElem?_append_right (by simpa using Nat.le_of_not_lt hi)] at h
    obtain ⟨_, e⟩ := List.getElem?_eq_some_iff.mp h
    simp at e
theorem fn_ok {P : Program} {w : World} {K : PySem.W.Frag} {mg : Str → Option Value} {base : Heap} {x qual : Str} {st : Stmt} {f : Addr} {fd : FuncData} {N ps : List Str} {k n m : Nat} {b : MB} (F : Fun K x qual st f fd) (S : FnScope N ps (defScope st)) (hn : N.length = n) (hm : ps.length = m)
    (hbody : ∀ (cdv : Value) (A : Around) (outer : List Env) (s : Shared) (H : Hp) (E : XK), RoomG k (A.deeper (PyProof.Rows.envOfC qual (defScope st) s.heap.objs.size f cdv)) →
      BVs (cxOf CX0 P w K mg base N qual (defScope st) f cdv A outer s H E).nox (defBody st) b) : FnG P w K mg base CX0 (k + 1) f fd ps (spF K m (mFun n m b)) := by
  subst hn hm
  obtain ⟨oc, od, kV, doc, pm, an, cdv, ct, osl, rfl, lk, hcd⟩ := F.ex
  refine fn_ofG lk hcd S (fun vs H Q E h => ?_) fun A outer s H vs Q E hr h => ?_
  · obtain ⟨ρ, h, ds, d, h', R, dn, e, _⟩ := h
    rw [dn.length, e]
  · obtain ⟨ρ, h, ds, d, h', R, dn, hl, e, q⟩ := h
    refine ⟨_, (hbody cdv A outer s H E hr).nox, ?_⟩
    obtain ⟨r, e1, e2⟩ := Option.bind_eq_some_iff.mp e
    obtain ⟨o, ms'⟩ := r
    refine ⟨ρ, ⟨ds.map some ++ List.replicate (N.length - ps.length) none, h⟩, o, ms', R, ?_, e1, fun H' ρ' F' R' => ?_⟩
    · have := slots_start (N := N) dn
      rw [hl] at this
      exact this
    · cases o with
      | ret d => cases e2; exact fun v dn => q v H' ρ' F' R' dn
      | nx => cases e2; exact fun σ' _ => q _ H' ρ' F' R' .non
      | bk => cases e2
      | ct => cases e2
/-! ### a def that hands its own lists back: they are frozen -/
mutual
def clean : D → Bool
  | .tup ds => cleans ds
  | .lst ds => cleans ds
  | .frl ds => cleans ds
  | .cell _ => false
  | _ => true
def cleans : List D → Bool
  | [] => true
  | d :: ds => clean d && cleans ds
end
-- fewer cells
def Rho.less (ρ : Rho) (n : Nat) : Rho := ⟨ρ.c.take n, ρ.v⟩
theorem Rho.lessOut {ρ : Rho} {n : Nat} {a : Addr} (h : a ∉ ρ) : a ∉ ρ.less n := Rho.out (fun z => (Rho.notIn h).1 (List.mem_of_mem_take z)) (Rho.notIn h).2
mutual
theorem Den.less {K : PySem.W.Frag} {ρ : Rho} {m : Nat} {H : Hp} : ∀ {v : V} {d : D}, clean d = true → Den K ρ H v d → Den K (ρ.less m) H v d
  | _, _, _, .non => .non
  | _, _, _, .bl b => .bl b
  | _, _, _, .int i => .int i
  | _, _, _, .str x => .str x
  | _, _, c, .tup h n ds => .tup h (Rho.lessOut n) (Dens.less (by simpa [clean] using c) ds)
  | _, _, c, .tupK h ds => .tupK h (Dens.less (by simpa [clean] using c) ds)
  | _, _, c, .lst h n ds => .lst h (Rho.lessOut n) (Dens.less (by simpa [clean] using c) ds)
  | _, _, c, .frl h n ds => .frl h (Rho.lessOut n) (Dens.less (by simpa [clean] using c) ds)
  | _, _, c, .frlK h ds => .frlK h (Dens.less (by simpa [clean] using c) ds)
  | _, _, _, .ty n => .ty n
  | _, _, _, .dic h n => .dic h (Rho.lessOut n)
  | _, _, c, .cell h => by simp [clean] at c
theorem Dens.less {K : PySem.W.Frag} {ρ : Rho} {m : Nat} {H : Hp} : ∀ {vs : List V} {ds : List D}, cleans ds = true → Dens K ρ H vs ds → Dens K (ρ.less m) H vs ds
  | _, _, _, .nil => .nil
  | _, _, c, .cons a b => .cons (Den.less (by simp [cleans] at c; exact c.1) a) (Dens.less (by simp [cleans] at c; exact c.2) b)
end
def frzD (n : Nat) (h : Cells) (d : D) : Option D := match d with
  | .cell i => bif decide (i < n) then some (.cell i) else (h[i]?).bind fun ds => bif cleans ds then some (.lst ds) else none
  | d => bif clean d then some d else none
def mFrz (F : MF) : MF := fun ds h => (F ds h).bind fun r => bif decide (h.length ≤ r.2.length) && (r.2.take h.length).all cleans then (frzD h.length r.2 r.1).map fun d => (d, r.2.take h.length) else none
theorem fn_frz {P : Program} {w : World} {K : PySem.W.Frag} {mg : Str → Option Value} {base : Heap} {f : Addr} {fd : FuncData} {ps : List Str} {k n : Nat} {F : MF} (G : FnG P w K mg base CX0 k f fd ps (spF K n F)) : FnG P w K mg base CX0 k f fd ps (spF K n (mFrz F)) := by
  have im : ∀ vs H Q E, spF K n (mFrz F) vs H Q E → spF K n F vs H Q E := fun vs H Q E h => by
    obtain ⟨ρ, h, ds, d, h', R, dn, hl, e, q⟩ := h
    obtain ⟨r, e1, e2⟩ := Option.bind_eq_some_iff.mp e
    obtain ⟨d1, h1⟩ := r
    cases hc : decide (h.length ≤ h1.length) && (h1.take h.length).all cleans with
    | false => simp only [hc, cond_false] at e2; cases e2
    | true =>
      simp only [hc, cond_true] at e2
      obtain ⟨d2, e3, e4⟩ := Option.map_eq_some_iff.mp e2
      cases e4
      rw [Bool.and_eq_true] at hc
      obtain ⟨hc1, hc2⟩ := hc
      have hle := of_decide_eq_true hc1
      refine ⟨ρ, h, ds, d1, h1, R, dn, hl, e1, fun v H' ρ' F' R' dn' => ?_⟩
      have ec : (ρ'.less h.length).c = ρ.c := by
        obtain ⟨more, e5⟩ := F'.ext
        show ρ'.c.take h.length = ρ.c
        rw [e5, ← R.len, List.take_left]
      have F2 : Fut ρ H (ρ'.less h.length) H' := ⟨F'.keep, ⟨[], by rw [ec]; simp⟩, F'.sub, F'.hid, fun _ h n => absurd (by rw [← ec]; exact h) n⟩
      have R2 : Rel K (ρ'.less h.length) (h1.take h.length) H' := by
        refine ⟨by rw [ec, R.len, List.length_take]; omega, by rw [ec]; exact R.nd, fun a ha z => R'.apart a (List.mem_of_mem_take ha) z, R'.hidden, fun i a es g1 g2 => ?_⟩
        have hi : i < h.length := by
          obtain ⟨z, _⟩ := List.getElem?_eq_some_iff.mp g2
          rw [List.length_take] at z; omega
        rw [List.getElem?_take_of_lt hi] at g2
        rw [ec] at g1
        obtain ⟨vs, q1, q2⟩ := R'.at_ i a es (F'.cellAt g1) g2
        exact ⟨vs, q1, q2.less (List.all_eq_true.mp hc2 es (List.mem_of_getElem? (i := i) (by rw [List.getElem?_take_of_lt hi]; exact g2)))⟩
      refine q v H' _ F2 R2 ?_
      cases d1 with
      | cell i =>
        simp only [frzD] at e3
        cases hi : decide (i < h.length) with
        | true =>
          simp only [hi, cond_true] at e3
          cases e3
          cases dn' with
          | cell g =>
            refine .cell ?_
            unfold Rho.less
            rw [List.getElem?_take_of_lt (of_decide_eq_true hi)]
            exact g
        | false =>
          simp only [hi, cond_false] at e3
          obtain ⟨es, e6, e7⟩ := Option.bind_eq_some_iff.mp e3
          obtain ⟨hcl, e8⟩ := bif_some e7
          cases e8
          cases dn' with
          | cell g =>
            obtain ⟨vs, q1, q2⟩ := R'.at_ i _ es g e6
            have nd := R'.nd
            have hi' : ¬ i < h.length := of_decide_eq_false hi
            obtain ⟨hi2, e10⟩ := List.getElem?_eq_some_iff.mp g
            refine .lst q1 (Rho.out (fun z => ?_) fun z => ?_) (q2.less hcl)
            · rw [ec] at z
              obtain ⟨j, hj, e9⟩ := List.getElem_of_mem z
              have g2 := F'.cellAt (List.getElem?_eq_some_iff.mpr ⟨hj, e9⟩)
              obtain ⟨hj2, e11⟩ := List.getElem?_eq_some_iff.mp g2
              have e12 := (List.getElem_inj nd).mp (e11.trans e10.symm)
              rw [R.len] at hj
              omega
            · have hin : _ ∉ ρ.c := fun hin => by
                obtain ⟨j, hj, e9⟩ := List.getElem_of_mem hin
                have g2 := F'.cellAt (List.getElem?_eq_some_iff.mpr ⟨hj, e9⟩)
                obtain ⟨hj2, e11⟩ := List.getElem?_eq_some_iff.mp g2
                have e12 := (List.getElem_inj nd).mp (e11.trans e10.symm)
                rw [R.len] at hj
                omega
              exact R'.apart _ (List.mem_of_getElem? g) z
      | _ =>
        simp only [frzD] at e3
        obtain ⟨hcl, e8⟩ := bif_some e3
        cases e8
        exact dn'.less hcl
  exact ⟨fun vs H Q E q => G.len vs H Q E (im _ _ _ _ q), fun A oute s Hh args uz vz Qq E hr he hb hv hs => G.run A oute s Hh args uz vz Qq E hr he hb hv (im _ _ _ _ hs)⟩
end Zm

set_option Elab.async false
set_option linter.all false
set_option maxRecDepth 100000
/-! Zf: operators, data, built-ins. -/
namespace Zm
open PySem L2
section
variable {X : Cx} {K : PySem.W.Frag}

/-! ### arithmetic -/
def wideM (i j : Int) : Bool := decide (i.natAbs.log2 + j.natAbs.log2 < 1000000)
def wideD (j : Int) : Bool := decide (0 < j ∧ j.natAbs.log2 < 9000)
def oSub : Cells → D → D → Option D
  | _, .int i, .int j => some (.int (i - j))
  | _, _, _ => none
def oMul : Cells → D → D → Option D
  | _, .int i, .int j => bif wideM i j then some (.int (i * j)) else none
  | _, _, _ => none
def oDiv : Cells → D → D → Option D
  | _, .int i, .int j => bif wideD j then some (.int (i / j)) else none
  | _, _, _ => none
def oMod : Cells → D → D → Option D
  | _, .int i, .int j => bif decide (0 < j) then some (.int (i % j)) else none
  | _, _, _ => none
def oPow : Cells → D → D → Option D
  | _, .int i, .int j => bif decide (0 ≤ j ∧ j ≤ 1000000 ∧ i.natAbs < 18446744073709551616) then some (.int (i ^ j.toNat)) else none
  | _, _, _ => none
def oNeg : Cells → D → Option D
  | _, .int i => some (.int (-i))
  | _, _ => none
theorem p_sub : Op2 K (rI0 fun i j => .int (i - j)) oSub := by
  intro ρ h H x y dx dy d Q R a b e k
  cases dx <;> cases dy <;> simp only [oSub] at e <;> try (cases e; done)
  cases e
  exact ⟨_, _, den_int a, den_int b, k _ _ ρ (.refl _ _) R (.int _)⟩
theorem p_mul : Op2 K (rI CMulW fun i j => .int (i * j)) oMul := by
  intro ρ h H x y dx dy d Q R a b e k
  cases dx <;> cases dy <;> simp only [oMul] at e <;> try (cases e; done)
  obtain ⟨c, e⟩ := bif_some e
  cases e
  exact ⟨_, _, den_int a, den_int b, by simpa [wideM, CMulW] using c, k _ _ ρ (.refl _ _) R (.int _)⟩
theorem p_div : Op2 K (rI CDivW fun i j => .int (i / j)) oDiv := by
  intro ρ h H x y dx dy d Q R a b e k
  cases dx <;> cases dy <;> simp only [oDiv] at e <;> try (cases e; done)
  obtain ⟨c, e⟩ := bif_some e
  cases e
  exact ⟨_, _, den_int a, den_int b, by simpa [wideD, CDivW] using c, k _ _ ρ (.refl _ _) R (.int _)⟩
theorem p_mod : Op2 K (rI (fun _ j => 0 < j) fun i j => .int (i % j)) oMod := by
  intro ρ h H x y dx dy d Q R a b e k
  cases dx <;> cases dy <;> simp only [oMod] at e <;> try (cases e; done)
  obtain ⟨c, e⟩ := bif_some e
  cases e
  exact ⟨_, _, den_int a, den_int b, of_decide_eq_true c, k _ _ ρ (.refl _ _) R (.int _)⟩
theorem p_pow : Op2 K (rI CPow fun i j => .int (i ^ j.toNat)) oPow := by
  intro ρ h H x y dx dy d Q R a b e k
  cases dx <;> cases dy <;> simp only [oPow] at e <;> try (cases e; done)
  obtain ⟨c, e⟩ := bif_some e
  cases e
  exact ⟨_, _, den_int a, den_int b, by simpa [CPow] using c, k _ _ ρ (.refl _ _) R (.int _)⟩
theorem p_neg : Op1 K (rU fun i => .int (-i)) oNeg := by
  intro ρ h H x dx d Q R a e k
  cases dx <;> simp only [oNeg] at e <;> try (cases e; done)
  cases e
  exact ⟨_, den_int a, k _ _ ρ (.refl _ _) R (.int _)⟩
/-- + of ints, texts, lists, tuples -/
def oAdd : Cells → D → D → Option D
  | _, .int i, .int j => some (.int (i + j))
  | _, .str i, .str j => bif decide (i.length + j.length ≤ line) then some (.str (i ++ j)) else none
  | _, .lst i, .lst j => bif decide (i.length + j.length ≤ line) then some (.lst (i ++ j)) else none
  | _, .tup i, .tup j => bif decide (i.length + j.length ≤ line) then some (.tup (i ++ j)) else none
  | _, _, _ => none
def rAddS : R2 := fun x y H Q => ∃ i j, x = .str i ∧ y = .str j ∧ i.length + j.length ≤ sizeLine ∧ Q (.str (i ++ j)) H
def rAddAll (K : PySem.W.Frag) : R2 := fun x y H Q => rI0 (fun i j => .int (i + j)) x y H Q ∨ rAddS x y H Q ∨ rCat x y H Q ∨ rCatA K x y H Q
theorem or_addAll : OpR X (binaryOp .Add) (rAddAll X.K) := op_add.or (OpR.or (r := rAddS) op_add_str (op_cat.or op_catA))
theorem den_len {ρ : Rho} {H : Hp} {v : V} {ds : List D} (h : Den K ρ H v (.lst ds)) : ∃ a vs, v = .ref a ∧ H a = some (.lst vs) ∧ a ∉ ρ ∧ Dens K ρ H vs ds := by
  cases h with
  | lst r n d => exact ⟨_, _, rfl, r, n, d⟩
theorem p_add : Op2 K (rAddAll K) oAdd := by
  intro ρ h H x y dx dy d Q R a b e k
  cases dx <;> cases dy <;> simp only [oAdd] at e <;> try (cases e; done)
  · cases e
    exact .inl ⟨_, _, den_int a, den_int b, k _ _ ρ (.refl _ _) R (.int _)⟩
  · obtain ⟨c, e⟩ := bif_some e
    cases e
    exact .inr (.inl ⟨_, _, den_str a, den_str b, by rw [← line_eq]; exact of_decide_eq_true c, k _ _ ρ (.refl _ _) R (.str _)⟩)
  · obtain ⟨c, e⟩ := bif_some e
    cases e
    obtain ⟨p, vs, rfl, hp⟩ := den_tupF a
    obtain ⟨q, ws, rfl, hq⟩ := den_tupF b
    obtain ⟨s1, t1⟩ := hp ρ H (.refl _ _)
    obtain ⟨s2, t2⟩ := hq ρ H (.refl _ _)
    refine .inr (.inr (.inr ⟨p, q, vs, ws, rfl, rfl, s1, s2, by rw [t1.length, t2.length, ← line_eq]; exact of_decide_eq_true c, fun z => ?_, fun _ z => ?_, fun _ _ o ho => ?_⟩))
    · subst z
      cases t1
      exact k _ H ρ (.refl _ _) R (by simpa using b)
    · subst z
      cases t2
      exact k _ H ρ (.refl _ _) R (by simpa using a)
    · exact k _ _ ρ (fut_new _ ho) (R.new _ ho) (.tup (.inl upd_same) (R.out ho) ((t1.append t2).fut (fut_new _ ho)))
  · obtain ⟨c, e⟩ := bif_some e
    cases e
    obtain ⟨p, vs, rfl, hp, np, t1⟩ := den_len a
    obtain ⟨q, ws, rfl, hq, nq, t2⟩ := den_len b
    refine .inr (.inr (.inl ⟨p, q, vs, ws, rfl, rfl, hp, hq, by rw [t1.length, t2.length, ← line_eq]; exact of_decide_eq_true c, fun o ho => ?_⟩))
    exact k _ _ ρ (fut_new _ ho) (R.new _ ho) (.lst upd_same (R.out ho) ((t1.append t2).fut (fut_new _ ho)))

/-! ### order of ints -/
def cI (p : Int → Int → Bool) : Cells → D → D → Option Bool
  | _, .int i, .int j => some (p i j)
  | _, _, _ => none
theorem p_cI {p : Int → Int → Bool} : Op2 K (rI0 fun i j => .bl (p i j)) (oB (cI p)) := by
  intro ρ h H x y dx dy d Q R a b e k
  cases dx <;> cases dy <;> simp only [oB, cI, Option.map_none, Option.map_some] at e <;> try (cases e; done)
  cases e
  exact ⟨_, _, den_int a, den_int b, k _ _ ρ (.refl _ _) R (.bl _)⟩
abbrev cLt := cI fun i j => decide (i < j)
abbrev cLe := cI fun i j => decide (i ≤ j)
abbrev cGt := cI fun i j => decide (j < i)
abbrev cGe := cI fun i j => decide (j ≤ i)
/-- a op b op' c -/
def mChain (o o' : Cells → D → D → Option Bool) (f g k : ME) : ME := fun ms => (f ms).bind fun r => (g { ms with h := r.2 }).bind fun s => (o s.2 r.1 s.1).bind fun b =>
  bif b then (k { ms with h := s.2 }).bind fun t => (o' t.2 s.1 t.1).map fun c => (.bl c, t.2) else some (.bl false, s.2)
theorem ev_chain {a b c : Expr} {pos : Pos} {op op' : CmpOp} {r r' : R2} {o o' : Cells → D → D → Option Bool} {f g k : ME} (ho : OpR X (compareOp op) r) (p : Op2 X.K r (oB o)) (ho' : OpR X (compareOp op') r') (p' : Op2 X.K r' (oB o'))
    (ha : EV X a f) (hb : EV X b g) (hc : EV X c k) (hm : lastMarks [op, op'] [b, c] = false := by with_unfolding_all rfl) : EV X (.Compare a [op, op'] [b, c] pos) (mChain o o' f g k) := by
  refine pe_w (pe_chain ho ho' ha hb hc hm) fun σ H Q h => ?_
  obtain ⟨ρ, ms, d, h', R, S, e, q⟩ := h
  obtain ⟨⟨dx, h1⟩, e1, e2⟩ := Option.bind_eq_some_iff.mp e
  obtain ⟨⟨dy, h2⟩, e3, e4⟩ := Option.bind_eq_some_iff.mp e2
  obtain ⟨b', e5, e6⟩ := Option.bind_eq_some_iff.mp e4
  refine ⟨ρ, ms, dx, h1, R, S, e1, fun x H1 ρ1 F1 R1 d1 => ?_⟩
  refine ⟨ρ1, { ms with h := h1 }, dy, h2, R1, S.fut F1, e3, fun y H2 ρ2 F2 R2 d2 => ?_⟩
  refine p ρ2 h2 H2 x y dx dy (.bl b') _ R2 (d1.fut F2) d2 (by simp [oB, show o h2 dx dy = some b' from e5]) fun v H3 ρ3 F3 R3 d3 => ⟨b', den_bl d3, ?_⟩
  cases b' with
  | false => cases e6; exact q _ H3 ρ3 ((F1.trans F2).trans F3) R3 (.bl false)
  | true =>
    obtain ⟨⟨dz, h4⟩, e7, e8⟩ := Option.bind_eq_some_iff.mp e6
    obtain ⟨c', e9, e10⟩ := Option.map_eq_some_iff.mp e8
    cases e10
    refine iteT ⟨ρ3, { ms with h := h2 }, dz, _, R3, S.fut ((F1.trans F2).trans F3), e7, fun z H4 ρ4 F4 R4 d4 => ?_⟩
    exact p' ρ4 _ H4 y z dy dz (.bl c') _ R4 ((d2.fut F3).fut F4) d4 (by simp [oB, show o' _ dy dz = some c' from e9]) fun v H5 ρ5 F5 R5 d5 => q v H5 ρ5 ((((F1.trans F2).trans F3).trans F4).trans F5) R5 d5
def tB' (f : ME) : MT := fun ms => (f ms).bind fun r => (asB r.1).map fun b => (b, r.2)
theorem tv_chain {a b c : Expr} {pos : Pos} {op op' : CmpOp} {r r' : R2} {o o' : Cells → D → D → Option Bool} {f g k : ME} (ho : OpR X (compareOp op) r) (p : Op2 X.K r (oB o)) (ho' : OpR X (compareOp op') r') (p' : Op2 X.K r' (oB o'))
    (ha : EV X a f) (hb : EV X b g) (hc : EV X c k) (hm : lastMarks [op, op'] [b, c] = false := by with_unfolding_all rfl) : TV X (.Compare a [op, op'] [b, c] pos) (tB' (mChain o o' f g k)) := by
  refine pt_w (pt_chain ho ho' ha hb hc hm) fun σ H Q h => ?_
  obtain ⟨ρ, ms, bb, h', R, S, ee, q⟩ := h
  obtain ⟨⟨d, h''⟩, e, ex⟩ := Option.bind_eq_some_iff.mp ee
  obtain ⟨bq, ey, ez⟩ := Option.map_eq_some_iff.mp ex
  cases ez
  obtain ⟨⟨dx, h1⟩, e1, e2⟩ := Option.bind_eq_some_iff.mp e
  obtain ⟨⟨dy, h2⟩, e3, e4⟩ := Option.bind_eq_some_iff.mp e2
  obtain ⟨b', e5, e6⟩ := Option.bind_eq_some_iff.mp e4
  refine ⟨ρ, ms, dx, h1, R, S, e1, fun x H1 ρ1 F1 R1 d1 => ?_⟩
  refine ⟨ρ1, { ms with h := h1 }, dy, h2, R1, S.fut F1, e3, fun y H2 ρ2 F2 R2 d2 => ?_⟩
  refine p ρ2 h2 H2 x y dx dy (.bl b') _ R2 (d1.fut F2) d2 (by simp [oB, show o h2 dx dy = some b' from e5]) fun v H3 ρ3 F3 R3 d3 => ⟨b', den_bl d3, ?_⟩
  cases b' with
  | false => cases e6; cases ey; exact iteF ⟨false, rfl, q H3 ρ3 ((F1.trans F2).trans F3) R3⟩
  | true =>
    obtain ⟨⟨dz, h4⟩, e7, e8⟩ := Option.bind_eq_some_iff.mp e6
    obtain ⟨c', e9, e10⟩ := Option.map_eq_some_iff.mp e8
    cases e10
    simp only [asB] at ey
    cases ey
    refine iteT ⟨ρ3, { ms with h := h2 }, dz, _, R3, S.fut ((F1.trans F2).trans F3), e7, fun z H4 ρ4 F4 R4 d4 => ?_⟩
    exact p' ρ4 _ H4 y z dy dz (.bl _) _ R4 ((d2.fut F3).fut F4) d4 (by simp [oB, show o' _ dy dz = some _ from e9]) fun v H5 ρ5 F5 R5 d5 => ⟨_, den_bl d5, q H5 ρ5 ((((F1.trans F2).trans F3).trans F4).trans F5) R5⟩

/-! ### data of any depth -/
mutual
inductive DenP (K : PySem.W.Frag) (H : Hp) : V → PyData → Prop
  | non : DenP K H .non .none
  | bl (b) : DenP K H (.bl b) (.bool b)
  | int (i) : DenP K H (.int i) (.int i)
  | str (x) : DenP K H (.str x) (.str x)
  | tup {a vs ps} : SqT K H a vs → DensP K H vs ps → DenP K H (.ref a) (.tuple ps)
  | lst {a vs ps} : SqL K H a vs → DensP K H vs ps → DenP K H (.ref a) (.list ps)
inductive DensP (K : PySem.W.Frag) (H : Hp) : List V → List PyData → Prop
  | nil : DensP K H [] []
  | cons {v p vs ps} : DenP K H v p → DensP K H vs ps → DensP K H (v :: vs) (p :: ps)
end
mutual
def pyC (c : Nat → Option PyData) : D → Option PyData
  | .non => some .none
  | .bl b => some (.bool b)
  | .int i => some (.int i)
  | .str x => some (.str x)
  | .tup ds => (pyCs c ds).map .tuple
  | .lst ds => (pyCs c ds).map .list
  | .frl ds => (pyCs c ds).map .list
  | .cell i => c i
  | _ => none
def pyCs (c : Nat → Option PyData) : List D → Option (List PyData)
  | [] => some []
  | d :: ds => (pyC c d).bind fun p => (pyCs c ds).map fun ps => p :: ps
end
def cellP (h : Cells) (i : Nat) : Option PyData := (h[i]?).bind fun ds => (pyCs (fun _ => none) ds).map .list
abbrev py (h : Cells) : D → Option PyData := pyC (cellP h)
mutual
theorem denP_of {ρ : Rho} {H : Hp} {c : Nat → Option PyData} (hc : ∀ i p a, c i = some p → ρ.c[i]? = some a → DenP K H (.ref a) p) : ∀ {v : V} {d : D} {p : PyData}, Den K ρ H v d → pyC c d = some p → DenP K H v p
  | _, _, _, .non, e => by simp only [pyC] at e; cases e; exact .non
  | _, _, _, .bl b, e => by simp only [pyC] at e; cases e; exact .bl b
  | _, _, _, .int i, e => by simp only [pyC] at e; cases e; exact .int i
  | _, _, _, .str x, e => by simp only [pyC] at e; cases e; exact .str x
  | _, _, _, .tup h n ds, e => by
    simp only [pyC] at e
    obtain ⟨ps, e1, e2⟩ := Option.map_eq_some_iff.mp e
    cases e2
    exact .tup (.inl h) (densP_of hc ds e1)
  | _, _, _, .tupK h ds, e => by
    simp only [pyC] at e
    obtain ⟨ps, e1, e2⟩ := Option.map_eq_some_iff.mp e
    cases e2
    exact .tup (h H) (densP_of hc ds e1)
  | _, _, _, .lst h n ds, e => by
    simp only [pyC] at e
    obtain ⟨ps, e1, e2⟩ := Option.map_eq_some_iff.mp e
    cases e2
    exact .lst (SqL.of h) (densP_of hc ds e1)
  | _, _, _, .frl h n ds, e => by
    simp only [pyC] at e
    obtain ⟨ps, e1, e2⟩ := Option.map_eq_some_iff.mp e
    cases e2
    exact .lst (.inl h) (densP_of hc ds e1)
  | _, _, _, .frlK h ds, e => by
    simp only [pyC] at e
    obtain ⟨ps, e1, e2⟩ := Option.map_eq_some_iff.mp e
    cases e2
    exact .lst (h H) (densP_of hc ds e1)
  | _, _, _, .dic h n, e => by simp only [pyC] at e; cases e
  | _, _, _, .ty n, e => by simp only [pyC] at e; cases e
  | _, _, _, .cell h, e => by simp only [pyC] at e; exact hc _ _ _ e h
theorem densP_of {ρ : Rho} {H : Hp} {c : Nat → Option PyData} (hc : ∀ i p a, c i = some p → ρ.c[i]? = some a → DenP K H (.ref a) p) : ∀ {vs : List V} {ds : List D} {ps : List PyData}, Dens K ρ H vs ds → pyCs c ds = some ps → DensP K H vs ps
  | _, _, _, .nil, e => by simp only [pyCs] at e; cases e; exact .nil
  | _, _, _, .cons a b, e => by
    simp only [pyCs] at e
    obtain ⟨p, e1, e2⟩ := Option.bind_eq_some_iff.mp e
    obtain ⟨ps, e3, e4⟩ := Option.map_eq_some_iff.mp e2
    cases e4
    exact .cons (denP_of hc a e1) (densP_of hc b e3)
end
theorem denP_py {ρ : Rho} {h : Cells} {H : Hp} {v : V} {d : D} {p : PyData} (R : Rel K ρ h H) (dn : Den K ρ H v d) (e : py h d = some p) : DenP K H v p := by
  refine denP_of (c := cellP h) (fun i q a e1 e2 => ?_) dn e
  obtain ⟨ds, e3, e4⟩ := Option.bind_eq_some_iff.mp e1
  obtain ⟨ps, e5, e6⟩ := Option.map_eq_some_iff.mp e4
  cases e6
  obtain ⟨vs, q1, q2⟩ := R.at_ i a ds e2 e3
  exact .lst (SqL.of q1) (densP_of (fun _ _ _ z => by simp at z) q2 e5)
mutual
theorem reads_of {pins : List (Addr × Obj)} {σ : L2.St} {H : Hp} {s : Shared} (I : Inv X pins σ H s) : ∀ {v : V} {p : PyData} {u : Value}, DenP X.K H v p → RelV v u → ∃ as, Reads s.heap u p as
  | _, _, _, .non, r => by cases r; exact ⟨_, .none⟩
  | _, _, _, .bl b, r => by cases r; exact ⟨_, .bool b⟩
  | _, _, _, .int i, r => by obtain ⟨t, rfl⟩ := r; exact ⟨_, .int i t⟩
  | _, _, _, .str x, r => by obtain ⟨t, rfl⟩ := r; exact ⟨_, .str x t⟩
  | _, _, _, .tup h ds, r => by
    cases r
    obtain ⟨its, rv, ⟨o, e, c, n, d⟩, hz⟩ := I.tuple h
    obtain ⟨as, ra⟩ := readsAll_of I ds rv
    exact ⟨_, .tuple e c d (by simpa using ra)⟩
  | _, _, _, .lst h ds, r => by
    cases r
    obtain ⟨its, rv, ⟨o, n, e, c, _, d⟩, hz⟩ := I.list h
    obtain ⟨as, ra⟩ := readsAll_of I ds rv
    exact ⟨_, .list e c d (by simpa using ra)⟩
theorem readsAll_of {pins : List (Addr × Obj)} {σ : L2.St} {H : Hp} {s : Shared} (I : Inv X pins σ H s) : ∀ {vs : List V} {ps : List PyData} {us : List Value}, DensP X.K H vs ps → Vals vs us → ∃ as, ReadsAll s.heap us ps as
  | _, _, _, .nil, r => by cases r; exact ⟨_, .nil⟩
  | _, _, _, .cons a b, r => by
    cases r with
    | cons r1 r2 =>
      obtain ⟨as, ra⟩ := reads_of I a r1
      obtain ⟨bs, rb⟩ := readsAll_of I b r2
      exact ⟨_, .cons ra rb⟩
end
/-- == and != of data -/
def rEqP (K : PySem.W.Frag) (neg : Bool) : R2 := fun x y H Q => ∃ p q, DenP K H x p ∧ DenP K H y q ∧ SeqAt.shaped p = true ∧ SeqAt.shaped q = true ∧ Q (.bl (if neg then !PyData.eqv p q else PyData.eqv p q)) H
theorem op_eqP (hu : X.A.units + 64 < cLine) : OpR X (compareOp .Eq) (rEqP X.K false) := by
  intro pins s σ H x y v u Q I rx ry h
  obtain ⟨p, q, dx, dy, s1, s2, k⟩ := h
  obtain ⟨as, ra⟩ := reads_of I dx rx
  obtain ⟨bs, rb⟩ := reads_of I dy ry
  exact PyProof.Rows.eq_dataH ra rb s1 s2 hu ⟨.bl _, H, I, rfl, k⟩
theorem op_neP (hu : X.A.units + 64 < cLine) : OpR X (compareOp .NotEq) (rEqP X.K true) := by
  intro pins s σ H x y v u Q I rx ry h
  obtain ⟨p, q, dx, dy, s1, s2, k⟩ := h
  obtain ⟨as, ra⟩ := reads_of I dx rx
  obtain ⟨bs, rb⟩ := reads_of I dy ry
  exact PyProof.Rows.ne_dataH ra rb s1 s2 hu ⟨.bl _, H, I, rfl, k⟩
def cEqP (neg : Bool) : Cells → D → D → Option Bool := fun h x y => (py h x).bind fun p => (py h y).bind fun q => bif SeqAt.shaped p && SeqAt.shaped q then some (if neg then !PyData.eqv p q else PyData.eqv p q) else none
theorem p_eqP {neg : Bool} : Op2 K (rEqP K neg) (oB (cEqP neg)) := by
  intro ρ h H x y dx dy d Q R a b e k
  simp only [oB, cEqP] at e
  obtain ⟨z, e1, e2⟩ := Option.map_eq_some_iff.mp e
  obtain ⟨p, e3, e4⟩ := Option.bind_eq_some_iff.mp e1
  obtain ⟨q, e5, e6⟩ := Option.bind_eq_some_iff.mp e4
  obtain ⟨c, e7⟩ := bif_some e6
  subst e7
  subst e2
  rw [Bool.and_eq_true] at c
  exact ⟨p, q, denP_py R a e3, denP_py R b e5, c.1, c.2, k _ _ ρ (.refl _ _) R (.bl _)⟩
/-- the usual ==: by ints, texts, bools, else data -/
def oEq : Cells → D → D → Option Bool
  | _, .int i, .int j => some (decide (i = j))
  | _, .str i, .str j => some (decide (i = j))
  | _, .bl i, .bl j => some (decide (i = j))
  | h, x, y => cEqP false h x y
def oNe : Cells → D → D → Option Bool
  | _, .int i, .int j => some (!decide (i = j))
  | _, .str i, .str j => some (!decide (i = j))
  | _, .bl i, .bl j => some (!decide (i = j))
  | h, x, y => cEqP true h x y
def rEqA (K : PySem.W.Frag) : R2 := fun x y H Q => rEq x y H Q ∨ rEqP K false x y H Q
def rNeA (K : PySem.W.Frag) : R2 := fun x y H Q => rNe x y H Q ∨ rEqP K true x y H Q
theorem or_eq (hu : X.A.units + 64 < cLine) : OpR X (compareOp .Eq) (rEqA X.K) := op_eq.or (op_eqP hu)
theorem or_ne (hu : X.A.units + 64 < cLine) : OpR X (compareOp .NotEq) (rNeA X.K) := op_ne.or (op_neP hu)
theorem p_eq : Op2 K (rEqA K) (oB oEq) := by
  intro ρ h H x y dx dy d Q R a b e k
  have gen : (oB (cEqP false)) h dx dy = some d → rEqA K x y H Q := fun e => .inr (p_eqP ρ h H x y dx dy d Q R a b e k)
  cases dx <;> cases dy <;> first
    | exact gen e
    | (simp only [oB, oEq, Option.map_some] at e
       cases e
       left
       first
         | (cases den_int a; cases den_int b; refine ⟨rfl, k _ _ ρ (.refl _ _) R ?_⟩; simpa using Den.bl (K := K) (ρ := ρ) (H := H) _)
         | (cases den_str a; cases den_str b; refine ⟨rfl, k _ _ ρ (.refl _ _) R ?_⟩; simpa using Den.bl (K := K) (ρ := ρ) (H := H) _)
         | (cases den_bl a; cases den_bl b; refine ⟨rfl, k _ _ ρ (.refl _ _) R ?_⟩; simpa using Den.bl (K := K) (ρ := ρ) (H := H) _))
theorem p_ne : Op2 K (rNeA K) (oB oNe) := by
  intro ρ h H x y dx dy d Q R a b e k
  have gen : (oB (cEqP true)) h dx dy = some d → rNeA K x y H Q := fun e => .inr (p_eqP ρ h H x y dx dy d Q R a b e k)
  cases dx <;> cases dy <;> first
    | exact gen e
    | (simp only [oB, oNe, Option.map_some] at e
       cases e
       left
       first
         | (cases den_int a; cases den_int b; refine ⟨rfl, k _ _ ρ (.refl _ _) R ?_⟩; simpa using Den.bl (K := K) (ρ := ρ) (H := H) _)
         | (cases den_str a; cases den_str b; refine ⟨rfl, k _ _ ρ (.refl _ _) R ?_⟩; simpa using Den.bl (K := K) (ρ := ρ) (H := H) _)
         | (cases den_bl a; cases den_bl b; refine ⟨rfl, k _ _ ρ (.refl _ _) R ?_⟩; simpa using Den.bl (K := K) (ρ := ρ) (H := H) _))
end
end Zm

set_option Elab.async false
set_option linter.all false
set_option maxRecDepth 100000
/-! Zh: built-ins, places, slices, comprehensions, lists that change. -/
namespace Zm
open PySem L2
section
variable {X : Cx} {K : PySem.W.Frag}

/-! ### names of built-in types -/
theorem ev_ty {x : Str} {n : String} {pos : Pos} (hm : X.mg x = none) (hv : bootBuiltins x = some (.type n)) (hg : Gl X x := by rfl) (hn : x ≠ "__name__" := by decide) (hd : (x == ("__debug__" : Str)) = false := by decide) : EV X (.Name x pos) (mC (.ty n)) :=
  pe_w (pe_bltn hg hm hv (v := .ty n) rfl hn hd) fun _ _ _ => rd_c fun _ _ => .ty n

/-! ### repr -/
def rRepr (K : PySem.W.Frag) : List V → Hp → VK → Prop := fun xs H Q => ∃ x p, xs = [x] ∧ DenP K H x p ∧ p.showable = true ∧ p.hasDict = false ∧ p.shown.length ≤ sizeLine ∧ p.depth ≤ 50 ∧ Q (.str p.shown) H
theorem call_reprP (hg : X.A.guards = some []) (hu : X.A.units + 64 < cLine) : CallR X (.builtin "repr") (rRepr X.K) := by
  intro pins s σ H xs us Q I r h
  obtain ⟨x, p, rfl, dx, h1, h2, h3, h4, q⟩ := h
  obtain ⟨u, rfl, ru⟩ := vals1 r
  obtain ⟨as, ra⟩ := reads_of I dx ru
  have fin : ∀ {a : Addr}, Reads s.heap (.ref a) p as → wpAny (model X.prog X.w) X.A (call (.builtin "repr") [.ref a]) (EP X pins σ Q) X.xe s := fun {a} ra =>
    repr_of_reads' ra h1 (fun z => by rw [h2] at z; cases z) hg (by omega) (fun _ _ e => e) (fun h' u tk hk => ⟨.str p.shown, H, I.kept hk, ⟨u, rfl⟩, q⟩) h3
  cases dx with
  | non => cases ru; exact PySem.P.repr_of_none ⟨.str _, H, I.tok _, ⟨_, rfl⟩, q⟩
  | bl b => cases ru; exact PySem.P.repr_of_bool ⟨.str _, H, I.tok _, ⟨_, rfl⟩, q⟩
  | int i =>
    obtain ⟨t, rfl⟩ := ru
    exact PySem.P.repr_of_int (by simpa [PyData.showable] using h1) ⟨.str _, H, I.tok _, ⟨_, rfl⟩, q⟩
  | str y =>
    obtain ⟨t, rfl⟩ := ru
    exact PySem.P.repr_of_str ⟨.str _, H, I.tok _, ⟨_, rfl⟩, q⟩ h3
  | tup _ _ => cases ru; exact fin ra
  | lst _ _ => cases ru; exact fin ra
def shOk (p : PyData) : Bool := p.showable && !p.hasDict && decide (p.shown.length ≤ line) && decide (p.depth ≤ 50)
def oRepr : Cells → List D → Option D
  | h, [d] => (py h d).bind fun p => bif shOk p then some (.str p.shown) else none
  | _, _ => none
theorem c_repr : OpC K (rRepr K) oRepr := by
  intro ρ h H xs dxs d Q R a e k
  cases a with
  | nil => cases e
  | cons a b =>
    cases b with
    | cons _ _ => cases e
    | nil =>
      simp only [oRepr] at e
      obtain ⟨p, e1, e2⟩ := Option.bind_eq_some_iff.mp e
      obtain ⟨c, e3⟩ := bif_some e2
      cases e3
      simp only [shOk, Bool.and_eq_true, Bool.not_eq_true', decide_eq_true_eq] at c
      exact ⟨_, p, rfl, denP_py R a e1, c.1.1.1, c.1.1.2, by rw [← line_eq]; exact c.1.2, c.2, k _ _ ρ (.refl _ _) R (.str _)⟩

/-! ### isinstance of data and built-in types -/
def tyD : D → Option String
  | .non => some "NoneType"
  | .bl _ => some "bool"
  | .int _ => some "int"
  | .str _ => some "str"
  | .tup _ => some "tuple"
  | .lst _ => some "list"
  | .frl _ => some "list"
  | .dic => some "dict"
  | .cell _ => some "list"
  | .ty _ => none
theorem tyX_of {ρ : Rho} {h : Cells} {H : Hp} {x : V} {d : D} {t : String} (R : Rel K ρ h H) (dn : Den K ρ H x d) (e : tyD d = some t) (nk : (∃ es, d = .tup es) → ∀ a, x = .ref a → ∀ vs, (∀ H, SqT K H a vs) → False) (nl : (∃ es, d = .frl es) → False) (hi : ∀ i, d = .cell i → i < h.length) : TyX K H x (.type t) := by
  cases dn with
  | non => cases e; exact .base .non
  | bl b => cases e; exact .base (.bl b)
  | int i => cases e; exact .base (.int i)
  | str y => cases e; exact .base (.str y)
  | tup r n ds =>
    cases e
    rcases r with r | ⟨o, r⟩
    · exact .base (.tup r)
    · exact .fTuple r
  | tupK r ds => exact (nk ⟨_, rfl⟩ _ rfl _ r).elim
  | lst r n ds => cases e; exact .base (.lst r)
  | frl r n ds => exact (nl ⟨_, rfl⟩).elim
  | frlK r ds => exact (nl ⟨_, rfl⟩).elim
  | dic r n => cases e; exact .base (.dK r)
  | ty n => cases e
  | cell c =>
    cases e
    have hl := hi _ rfl
    obtain ⟨vs, q, _⟩ := R.at_ _ _ _ c (List.getElem?_eq_getElem hl)
    exact .base (.lst q)
/-- a tuple of the written part, too -/
theorem tyX_tup {ρ : Rho} {H : Hp} {x : V} {ds : List D} (dn : Den K ρ H x (.tup ds)) : TyX K H x (.type "tuple") := by
  cases dn with
  | tup r n ds =>
    rcases r with r | ⟨o, r⟩
    · exact .base (.tup r)
    · exact .fTuple r
  | tupK r ds =>
    rcases r (fun _ => none) with (r | ⟨o, r⟩) | ⟨o, its, n, e1, e2, _⟩
    · cases r
    · cases r
    · exact .kTuple e1 e2
theorem tyX_frl {ρ : Rho} {H : Hp} {x : V} {ds : List D} (dn : Den K ρ H x (.frl ds)) : TyX K H x (.type "list") := by
  cases dn with
  | frl r n ds =>
    rcases r with r | ⟨o, r⟩
    · exact .base (.lst r)
    · exact .base (.frz r)
  | frlK r ds =>
    rcases r (fun _ => none) with (r | ⟨o, r⟩) | ⟨o, its, n, e1, e2, _⟩
    · cases r
    · cases r
    · exact .kList e1 e2
theorem tyX {ρ : Rho} {h : Cells} {H : Hp} {x : V} {d : D} {t : String} (R : Rel K ρ h H) (dn : Den K ρ H x d) (e : tyD d = some t) (hi : ∀ i, d = .cell i → i < h.length) : TyX K H x (.type t) := by
  cases d with
  | tup ds => cases e; exact tyX_tup dn
  | frl ds => cases e; exact tyX_frl dn
  | _ => exact tyX_of R dn e (fun ⟨_, z⟩ => by cases z) (fun ⟨_, z⟩ => by cases z) hi
def isiB (t n : String) : Option Bool :=
  if n = "int" then some (t == "int" || t == "bool") else if n = "bool" then some (t == "bool") else if n = "tuple" then some (t == "tuple") else if n = "str" then some (t == "str") else if n = "list" then some (t == "list") else none
def tyNames : List String := ["NoneType", "bool", "int", "str", "tuple", "list", "dict"]
theorem kit_isi : ∀ t ∈ tyNames, ∀ n ∈ ["int", "bool", "tuple", "str", "list"], kitB t n = isiB t n := by decide +kernel
theorem isiB_n {t n : String} {b : Bool} (h : isiB t n = some b) : n ∈ ["int", "bool", "tuple", "str", "list"] := by
  unfold isiB at h
  repeat' split at h
  all_goals first
    | (rename_i z; simp [z]; done)
    | (subst_vars; simp; done)
    | cases h
theorem tyD_n {d : D} {t : String} (h : tyD d = some t) : t ∈ tyNames := by
  cases d <;> simp only [tyD] at h <;> first | (cases h; decide) | cases h
def okCell (h : Cells) : D → Bool
  | .cell i => decide (i < h.length)
  | _ => true
def oIsi : Cells → List D → Option D
  | h, [d, .ty n] => bif okCell h d then (tyD d).bind fun t => (isiB t n).map .bl else none
  | _, _ => none
theorem c_isi : OpC K (rIsi K) oIsi := by
  intro ρ h H xs dxs d Q R a e k
  unfold oIsi at e
  split at e
  · rename_i d' n
    cases a with
    | cons a b =>
      cases b with
      | cons b c =>
        cases c
        cases hc : okCell h d' with
        | false => simp [hc] at e
        | true =>
          simp only [hc, cond_true] at e
          obtain ⟨t, e1, e2⟩ := Option.bind_eq_some_iff.mp e
          obtain ⟨r, e3, e4⟩ := Option.map_eq_some_iff.mp e2
          subst e4
          cases b
          refine ⟨_, _, .type t, .type n, r, rfl, .ty n, tyX R a e1 (fun i z => by subst z; simpa [okCell] using hc), kit_ty ?_, k _ _ ρ (.refl _ _) R (.bl _)⟩
          rw [kit_isi t (tyD_n e1) n (isiB_n e3)]
          exact e3
  · cases e

/-! ### len, int, abs, min, max, divmod, sum, all -/
def oLen : Cells → List D → Option D
  | _, [.tup ds] => some (.int ds.length)
  | _, [.lst ds] => some (.int ds.length)
  | _, [.frl ds] => some (.int ds.length)
  | h, [.cell i] => (h[i]?).map fun ds => .int ds.length
  | _, _ => none
theorem c_len : OpC K (fun xs H Q => ∃ x n, xs = [x] ∧ LenV K x H n ∧ Q (.int n) H) oLen := by
  intro ρ h H xs dxs d Q R a e k
  unfold oLen at e
  split at e
  · cases e
    cases a with
    | cons a b =>
      cases b
      obtain ⟨p, vs, rfl, hp⟩ := den_tupF a
      obtain ⟨s1, t1⟩ := hp ρ H (.refl _ _)
      exact ⟨_, _, rfl, .inr ⟨vs, s1, t1.length.symm⟩, k _ _ ρ (.refl _ _) R (.int _)⟩
  · cases e
    cases a with
    | cons a b =>
      cases b
      obtain ⟨p, vs, rfl, hp⟩ := den_lst a
      obtain ⟨s1, t1⟩ := hp ρ H (.refl _ _)
      exact ⟨_, _, rfl, .inl ⟨vs, s1, t1.length.symm⟩, k _ _ ρ (.refl _ _) R (.int _)⟩
  · cases e
    cases a with
    | cons a b =>
      cases b
      obtain ⟨p, vs, rfl, hp⟩ := den_frl a
      obtain ⟨s1, t1⟩ := hp ρ H (.refl _ _)
      exact ⟨_, _, rfl, .inl ⟨vs, s1, t1.length.symm⟩, k _ _ ρ (.refl _ _) R (.int _)⟩
  · obtain ⟨ds, e1, e2⟩ := Option.map_eq_some_iff.mp e
    cases e2
    cases a with
    | cons a b =>
      cases b
      cases a with
      | cell c =>
        obtain ⟨vs, q1, q2⟩ := R.at_ _ _ _ c e1
        exact ⟨_, _, rfl, .inl ⟨vs, SqL.of q1, q2.length.symm⟩, k _ _ ρ (.refl _ _) R (.int _)⟩
  · cases e
def oInt : Cells → List D → Option D
  | _, [.int i] => some (.int i)
  | _, [.bl b] => some (.int (if b then 1 else 0))
  | _, _ => none
theorem dens1 {ρ : Rho} {H : Hp} {xs : List V} {d : D} (a : Dens K ρ H xs [d]) : ∃ x, xs = [x] ∧ Den K ρ H x d := by
  cases a with
  | cons a b => cases b; exact ⟨_, rfl, a⟩
theorem dens2 {ρ : Rho} {H : Hp} {xs : List V} {d e : D} (a : Dens K ρ H xs [d, e]) : ∃ x y, xs = [x, y] ∧ Den K ρ H x d ∧ Den K ρ H y e := by
  cases a with
  | cons a b =>
    obtain ⟨y, rfl, b1⟩ := dens1 b
    exact ⟨_, _, rfl, a, b1⟩
theorem c_int : OpC K (fun xs H Q => (∃ i, xs = [.int i] ∧ Q (.int i) H) ∨ ∃ k, xs = [.bl k] ∧ Q (.int (if k then 1 else 0)) H) oInt := by
  intro ρ h H xs dxs d Q R a e k
  unfold oInt at e
  split at e
  · cases e
    obtain ⟨x, rfl, a1⟩ := dens1 a
    exact .inl ⟨_, by rw [den_int a1], k _ _ ρ (.refl _ _) R (.int _)⟩
  · cases e
    obtain ⟨x, rfl, a1⟩ := dens1 a
    exact .inr ⟨_, by rw [den_bl a1], k _ _ ρ (.refl _ _) R (.int _)⟩
  · cases e
def oAbs : Cells → List D → Option D
  | _, [.int i] => some (.int (if i < 0 then -i else i))
  | _, _ => none
theorem c_abs : OpC K (fun xs H Q => ∃ i, xs = [.int i] ∧ Q (.int (if i < 0 then -i else i)) H) oAbs := by
  intro ρ h H xs dxs d Q R a e k
  unfold oAbs at e
  split at e
  · cases e
    obtain ⟨x, rfl, a1⟩ := dens1 a
    exact ⟨_, by rw [den_int a1], k _ _ ρ (.refl _ _) R (.int _)⟩
  · cases e
def oMax2 : Cells → List D → Option D
  | _, [.int i, .int j] => some (.int (if j > i then j else i))
  | _, _ => none
theorem c_max2 : OpC K (fun xs H Q => ∃ i j, xs = [.int i, .int j] ∧ Q (.int (if j > i then j else i)) H) oMax2 := by
  intro ρ h H xs dxs d Q R a e k
  unfold oMax2 at e
  split at e
  · cases e
    obtain ⟨x, y, rfl, a1, b1⟩ := dens2 a
    exact ⟨_, _, by rw [den_int a1, den_int b1], k _ _ ρ (.refl _ _) R (.int _)⟩
  · cases e
def oMin2 : Cells → List D → Option D
  | _, [.int i, .int j] => some (.int (if j < i then j else i))
  | _, _ => none
theorem c_min2 : OpC K (fun xs H Q => ∃ i j, xs = [.int i, .int j] ∧ Q (.int (if j < i then j else i)) H) oMin2 := by
  intro ρ h H xs dxs d Q R a e k
  unfold oMin2 at e
  split at e
  · cases e
    obtain ⟨x, y, rfl, a1, b1⟩ := dens2 a
    exact ⟨_, _, by rw [den_int a1, den_int b1], k _ _ ρ (.refl _ _) R (.int _)⟩
  · cases e
/-- divmod: by a divisor that is no great one, or of numbers that are not too far apart -/
def dmOk (i j : Int) : Bool := decide (0 < j) && (decide (j < 1073741824) || !Builtin.divisionGoesByPylong i j)
def oDivmod : Cells → List D → Option D
  | _, [.int i, .int j] => bif dmOk i j then some (.tup [.int (i / j), .int (i % j)]) else none
  | _, _ => none
def rDm : List V → Hp → VK → Prop := fun xs H Q => ∃ i j, xs = [.int i, .int j] ∧ CDiv i j ∧ ∀ p, H p = none → Q (.ref p) (upd H p (.tup [.int (i / j), .int (i % j)]))
def rDmW : List V → Hp → VK → Prop := fun xs H Q => ∃ i j, xs = [.int i, .int j] ∧ CDivP i j ∧ ∀ p, H p = none → Q (.ref p) (upd H p (.tup [.int (i / j), .int (i % j)]))
theorem CallR.or {f : Value} {r r' : List V → Hp → VK → Prop} (h : CallR X f r) (h' : CallR X f r') : CallR X f (fun x H Q => r x H Q ∨ r' x H Q) := by
  intro pins s σ H xs us Q I r q
  rcases q with q | q
  · exact h pins s σ H xs us Q I r q
  · exact h' pins s σ H xs us Q I r q
theorem call_dm : CallR X (.builtin "divmod") (fun x H Q => rDm x H Q ∨ rDmW x H Q) := CallR.or (r := rDm) (r' := rDmW) call_divmod call_divmodW
theorem c_dm : OpC K (fun x H Q => rDm x H Q ∨ rDmW x H Q) oDivmod := by
  intro ρ h H xs dxs d Q R a e k
  unfold oDivmod at e
  split at e
  · rename_i i j
    obtain ⟨c, e⟩ := bif_some e
    cases e
    obtain ⟨x, y, rfl, a1, b1⟩ := dens2 a
    simp only [dmOk, Bool.and_eq_true, Bool.or_eq_true, Bool.not_eq_true', decide_eq_true_eq] at c
    have fin : ∀ p, H p = none → Q (.ref p) (upd H p (.tup [.int (i / j), .int (i % j)])) := fun p hp =>
      k _ _ ρ (fut_new _ hp) (R.new _ hp) (.tup (.inl upd_same) (R.out hp) (.cons (.int _) (.cons (.int _) .nil)))
    rcases c.2 with c2 | c2
    · exact .inl ⟨i, j, by rw [den_int a1, den_int b1], ⟨c.1, c2⟩, fin⟩
    · exact .inr ⟨i, j, by rw [den_int a1, den_int b1], ⟨c.1, c2⟩, fin⟩
  · cases e
def asInt : D → Option Int
  | .int i => some i
  | _ => none
def asInts : List D → Option (List Int)
  | [] => some []
  | d :: ds => (asInt d).bind fun i => (asInts ds).map fun is => i :: is
def asBs : List D → Option (List Bool)
  | [] => some []
  | d :: ds => (asB d).bind fun i => (asBs ds).map fun is => i :: is
theorem den_asInt {ρ : Rho} {H : Hp} {x : V} {d : D} {c : Int} (dn : Den K ρ H x d) (e : asInt d = some c) : x = .int c := by
  cases d <;> simp [asInt] at e
  subst e
  exact den_int dn
theorem dens_ints {ρ : Rho} {H : Hp} : ∀ {xs : List V} {ds : List D} {ns : List Int}, Dens K ρ H xs ds → asInts ds = some ns → xs = ns.map V.int
  | _, _, _, .nil, e => by cases e; rfl
  | _, _, _, .cons a b, e => by
    simp only [asInts] at e
    obtain ⟨i, e1, e2⟩ := Option.bind_eq_some_iff.mp e
    obtain ⟨is, e3, e4⟩ := Option.map_eq_some_iff.mp e2
    cases e4
    rw [den_asInt a e1, dens_ints b e3]
    rfl
theorem dens_bs {ρ : Rho} {H : Hp} : ∀ {xs : List V} {ds : List D} {ns : List Bool}, Dens K ρ H xs ds → asBs ds = some ns → xs = ns.map V.bl
  | _, _, _, .nil, e => by cases e; rfl
  | _, _, _, .cons a b, e => by
    simp only [asBs] at e
    obtain ⟨i, e1, e2⟩ := Option.bind_eq_some_iff.mp e
    obtain ⟨is, e3, e4⟩ := Option.map_eq_some_iff.mp e2
    cases e4
    rw [den_asB a e1, dens_bs b e3]
    rfl
def oSum : Cells → List D → Option D
  | _, [d] => (asL d).bind fun ds => (asInts ds).map fun ns => .int ns.sum
  | _, _ => none
theorem c_sum : OpC K (rSum K) oSum := by
  intro ρ h H xs dxs d Q R a e k
  unfold oSum at e
  split at e
  · obtain ⟨ds, e1, e2⟩ := Option.bind_eq_some_iff.mp e
    obtain ⟨ns, e3, e4⟩ := Option.map_eq_some_iff.mp e2
    cases e4
    obtain ⟨x, rfl, a1⟩ := dens1 a
    obtain ⟨p, vs, rfl, hp⟩ := den_lf a1 e1
    obtain ⟨s1, t1⟩ := hp ρ H (.refl _ _)
    rw [dens_ints t1 e3] at s1
    exact ⟨p, ns, rfl, s1, k _ _ ρ (.refl _ _) R (.int _)⟩
  · cases e
def oAll : Cells → List D → Option D
  | _, [d] => (asL d).bind fun ds => (asBs ds).map fun ns => .bl (ns.all id)
  | _, _ => none
theorem c_all : OpC K (rAll K) oAll := by
  intro ρ h H xs dxs d Q R a e k
  unfold oAll at e
  split at e
  · obtain ⟨ds, e1, e2⟩ := Option.bind_eq_some_iff.mp e
    obtain ⟨ns, e3, e4⟩ := Option.map_eq_some_iff.mp e2
    cases e4
    obtain ⟨x, rfl, a1⟩ := dens1 a
    obtain ⟨p, vs, rfl, hp⟩ := den_lf a1 e1
    obtain ⟨s1, t1⟩ := hp ρ H (.refl _ _)
    rw [dens_bs t1 e3] at s1
    exact ⟨p, ns, rfl, s1, k _ _ ρ (.refl _ _) R (.bl _)⟩
  · cases e
def oTuple : Cells → List D → Option D
  | _, [.lst ds] => some (.tup ds)
  | h, [.cell i] => (h[i]?).map .tup
  | _, _ => none

/-! ### places -/
def asSeq (h : Cells) : D → Option (List D)
  | .tup ds => some ds
  | .lst ds => some ds
  | .frl ds => some ds
  | .cell i => h[i]?
  | _ => none
def oIx : Cells → D → D → Option D
  | h, x, .int i => (asSeq h x).bind fun ds => atI ds i
  | _, _, _ => none
theorem den_atI {ρ : Rho} {H : Hp} {vs : List V} {ds : List D} {i : Int} {d : D} (a : Dens K ρ H vs ds) (e : atI ds i = some d) : ∃ v, atI vs i = some v ∧ Den K ρ H v d := by
  unfold atI at e ⊢
  obtain ⟨j, e1, e2⟩ := Option.bind_eq_some_iff.mp e
  obtain ⟨v, q1, q2⟩ := a.get e2
  exact ⟨v, by rw [a.length, e1]; exact q1, q2⟩
theorem seq_of {ρ : Rho} {h : Cells} {H : Hp} {x : V} {d : D} {ds : List D} (R : Rel K ρ h H) (dn : Den K ρ H x d) (e : asSeq h d = some ds) : ∃ a vs, x = .ref a ∧ (SqL K H a vs ∨ SqT K H a vs) ∧ Dens K ρ H vs ds := by
  cases d <;> simp only [asSeq] at e <;> try (cases e; done)
  · cases e
    obtain ⟨p, vs, rfl, hp⟩ := den_tupF dn
    exact ⟨p, vs, rfl, .inr (hp ρ H (.refl _ _)).1, (hp ρ H (.refl _ _)).2⟩
  · cases e
    obtain ⟨p, vs, rfl, hp⟩ := den_lst dn
    exact ⟨p, vs, rfl, .inl (hp ρ H (.refl _ _)).1, (hp ρ H (.refl _ _)).2⟩
  · cases e
    obtain ⟨p, vs, rfl, hp⟩ := den_frl dn
    exact ⟨p, vs, rfl, .inl (hp ρ H (.refl _ _)).1, (hp ρ H (.refl _ _)).2⟩
  · cases dn with
    | cell c =>
      obtain ⟨vs, q1, q2⟩ := R.at_ _ _ _ c e
      exact ⟨_, vs, rfl, .inl (SqL.of q1), q2⟩
theorem p_ix : Op2 K (rIx K) oIx := by
  intro ρ h H x y dx dy d Q R a b e k
  cases dy <;> simp only [oIx] at e <;> try (cases e; done)
  obtain ⟨ds, e1, e2⟩ := Option.bind_eq_some_iff.mp e
  obtain ⟨p, vs, rfl, hp, dn⟩ := seq_of R a e1
  obtain ⟨v, q1, q2⟩ := den_atI dn e2
  have := den_int b
  subst this
  rcases hp with hp | hp
  · exact .inl ⟨p, vs, _, v, rfl, rfl, hp, q1, k _ _ ρ (.refl _ _) R q2⟩
  · exact .inr (.inl ⟨p, vs, _, v, rfl, rfl, hp, q1, k _ _ ρ (.refl _ _) R q2⟩)
theorem ev_ix {a b : Expr} {pos : Pos} {f g : ME} (ha : EV X a f) (hb : EV X b g) (hs : PlainIx b := by exact fun _ _ => rfl) : EV X (.Subscript a b pos) (mBin oIx f g) :=
  pe_w (pe_ix ix_seq ha hb hs) fun _ _ _ h => rd2 h fun ρ h2 H2 x y dx dy d R a b e k => p_ix ρ h2 H2 x y dx dy d _ R a b e k
/-- slices -/
abbrev MO := MS → Option (Option Int × Cells)
def rdO (K : PySem.W.Frag) (f : MO) : TO := fun σ H Q => ∃ ρ ms o h', Rel K ρ ms.h H ∧ Slots K ρ H ms.s σ ∧ f ms = some (o, h') ∧ ∀ H' ρ', Fut ρ H ρ' H' → Rel K ρ' h' H' → Q o H'
abbrev OV (X : Cx) (e : Option Expr) (f : MO) : Prop := PO X e (rdO X.K f)
theorem po_w {e : Option Expr} {t t' : TO} (h : PO X e t) (w : ∀ σ H Q, t' σ H Q → t σ H Q) : PO X e t' := ⟨fun pins s σ H Q I q => h.run pins s σ H Q I (w σ H Q q)⟩
def mNo : MO := fun ms => some (none, ms.h)
def mSo (f : ME) : MO := fun ms => (f ms).bind fun r => (asInt r.1).map fun i => (some i, r.2)
theorem ov_no : OV X none mNo := po_w po_none fun σ H Q h => by
  obtain ⟨ρ, ms, o, h', R, S, e, q⟩ := h
  cases e
  exact q H ρ (.refl _ _) R
theorem ov_so {e : Expr} {f : ME} (h : EV X e f) : OV X (some e) (mSo f) := po_w (po_some h) fun σ H Q h => by
  obtain ⟨ρ, ms, o, h', R, S, e, q⟩ := h
  obtain ⟨⟨d, h1⟩, e1, e2⟩ := Option.bind_eq_some_iff.mp e
  obtain ⟨i, e3, e4⟩ := Option.map_eq_some_iff.mp e2
  cases e4
  cases d <;> simp only [asInt] at e3 <;> try (cases e3; done)
  cases e3
  exact ⟨ρ, ms, _, _, R, S, e1, fun v H1 ρ1 F1 R1 dn => ⟨_, den_int dn, q H1 ρ1 F1 R1⟩⟩
def cutD (ds : List D) (lo hi : Option Int) : List D := (ds.drop (HT.sIx ds.length 0 lo)).take (HT.sIx ds.length ds.length hi - HT.sIx ds.length 0 lo)
theorem den_cut {ρ : Rho} {H : Hp} {vs : List V} {ds : List D} (a : Dens K ρ H vs ds) (lo hi : Option Int) : Dens K ρ H (cutV vs lo hi) (cutD ds lo hi) := by
  unfold cutV cutD
  rw [a.length]
  exact (a.drop _).take _
def oSl (h : Cells) (x : D) (lo hi : Option Int) : Option D := match x with
  | .tup ds => some (.tup (cutD ds lo hi))
  | .lst ds => some (.lst (cutD ds lo hi))
  | .frl ds => some (.lst (cutD ds lo hi))
  | .cell i => (h[i]?).map fun ds => .lst (cutD ds lo hi)
  | .str z => bif decide (z.length ≤ line) then some (.str (cutS z lo hi)) else none
  | _ => none
def rSlAll (K : PySem.W.Frag) : V → Option Int → Option Int → Hp → VK → Prop := fun x lo hi H Q => rSlL K x lo hi H Q ∨ rSlA K x lo hi H Q ∨ rSlS x lo hi H Q
theorem sl_all : SlR X (rSlAll X.K) := sl_list.or (sl_tupA.or sl_str)
def mSl (f : ME) (lo hi : MO) : ME := fun ms => (f ms).bind fun r => (lo { ms with h := r.2 }).bind fun l => (hi { ms with h := l.2 }).bind fun u => (oSl u.2 r.1 l.1 u.1).map fun d => (d, u.2)
theorem cut_full {α : Type} (ds : List α) (lo hi : Option Int) (h : HT.sIx ds.length 0 lo = 0 ∧ HT.sIx ds.length ds.length hi = ds.length) : (ds.drop (HT.sIx ds.length 0 lo)).take (HT.sIx ds.length ds.length hi - HT.sIx ds.length 0 lo) = ds := by
  rw [h.1, h.2]; simp
theorem ev_slice {e : Expr} {lo hi : Option Expr} {p2 pos : Pos} {f : ME} {l u : MO} (he : EV X e f) (hl : OV X lo l) (hu : OV X hi u) : EV X (.Subscript e (.Slice lo hi none p2) pos) (mSl f l u) := by
  refine pe_w (pe_slice sl_all he hl hu) fun σ H Q h => ?_
  obtain ⟨ρ, ms, d, h', R, S, e, q⟩ := h
  obtain ⟨⟨dx, h1⟩, e1, e2⟩ := Option.bind_eq_some_iff.mp e
  obtain ⟨⟨lo', h2⟩, e3, e4⟩ := Option.bind_eq_some_iff.mp e2
  obtain ⟨⟨hi', h3⟩, e5, e6⟩ := Option.bind_eq_some_iff.mp e4
  obtain ⟨y, e7, e8⟩ := Option.map_eq_some_iff.mp e6
  cases e8
  refine ⟨ρ, ms, dx, h1, R, S, e1, fun x H1 ρ1 F1 R1 d1 => ?_⟩
  refine ⟨ρ1, { ms with h := h1 }, lo', h2, R1, S.fut F1, e3, fun H2 ρ2 F2 R2 => ?_⟩
  refine ⟨ρ2, { ms with h := h2 }, hi', _, R2, (S.fut F1).fut F2, e5, fun H3 ρ3 F3 R3 => ?_⟩
  have dn := (d1.fut F2).fut F3
  have F := (F1.trans F2).trans F3
  cases dx <;> simp only [oSl] at e7 <;> try (cases e7; done)
  · obtain ⟨c, e7⟩ := bif_some e7
    cases e7
    rw [den_str dn]
    exact .inr (.inr ⟨_, rfl, by rw [← line_eq]; exact of_decide_eq_true c, q _ H3 ρ3 F R3 (.str _)⟩)
  · cases e7
    rename_i ds
    obtain ⟨p, vs, rfl, hp⟩ := den_tupF dn
    obtain ⟨s1, t1⟩ := hp ρ3 H3 (.refl _ _)
    refine .inr (.inl ⟨p, vs, rfl, s1, fun z => ?_, fun _ o ho => ?_⟩)
    · rw [t1.length] at z
      have : cutD ds lo' hi' = ds := cut_full ds lo' hi' z
      exact q _ H3 ρ3 F R3 (by rw [this]; exact dn)
    · exact q _ _ ρ3 (F.trans (fut_new _ ho)) (R3.new _ ho) (.tup (.inl upd_same) (R3.out ho) ((den_cut t1 _ _).fut (fut_new _ ho)))
  · cases e7
    obtain ⟨p, vs, rfl, hp⟩ := den_lst dn
    obtain ⟨s1, t1⟩ := hp ρ3 H3 (.refl _ _)
    exact .inl ⟨p, vs, rfl, s1, fun o ho => q _ _ ρ3 (F.trans (fut_new _ ho)) (R3.new _ ho) (.lst upd_same (R3.out ho) ((den_cut t1 _ _).fut (fut_new _ ho)))⟩
  · cases e7
    obtain ⟨p, vs, rfl, hp⟩ := den_frl dn
    obtain ⟨s1, t1⟩ := hp ρ3 H3 (.refl _ _)
    exact .inl ⟨p, vs, rfl, s1, fun o ho => q _ _ ρ3 (F.trans (fut_new _ ho)) (R3.new _ ho) (.lst upd_same (R3.out ho) ((den_cut t1 _ _).fut (fut_new _ ho)))⟩
  · obtain ⟨ds, e9, e10⟩ := Option.map_eq_some_iff.mp e7
    subst e10
    cases dn with
    | cell c =>
      obtain ⟨vs, q1, q2⟩ := R3.at_ _ _ _ c e9
      exact .inl ⟨_, vs, rfl, SqL.of q1, fun o ho => q _ _ ρ3 (F.trans (fut_new _ ho)) (R3.new _ ho) (.lst upd_same (R3.out ho) ((den_cut q2 _ _).fut (fut_new _ ho)))⟩

/-! ### lists that change -/
theorem fut_wr {ρ : Rho} {H : Hp} {a : Addr} {i : Nat} (o : HO) (h : ρ.c[i]? = some a) : Fut ρ H ρ (upd H a o) :=
  .mk1 fun b u n e => by rw [upd_ne (fun z => n (by rw [z]; exact List.mem_of_getElem? h))]; exact e
theorem Rel.wr {ρ : Rho} {h : Cells} {H : Hp} (R : Rel K ρ h H) {a : Addr} {i : Nat} {vs : List V} {ds : List D} (e : ρ.c[i]? = some a) (dn : Dens K ρ H vs ds) : Rel K ρ (h.set i ds) (upd H a (.lst vs)) := by
  have F := fut_wr (H := H) (.lst vs) e
  refine ⟨by simp [R.len], R.nd, R.apart, fun b hb => ?_, fun j b es e1 e2 => ?_⟩
  · obtain ⟨o, q⟩ := R.hidden b hb
    by_cases hba : b = a
    · subst hba; exact ⟨_, upd_same⟩
    · exact ⟨o, by rw [upd_ne hba]; exact q⟩
  by_cases hj : j = i
  · subst hj
    rw [e] at e1
    cases e1
    have hl : j < h.length := by
      obtain ⟨z, _⟩ := List.getElem?_eq_some_iff.mp e
      rw [← R.len]; exact z
    rw [List.getElem?_set_self hl] at e2
    cases e2
    exact ⟨vs, upd_same, dn.fut F⟩
  · rw [List.getElem?_set_ne (Ne.symm hj)] at e2
    obtain ⟨ws, q1, q2⟩ := R.at_ j b es e1 e2
    refine ⟨ws, ?_, q2.fut F⟩
    rw [upd_ne ?_]
    · exact q1
    · rintro rfl
      obtain ⟨z1, w1⟩ := List.getElem?_eq_some_iff.mp e
      obtain ⟨z2, w2⟩ := List.getElem?_eq_some_iff.mp e1
      exact hj ((List.getElem_inj R.nd).mp (w2.trans w1.symm))
def mApp (f : ME) (g : MA) : ME := fun ms => (f ms).bind fun r => (g { ms with h := r.2 }).bind fun s => match r.1, s.1 with
  | .cell i, [d] => (s.2[i]?).bind fun ds => bif decide (ds.length < line) then some (.non, s.2.set i (ds ++ [d])) else none
  | _, _ => none
theorem ev_app {o e : Expr} {apos cpos : Pos} {f : ME} {g : MA} (ho : EV X o f) (ha : AV X [e] g) (hbase : attributeBase o "append" X.env (eval o X.env) = eval o X.env := by rfl)
    (hfew : ((backTo cpos (starEach [e] X.env)).all (fun x => !x.1) && (backToKw cpos (keywordEach [] X.env)).all (fun x => x.1.isSome)
      && decide (([e] : List Expr).length + ([] : List Keyword).length + (if ([] : List Keyword).isEmpty then 0 else 1) < 30)) = true := by rfl)
    (hline : (apos.endLine == cpos.line) = true := by rfl) (hs : starEach [e] X.env = (false, eval e X.env) :: starEach [] X.env := by rfl) (hplain : (backTo cpos (starEach [] X.env)).any (·.1) = false := by rfl) :
    EV X (.Call (.Attribute o "append" apos) [e] [] cpos) (mApp f g) := by
  refine pe_w (pe_bm PySem.F.plainAttrs_list PySem.F.slot_list_append PySem.F.type_list_append mt_append ho ha hbase hfew hline hs hplain) fun σ H Q h => ?_
  obtain ⟨ρ, ms, d, h', R, S, e, q⟩ := h
  obtain ⟨⟨dx, h1⟩, e1, e2⟩ := Option.bind_eq_some_iff.mp e
  obtain ⟨⟨ds, h2⟩, e3, e4⟩ := Option.bind_eq_some_iff.mp e2
  dsimp only at e4
  split at e4
  · rename_i i d1
    obtain ⟨es, e5, e6⟩ := Option.bind_eq_some_iff.mp e4
    obtain ⟨c, e7⟩ := bif_some e6
    cases e7
    refine ⟨ρ, ms, .cell i, h1, R, S, e1, fun x H1 ρ1 F1 R1 dn1 => ?_⟩
    have dn1' := dn1
    cases dn1 with
    | cell g1 =>
      rename_i a
      have hl : i < h1.length := by
        obtain ⟨z, _⟩ := List.getElem?_eq_some_iff.mp g1
        rw [← R1.len]; exact z
      obtain ⟨vs0, q0, _⟩ := R1.at_ _ _ _ g1 (List.getElem?_eq_getElem hl)
      refine ⟨Or.inl ⟨rfl, _, SqL.of q0⟩, ρ1, { ms with h := h1 }, [d1], h2, R1, S.fut F1, e3, fun xs H2 ρ2 F2 R2 dn2 => ?_⟩
      obtain ⟨x2, rfl, dn3⟩ := dens1 dn2
      have g2 := F2.cellAt g1
      obtain ⟨vs, q1, q2⟩ := R2.at_ _ _ _ g2 e5
      refine ⟨a, vs, x2, rfl, rfl, q1, by rw [q2.length, ← line_eq]; exact of_decide_eq_true c, ?_⟩
      exact q _ _ ρ2 ((F1.trans F2).trans (fut_wr _ g2)) (R2.wr g2 (q2.append (.cons dn3 .nil))) .non
  · cases e4
/-- o[i] = v -/
def gSubD (f g : ME) : MG := fun d ms => (f ms).bind fun r => (g { ms with h := r.2 }).bind fun s => match r.1, s.1 with
  | .cell c, .int k => (s.2[c]?).bind fun ds => (ixN ds.length k).map fun j => { ms with h := s.2.set c (ds.set j d) }
  | _, _ => none
theorem gv_sub {o i : Expr} {pos : Pos} {f g : ME} (ho : EV X o f) (hi : EV X i g)
    (ha : ∀ v, assign (.Subscript o i pos) X.env v = (do
      let ov ← holding [v] (eval o X.env)
      let iv ← holding [v, ov] (eval i X.env)
      standAt pos
      holding [v, ov, iv] (setItem ov iv v)
      release [v, ov, iv] []) := by intro _; rfl) : GV X (.Subscript o i pos) (gSubD f g) := by
  refine pg_w (pg_sub ho hi set_list ha) fun v σ H Q h => ?_
  obtain ⟨ρ, ms, d, ms', R, S, dn, e, q⟩ := h
  obtain ⟨⟨dx, h1⟩, e1, e2⟩ := Option.bind_eq_some_iff.mp e
  obtain ⟨⟨dy, h2⟩, e3, e4⟩ := Option.bind_eq_some_iff.mp e2
  dsimp only at e4
  split at e4
  · rename_i c k
    obtain ⟨ds, e5, e6⟩ := Option.bind_eq_some_iff.mp e4
    obtain ⟨j, e7, e8⟩ := Option.map_eq_some_iff.mp e6
    cases e8
    refine ⟨ρ, ms, .cell c, h1, R, S, e1, fun x H1 ρ1 F1 R1 dn1 => ?_⟩
    refine ⟨ρ1, { ms with h := h1 }, .int k, h2, R1, S.fut F1, e3, fun y H2 ρ2 F2 R2 dn2 => ?_⟩
    have dn1 := dn1.fut F2
    cases dn1 with
    | cell g1 =>
      obtain ⟨vs, q1, q2⟩ := R2.at_ _ _ _ g1 e5
      have F := F1.trans F2
      refine ⟨_, vs, k, j, rfl, den_int dn2, q1, by rw [q2.length]; exact e7, ?_⟩
      exact q _ ρ2 σ (F.trans (fut_wr _ g1)) (R2.wr g1 (q2.set (dn.fut F) j)) (S.fut (F.trans (fut_wr _ g1)))
  · cases e4
/-- a, b = x, y and a, b, c = x, y, z, plain names -/
def mPar (i j : Nat) (f : MA) : MB := fun ms => (f ms).bind fun r => match r.1 with
  | [x, y] => some (.nx, ⟨(ms.s.set i (some x)).set j (some y), r.2⟩)
  | _ => none
theorem bv_par {x y : Str} {a b : Expr} {f : MA} {px py pt pos : Pos} {kt k2 pt2} (i j : Nat) (hc : X.calm = true) (hN : X.N.Nodup) (ha : AV X [a, b] f) (hi : X.N[i]? = some x := by rfl) (hj : X.N[j]? = some y := by rfl) (hij : i ≠ j := by decide)
    (hx : X.env.scope.names.lookup x = some .local := by rfl) (hy : X.env.scope.names.lookup y = some .local := by rfl)
    (hw : swappedStores [.Tuple [.Name x px, .Name y py] kt pt] (.Tuple [a, b] k2 pt2) X.env = pure (some [x, y]) := by rfl)
    (hs : swapsWithSole [.Tuple [.Name x px, .Name y py] kt pt] (.Tuple [a, b] k2 pt2) pos.line X.env = pure false := by rfl) :
    BV X (.Assign [.Tuple [.Name x px, .Name y py] kt pt] (.Tuple [a, b] k2 pt2) pos) (mPar i j f) := by
  refine ps_w (ps_par hc hN hi hj hij hx hy ha hw hs) fun D σ H h => ?_
  obtain ⟨ρ, ms, o, ms', R, S, e, q⟩ := h
  obtain ⟨⟨ds, h1⟩, e1, e2⟩ := Option.bind_eq_some_iff.mp e
  dsimp only at e2
  split at e2
  · cases e2
    refine ⟨ρ, ms, _, h1, R, S, e1, fun vs H1 ρ1 F1 R1 dn => ?_⟩
    obtain ⟨u, v, rfl, du, dv⟩ := dens2 dn
    exact ⟨u, v, rfl, q H1 ρ1 F1 R1 _ (((S.fut F1).set i du).set j dv)⟩
  · cases e2
def mPar3 (i j l : Nat) (f : MA) : MB := fun ms => (f ms).bind fun r => match r.1 with
  | [x, y, z] => some (.nx, ⟨((ms.s.set i (some x)).set j (some y)).set l (some z), r.2⟩)
  | _ => none
theorem bv_par3 {x y z : Str} {a b c : Expr} {f : MA} {px py pz pt pos : Pos} {kt k2 pt2} (i j l : Nat) (hc : X.calm = true) (hN : X.N.Nodup) (ha : AV X [a, b, c] f) (hi : X.N[i]? = some x := by rfl) (hj : X.N[j]? = some y := by rfl) (hl : X.N[l]? = some z := by rfl) (hij : i ≠ j := by decide) (hil : i ≠ l := by decide) (hjl : j ≠ l := by decide)
    (hx : X.env.scope.names.lookup x = some .local := by rfl) (hy : X.env.scope.names.lookup y = some .local := by rfl) (hz : X.env.scope.names.lookup z = some .local := by rfl)
    (hw : swappedStores [.Tuple [.Name x px, .Name y py, .Name z pz] kt pt] (.Tuple [a, b, c] k2 pt2) X.env = pure (some [x, y, z]) := by rfl)
    (hs : swapsWithSole [.Tuple [.Name x px, .Name y py, .Name z pz] kt pt] (.Tuple [a, b, c] k2 pt2) pos.line X.env = pure false := by rfl) :
    BV X (.Assign [.Tuple [.Name x px, .Name y py, .Name z pz] kt pt] (.Tuple [a, b, c] k2 pt2) pos) (mPar3 i j l f) := by
  refine ps_w (ps_par3 hc hN hi hj hl hij hil hjl hx hy hz ha hw hs) fun D σ H h => ?_
  obtain ⟨ρ, ms, o, ms', R, S, e, q⟩ := h
  obtain ⟨⟨ds, h1⟩, e1, e2⟩ := Option.bind_eq_some_iff.mp e
  dsimp only at e2
  split at e2
  · cases e2
    refine ⟨ρ, ms, _, h1, R, S, e1, fun vs H1 ρ1 F1 R1 dn => ?_⟩
    cases dn with
    | cons du dn =>
      obtain ⟨v, w, rfl, dv, dw⟩ := dens2 dn
      exact ⟨_, v, w, rfl, q H1 ρ1 F1 R1 _ ((((S.fut F1).set i du).set j dv).set l dw)⟩
  · cases e2
/-- name += e of ints -/
def mAugI (i : Nat) (p : Int → Int → Int) (f : ME) : MB := fun ms => match ms.s[i]? with
  | some (some (.int a)) => (f ms).bind fun r => match r.1 with
    | .int b => some (.nx, ⟨ms.s.set i (some (.int (p a b))), r.2⟩)
    | _ => none
  | _ => none
theorem bv_augI {x : Str} {e : Expr} {op : Operator} {p : Int → Int → Int} {pos pos' : Pos} {f : ME} (i : Nat) (hN : X.N.Nodup) (ho : OpR X (inplaceOp op) (rI0 fun i j => .int (p i j))) (he : EV X e f) (hi : X.N[i]? = some x := by rfl) (hx : Loc X.env.scope x := by first | exact Or.inl rfl | exact Or.inr rfl)
    (hf : X.fn x = true ∨ X.env.scope.names.lookup x = some .local := by first | exact .inl rfl | exact .inr rfl) : BV X (.AugAssign (.Name x pos') op e pos) (mAugI i p f) := by
  have ho' : PIp X op (fun x y H Q => ∃ i j, x = .int i ∧ y = .int j ∧ Q (.int (p i j)) H) := fun pins s σ H x y v u Q I rx ry t => ho pins s σ H x y v u Q I rx ry t
  refine ps_w (ps_aug hN hi hx he ho' hf) fun D σ H h => ?_
  obtain ⟨ρ, ms, o, ms', R, S, e, q⟩ := h
  unfold mAugI at e
  split at e
  · rename_i a ha
    obtain ⟨⟨d, h1⟩, e1, e2⟩ := Option.bind_eq_some_iff.mp e
    dsimp only at e2
    split at e2
    · rename_i b
      cases e2
      obtain ⟨v, g1, g2⟩ := S.2 i _ ha
      refine ⟨v, g1, ρ, ms, _, h1, R, S, e1, fun y H1 ρ1 F1 R1 dn => ⟨a, b, den_int g2, den_int dn, ?_⟩⟩
      exact q H1 ρ1 F1 R1 _ ((S.fut F1).set i (.int _))
    · cases e2
  · cases e
end
end Zm

set_option Elab.async false
set_option linter.all false
set_option maxRecDepth 100000
/-! Zi: comprehensions; more walks. -/
namespace Zm
open PySem L2
section
variable {X : Cx} {K : PySem.W.Frag}

/-! ### comprehensions -/
theorem wipe_get (σ : L2.St) (j : Nat) : ∀ vs : List Nat, (wipe σ vs)[j]? = if j ∈ vs then (if j < σ.length then some none else none) else σ[j]?
  | [] => by simp [wipe]
  | v :: vs => by
    have ih := wipe_get σ j vs
    show ((wipe σ vs).set v none)[j]? = _
    by_cases e : v = j
    · subst e
      by_cases hl : v < σ.length
      · rw [List.getElem?_set_self (by rw [wipe_length]; exact hl)]; simp [hl]
      · rw [List.getElem?_eq_none (by rw [List.length_set, wipe_length]; omega)]; simp [hl]
    · rw [List.getElem?_set_ne e, ih]
      simp [Ne.symm e]
theorem wipe_set {σ : L2.St} {i : Nat} {x : Option V} {vs : List Nat} (h : i ∈ vs) : wipe (σ.set i x) vs = wipe σ vs := by
  apply List.ext_getElem?
  intro j
  rw [wipe_get, wipe_get]
  by_cases hj : j ∈ vs
  · simp [hj]
  · simp only [hj, if_false]
    rw [List.getElem?_set_ne (fun z => hj (by rw [← z]; exact h))]
/-- a target that stores names at vs alone -/
def TgOk (K : PySem.W.Frag) (t : TG) (g : MG) (vs : List Nat) : Prop :=
  ∀ ρ ms ms' H v d (σ : L2.St) (Q : L2.St → Hp → Prop), Slots K ρ H ms.s σ → Den K ρ H v d → g d ms = some ms' → (∀ σ', wipe σ' vs = wipe σ vs → Slots K ρ H ms'.s σ' → ms'.h = ms.h → Q σ' H) → t v σ H Q
theorem tg_name {i : Nat} {vs : List Nat} (h : i ∈ vs) : TgOk K (gName i) (gN i) vs := by
  intro ρ ms ms' H v d σ Q S dn e k
  cases e
  exact k _ (wipe_set h) (S.set i dn) rfl
def TgsOk (K : PySem.W.Frag) (t : TGs) (g : MGs) (vs : List Nat) : Prop :=
  ∀ ρ ms ms' H v d (σ : L2.St) (Q : L2.St → Hp → Prop), Slots K ρ H ms.s σ → Dens K ρ H v d → g d ms = some ms' → (∀ σ', wipe σ' vs = wipe σ vs → Slots K ρ H ms'.s σ' → ms'.h = ms.h → Q σ' H) → t v σ H Q
theorem tgs_nil {vs : List Nat} : TgsOk K gNil gsNil vs := by
  intro ρ ms ms' H v d σ Q S dn e k
  cases dn with
  | nil => cases e; exact ⟨rfl, k σ rfl S rfl⟩
  | cons a b => cases e
theorem tgs_cons {t : TG} {g : MG} {ts : TGs} {gs : MGs} {vs : List Nat} (h1 : TgOk K t g vs) (h2 : TgsOk K ts gs vs) : TgsOk K (gCons t ts) (gsCons g gs) vs := by
  intro ρ ms ms' H v d σ Q S dn e k
  cases dn with
  | nil => cases e
  | cons a b =>
    obtain ⟨m1, e1, e2⟩ := Option.bind_eq_some_iff.mp e
    exact ⟨_, _, rfl, h1 ρ ms m1 H _ _ σ _ S a e1 fun σ1 w1 S1 hh1 => h2 ρ m1 ms' H _ _ σ1 _ S1 b e2 fun σ2 w2 S2 hh2 => k σ2 (w2.trans w1) S2 (hh2.trans hh1)⟩
theorem tg_tup {ts : TGs} {gs : MGs} {n : Nat} {vs : List Nat} (h : TgsOk K ts gs vs) : TgOk K (gTup K n ts) (gT n gs) vs := by
  intro ρ ms ms' H v d σ Q S dn e k
  cases d <;> simp only [gT] at e <;> try (cases e; done)
  rename_i ds
  obtain ⟨a, xs, rfl, hq, dn⟩ := den_tup dn
  cases hl : (ds.length == n) with
  | false => simp [hl] at e
  | true =>
    simp only [hl, cond_true] at e
    exact ⟨a, xs, rfl, hq, by rw [dn.length]; simpa using hl, h ρ ms ms' H _ _ σ _ S dn e k⟩
/-! a list in the making is hidden -/
def Rho.hide (ρ : Rho) (a : Addr) : Rho := ⟨ρ.c, a :: ρ.v⟩
def Rho.shows (ρ : Rho) (a : Addr) : Rho := ⟨ρ.c, ρ.v.filter fun b => decide (b ≠ a)⟩
theorem fut_hide {ρ : Rho} {H : Hp} {p : Addr} (o : HO) (hp : H p = none) (hc : p ∉ ρ.c) : Fut ρ H (ρ.hide p) (upd H p o) :=
  ⟨fun a u _ e => by rw [upd_ne (ne_of_none e hp)]; exact e, ⟨[], by simp [Rho.hide]⟩, fun _ h => List.mem_cons_of_mem _ h, fun a h => by
    rcases List.mem_cons.mp h with z | z
    · subst z; exact .inr ⟨hp, hc⟩
    · exact .inl z, fun a h n => absurd h n⟩
-- the hidden list is written
mutual
theorem Den.poke {ρ : Rho} {H : Hp} {p : Addr} {o : HO} (hp : p ∈ ρ.v) : ∀ {v : V} {d : D}, Den K ρ H v d → Den K ρ (upd H p o) v d
  | _, _, .non => .non
  | _, _, .bl b => .bl b
  | _, _, .int i => .int i
  | _, _, .str x => .str x
  | _, _, .tup (a := a) h n ds => .tup (by unfold Rd; rw [upd_ne (fun z : a = p => n (.inr (by rw [z]; exact hp)))]; exact h) n (Dens.poke hp ds)
  | _, _, .tupK h ds => .tupK h (Dens.poke hp ds)
  | _, _, .lst (a := a) h n ds => .lst (by rw [upd_ne (fun z : a = p => n (.inr (by rw [z]; exact hp)))]; exact h) n (Dens.poke hp ds)
  | _, _, .frl (a := a) h n ds => .frl (by unfold Rd; rw [upd_ne (fun z : a = p => n (.inr (by rw [z]; exact hp)))]; exact h) n (Dens.poke hp ds)
  | _, _, .frlK h ds => .frlK h (Dens.poke hp ds)
  | _, _, .ty n => .ty n
  | _, _, .dic (a := a) h n => .dic (by rw [upd_ne (fun z : a = p => n (.inr (by rw [z]; exact hp)))]; exact h) n
  | _, _, .cell h => .cell h
theorem Dens.poke {ρ : Rho} {H : Hp} {p : Addr} {o : HO} (hp : p ∈ ρ.v) : ∀ {vs : List V} {ds : List D}, Dens K ρ H vs ds → Dens K ρ (upd H p o) vs ds
  | _, _, .nil => .nil
  | _, _, .cons a b => .cons (Den.poke hp a) (Dens.poke hp b)
end
-- it is shown again
theorem Rho.showOut {ρ : Rho} {p a : Addr} (h : a ∉ ρ) : a ∉ ρ.shows p := Rho.out (Rho.notIn h).1 fun z => (Rho.notIn h).2 (List.mem_filter.mp z).1
mutual
theorem Den.shows {ρ : Rho} {H : Hp} {p : Addr} : ∀ {v : V} {d : D}, Den K ρ H v d → Den K (ρ.shows p) H v d
  | _, _, .non => .non
  | _, _, .bl b => .bl b
  | _, _, .int i => .int i
  | _, _, .str x => .str x
  | _, _, .tup h n ds => .tup h (Rho.showOut n) (Dens.shows ds)
  | _, _, .tupK h ds => .tupK h (Dens.shows ds)
  | _, _, .lst h n ds => .lst h (Rho.showOut n) (Dens.shows ds)
  | _, _, .frl h n ds => .frl h (Rho.showOut n) (Dens.shows ds)
  | _, _, .frlK h ds => .frlK h (Dens.shows ds)
  | _, _, .ty n => .ty n
  | _, _, .dic h n => .dic h (Rho.showOut n)
  | _, _, .cell h => .cell h
theorem Dens.shows {ρ : Rho} {H : Hp} {p : Addr} : ∀ {vs : List V} {ds : List D}, Dens K ρ H vs ds → Dens K (ρ.shows p) H vs ds
  | _, _, .nil => .nil
  | _, _, .cons a b => .cons (Den.shows a) (Dens.shows b)
end
theorem Rel.hide {ρ : Rho} {h : Cells} {H : Hp} (R : Rel K ρ h H) {p : Addr} (o : HO) (hp : H p = none) : Rel K (ρ.hide p) h (upd H p o) := by
  have F := fut_hide (ρ := ρ) o hp (Rho.notIn (R.out hp)).1
  refine ⟨R.len, R.nd, fun a ha z => ?_, fun a ha => ?_, fun i a ds e1 e2 => ?_⟩
  · rcases List.mem_cons.mp z with y | y
    · subst y; exact R.out hp (.inl ha)
    · exact R.apart a ha y
  · rcases List.mem_cons.mp ha with z | z
    · subst z; exact ⟨_, upd_same⟩
    · exact (R.new o hp).hidden a z
  · obtain ⟨vs, q, dn⟩ := R.at_ i a ds e1 e2
    exact ⟨vs, by rw [upd_ne (ne_of_none q hp)]; exact q, dn.fut F⟩
theorem Rel.poke {ρ : Rho} {h : Cells} {H : Hp} (R : Rel K ρ h H) {p : Addr} (o : HO) (hp : p ∈ ρ.v) : Rel K ρ h (upd H p o) :=
  ⟨R.len, R.nd, R.apart, fun a ha => by
    by_cases z : a = p
    · subst z; exact ⟨_, upd_same⟩
    · obtain ⟨u, q⟩ := R.hidden a ha
      exact ⟨u, by rw [upd_ne z]; exact q⟩, fun i a ds e1 e2 => by
    obtain ⟨vs, q, dn⟩ := R.at_ i a ds e1 e2
    exact ⟨vs, by rw [upd_ne (fun z => R.apart a (List.mem_of_getElem? e1) (by rw [z]; exact hp))]; exact q, dn.poke hp⟩⟩
theorem Rel.shows {ρ : Rho} {h : Cells} {H : Hp} {p : Addr} (R : Rel K ρ h H) : Rel K (ρ.shows p) h H :=
  ⟨R.len, R.nd, fun a ha z => R.apart a ha (List.mem_filter.mp z).1, fun a ha => R.hidden a (List.mem_filter.mp ha).1, fun i a ds e1 e2 => by
    obtain ⟨vs, q, dn⟩ := R.at_ i a ds e1 e2
    exact ⟨vs, q, dn.shows⟩⟩
def wipeD (l : List (Option D)) (vs : List Nat) : List (Option D) := vs.foldr (fun v l => l.set v none) l
def mCompL (g : MG) (t : MT) (e : ME) (w : List (Option D)) : List D → Cells → Option (List D × Cells)
  | [], h => some ([], h)
  | d :: ds, h => (g d ⟨w, h⟩).bind fun m1 => (t m1).bind fun b => bif b.1 then (e ⟨m1.s, b.2⟩).bind fun y => (mCompL g t e w ds y.2).map fun r => (y.1 :: r.1, r.2) else mCompL g t e w ds b.2
def mComp (f : MI) (g : MG) (t : MT) (e : ME) (vs : List Nat) : ME := fun ms => (f ms).bind fun r => (mCompL g t e (wipeD ms.s vs) r.1 r.2).bind fun q => bif decide (q.1.length ≤ line) then some (.lst q.1, q.2) else none
def mYes : MT := fun ms => some (true, ms.h)
theorem rd_yes {σ : L2.St} {H : Hp} {Q : Bool → Hp → Prop} (h : rdT K mYes σ H Q) : tYes σ H Q := by
  obtain ⟨ρ, ms, b, h', R, S, e, q⟩ := h
  cases e
  exact q H ρ (.refl _ _) R
theorem pts_w {es : List Expr} {t t' : TT} (h : PTs X es t) (w : ∀ σ H Q, t' σ H Q → t σ H Q) : PTs X es t' := ⟨fun pins s σ H Q I q => h.run pins s σ H Q I (w σ H Q q)⟩
theorem tvs_nil : PTs X [] (rdT X.K mYes) := pts_w pts_nil fun _ _ _ => rd_yes
theorem tvs_one {c : Expr} {f : MT} (h : TV X c f) : PTs X [c] (rdT X.K f) := pts_one h
theorem rd_lc {f : MI} {g : MG} {tG : TG} {t : MT} {e : ME} {vs : List Nat} (hG : TgOk K tG g vs) {σ : L2.St} {H : Hp} {Q : VK} (h : rdE K (mComp f g t e vs) σ H Q) : tLc (rdI K f) tG (rdT K t) (rdE K e) vs σ H Q := by
  obtain ⟨ρ, ms, d, h', R, S, e0, q⟩ := h
  obtain ⟨⟨ds, h1⟩, e1, e2⟩ := Option.bind_eq_some_iff.mp e0
  obtain ⟨⟨out, h2⟩, e3, e4⟩ := Option.bind_eq_some_iff.mp e2
  obtain ⟨hz, e5⟩ := bif_some e4
  cases e5
  have hz' : out.length ≤ line := of_decide_eq_true hz
  refine ⟨ρ, ms, ds, h1, R, S, e1, fun J H1 ρ1 F1 R1 Y Ad hAd => ?_⟩
  have nAc : Ad ∉ ρ1.c := (Rho.notIn (R1.out hAd)).1
  refine ⟨fun i m H2 => m = ds.length - i ∧ i ≤ ds.length ∧ ∃ ρ2 hh acc dacc rest, Fut ρ1 H1 ρ2 H2 ∧ Rel K ρ2 hh H2 ∧ H2 Ad = some (.lst acc) ∧ Ad ∈ ρ2.v ∧ Dens K ρ2 H2 acc dacc ∧ mCompL g t e (wipeD ms.s vs) (ds.drop i) hh = some (rest, h2) ∧ dacc ++ rest = out,
    ⟨_, rfl, Nat.zero_le _, ρ1.hide Ad, h1, [], [], out, fut_hide _ hAd nAc, R1.hide _ hAd, upd_same, List.mem_cons_self, .nil, e3, rfl⟩, ?_⟩
  rintro i m H2 ⟨rfl, hi, ρ2, hh, acc, dacc, rest, F2, R2, hA, nA, dn, e6, e7⟩
  obtain ⟨ystop, ygo⟩ := Y i ρ2 H2 hh F2 R2
  by_cases hl : i < ds.length
  · right
    obtain ⟨g1, g2⟩ := ygo _ (List.getElem?_eq_getElem hl)
    rw [List.drop_eq_getElem_cons hl] at e6
    simp only [mCompL] at e6
    obtain ⟨m1, e8, e9⟩ := Option.bind_eq_some_iff.mp e6
    obtain ⟨⟨b, hb⟩, e10, e11⟩ := Option.bind_eq_some_iff.mp e9
    refine ⟨g1, fun H3 => ∃ ρ2 hh acc dacc rest, Fut ρ1 H1 ρ2 H3 ∧ Rel K ρ2 hh H3 ∧ H3 Ad = some (.lst acc) ∧ Ad ∈ ρ2.v ∧ Dens K ρ2 H3 acc dacc ∧ mCompL g t e (wipeD ms.s vs) (ds.drop (i + 1)) hh = some (rest, h2) ∧ dacc ++ rest = out, fun H' w => ⟨ds.length - (i + 1), by omega, rfl, hl, w⟩, fun x H' y => ?_⟩
    obtain ⟨Fy, Ry, dy⟩ := g2 x H' y
    have Fs : Fut ρ H ρ2 H' := F1.trans (F2.trans Fy)
    have nc2 : Ad ∉ ρ2.c := fun z => R2.apart Ad z nA
    have hA' := Fy.keep _ _ nc2 hA
    refine hG ρ2 ⟨wipeD ms.s vs, hh⟩ m1 H' x _ _ _ ((S.fut Fs).wipe vs) dy e8 fun σ3 hw S3 hh3 => ⟨?_, ?_⟩
    · apply List.ext_getElem?
      intro j
      have hw2 := congrArg (fun l => l[j]?) hw
      simp only [wipe_get, wipe_length] at hw2 ⊢
      by_cases hj : j ∈ vs
      · simpa [hj] using hw2
      · simpa [hj] using hw2
    · refine ⟨ρ2, m1, b, hb, by rw [hh3]; exact Ry, S3, e10, fun H4 ρ4 F4 R4 => ?_⟩
      have hA4 := F4.keep _ _ nc2 hA'
      have nA4 : Ad ∈ ρ4.v := F4.sub _ nA
      have nc4 : Ad ∉ ρ4.c := fun z => R4.apart Ad z nA4
      cases b with
      | false =>
        exact iteF ⟨ρ4, hb, acc, dacc, rest, (F2.trans Fy).trans F4, R4, hA4, nA4, (dn.fut Fy).fut F4, e11, e7⟩
      | true =>
        obtain ⟨⟨y, hy⟩, e12, e13⟩ := Option.bind_eq_some_iff.mp e11
        obtain ⟨⟨r2, h6⟩, e14, e15⟩ := Option.map_eq_some_iff.mp e13
        cases e15
        refine iteT ⟨ρ4, ⟨m1.s, hb⟩, y, hy, R4, S3.fut F4, e12, fun v H5 ρ5 F5 R5 dv => ?_⟩
        have hA5 := F5.keep _ _ nc4 hA4
        have nA5 : Ad ∈ ρ5.v := F5.sub _ nA4
        have F15 := ((F2.trans Fy).trans F4).trans F5
        have dn5 := (dn.fut (Fy.trans F4)).fut F5
        have hlen : acc.length < sizeLine := by
          rw [dn.length, ← line_eq]
          have : (dacc ++ y :: r2).length ≤ line := by rw [e7]; exact hz'
          simp at this
          omega
        refine ⟨acc, hA5, hlen, ρ5, hy, acc ++ [v], dacc ++ [y], r2, ?_, R5.poke _ nA5, upd_same, nA5, ?_, e14, by simpa using e7⟩
        · refine ⟨fun a o n e => ?_, F15.ext, F15.sub, F15.hid, F15.fresh⟩
          rw [upd_ne (ne_of_none e hAd)]
          exact F15.keep a o n e
        · exact Dens.append (dn5.poke nA5) (.cons (dv.poke nA5) .nil)
  · left
    have hie : i = ds.length := by omega
    rw [List.drop_eq_nil_of_le (Nat.le_of_not_lt hl)] at e6
    cases e6
    refine ⟨ystop (Nat.le_of_not_lt hl), ?_⟩
    rw [List.append_nil] at e7
    subst e7
    have F3 : Fut ρ1 H1 (ρ2.shows Ad) H2 := ⟨F2.keep, F2.ext, fun a ha => List.mem_filter.mpr ⟨F2.sub a ha, decide_eq_true fun z => by
      obtain ⟨o, q⟩ := R1.hidden a ha
      rw [z, hAd] at q; cases q⟩, fun a ha => F2.hid a (List.mem_filter.mp ha).1, F2.fresh⟩
    refine q _ H2 (ρ2.shows Ad) (F1.trans F3) R2.shows (.lst hA (Rho.out (fun z => R2.apart Ad z nA) fun z => ?_) dn.shows)
    have := of_decide_eq_true (List.mem_filter.mp z).2
    exact this rfl
/-- [e for tg in src if t] -/
theorem ev_lc {elt tg iter : Expr} {ifs : List Expr} {scope : Scope} {own : List (Str × Nat)} {vs : List Nat} {pos : Pos} {f : MI} {g : MG} {tG : TG} {t : MT} {e : ME} (hc : X.calm = true) (hN : X.N.Nodup) (hi : IV X tg iter f) (hG : TgOk X.K tG g vs) (ok : BlkOk X.N X.env.scope scope own) (hvs : own.map (·.2) = vs)
    (hg : ∀ (s : Shared) (H : Hp) (C : Addr) (cl : List (Str × Addr)) (fp : List Addr), PG (X.blk s H scope (compEnvC scope cl C X.env) fp) tg tG) (ht : ∀ (s : Shared) (H : Hp) (C : Addr) (cl : List (Str × Addr)) (fp : List Addr), PTs (X.blk s H scope (compEnvC scope cl C X.env) fp) ifs (rdT X.K t))
    (he : ∀ (s : Shared) (H : Hp) (C : Addr) (cl : List (Str × Addr)) (fp : List Addr), PE (X.blk s H scope (compEnvC scope cl C X.env) fp) elt (rdE X.K e)) (hs : ∀ x, foldedSetIterable iter X.env x = pure x := by intro _; rfl) :
    EV X (.ListComp elt [⟨tg, iter, ifs, 0⟩] scope pos) (mComp f g t e vs) := by
  subst hvs
  exact pe_w (pe_lc hc hN hi ok hg ht he hs) fun _ _ _ h => rd_lc hG h
theorem bv_setLc {y : Str} {py : Pos} {elt tg iter : Expr} {ifs : List Expr} {scope : Scope} {own : List (Str × Nat)} {vs : List Nat} {pos spos : Pos} {f : MI} {g : MG} {tG : TG} {t : MT} {e : ME} (i : Nat) (hc : X.calm = true) (hN : X.N.Nodup) (hi : IV X tg iter f) (hG : TgOk X.K tG g vs) (ok : BlkOk X.N X.env.scope scope own) (hvs : own.map (·.2) = vs)
    (hsw : swapsWith (.ListComp elt [⟨tg, iter, ifs, 0⟩] scope pos) (some (.Name y py)) spos.line X.env = pure true)
    (hg : ∀ (s : Shared) (H : Hp) (C : Addr) (cl : List (Str × Addr)) (fp : List Addr), PG (X.blk s H scope (compEnvC scope cl C X.env) fp) tg tG) (ht : ∀ (s : Shared) (H : Hp) (C : Addr) (cl : List (Str × Addr)) (fp : List Addr), PTs (X.blk s H scope (compEnvC scope cl C X.env) fp) ifs (rdT X.K t))
    (he : ∀ (s : Shared) (H : Hp) (C : Addr) (cl : List (Str × Addr)) (fp : List Addr), PE (X.blk s H scope (compEnvC scope cl C X.env) fp) elt (rdE X.K e)) (hy : X.N[i]? = some y := by rfl) (hyl : X.env.scope.names.lookup y = some .local := by rfl) (hs : ∀ x, foldedSetIterable iter X.env x = pure x := by intro _; rfl) :
    BV X (.Assign [.Name y py] (.ListComp elt [⟨tg, iter, ifs, 0⟩] scope pos) spos) (mAsg (mComp f g t e vs) (gN i)) := by
  subst hvs
  exact ps_w (ps_setLc hc hN hy hyl hsw hi ok hg ht he hs) fun D σ H h => rd_lc hG (by
    obtain ⟨ρ, ms, o, ms', R, S, e, q⟩ := h
    obtain ⟨r, e1, e2⟩ := Option.bind_eq_some_iff.mp e
    obtain ⟨d, h1⟩ := r
    cases e2
    exact ⟨ρ, ms, d, h1, R, S, e1, fun v H1 ρ1 F1 R1 dn => q H1 ρ1 F1 R1 _ ((S.fut F1).set i dn)⟩)
end
end Zm

set_option Elab.async false
set_option linter.all false
set_option maxRecDepth 100000
/-! Zj: more operators and walks. -/
namespace Zm
open PySem L2
section
variable {X : Cx} {K : PySem.W.Frag}

/-! ### x in a list or tuple of data -/
def rInP (K : PySem.W.Frag) (neg : Bool) : R2 := fun x y H Q => ∃ d q ds, DenP K H x d ∧ DenP K H y q ∧ (q = .list ds ∨ q = .tuple ds) ∧ SeqAt.shaped d = true ∧ SeqAt.shaped q = true ∧ Q (.bl (if neg then !ds.any fun z => PyData.eqv z d else ds.any fun z => PyData.eqv z d)) H
theorem room_in {A : Around} {d : PyData} {n : Nat} (h : SeqAt.shaped d = true) (hu : A.units + 65 < cLine) : A.units + 1 + min n d.depth < cLine := by
  have h1 := SeqAt.depth_of_shaped h
  have h2 : min n d.depth ≤ d.depth := Nat.min_le_right _ _
  omega
theorem op_inP (hu : X.A.units + 65 < cLine) : OpR X (compareOp .In) (rInP X.K false) := by
  intro pins s σ H x y v u Q I rx ry h
  obtain ⟨d, q, ds, dx, dy, hq, s1, s2, k⟩ := h
  obtain ⟨as, ra⟩ := reads_of I dx rx
  obtain ⟨bs, rb⟩ := reads_of I dy ry
  rcases hq with rfl | rfl
  · exact SeqAt.in_list_reads rb ra (SeqAt.canLay_of_shaped s2) (SeqAt.canLay_of_shaped s1) (room_in s1 hu) ⟨.bl _, H, I, rfl, k⟩
  · exact SeqAt.in_tuple_reads rb ra (SeqAt.canLay_of_shaped s2) (SeqAt.canLay_of_shaped s1) (room_in s1 hu) ⟨.bl _, H, I, rfl, k⟩
theorem op_notInP (hu : X.A.units + 65 < cLine) : OpR X (compareOp .NotIn) (rInP X.K true) := by
  intro pins s σ H x y v u Q I rx ry h
  obtain ⟨d, q, ds, dx, dy, hq, s1, s2, k⟩ := h
  obtain ⟨as, ra⟩ := reads_of I dx rx
  obtain ⟨bs, rb⟩ := reads_of I dy ry
  rcases hq with rfl | rfl
  · exact SeqAt.notIn_list_reads rb ra (SeqAt.canLay_of_shaped s2) (SeqAt.canLay_of_shaped s1) (room_in s1 hu) ⟨.bl _, H, I, rfl, k⟩
  · exact SeqAt.notIn_tuple_reads rb ra (SeqAt.canLay_of_shaped s2) (SeqAt.canLay_of_shaped s1) (room_in s1 hu) ⟨.bl _, H, I, rfl, k⟩
def itemsP : PyData → Option (List PyData)
  | .list ds => some ds
  | .tuple ds => some ds
  | _ => none
def oIn (neg : Bool) : Cells → D → D → Option Bool := fun h x y => (py h x).bind fun d => (py h y).bind fun q => (itemsP q).bind fun ds => bif SeqAt.shaped d && SeqAt.shaped q then some (if neg then !ds.any fun z => PyData.eqv z d else ds.any fun z => PyData.eqv z d) else none
theorem p_in {neg : Bool} : Op2 K (rInP K neg) (oB (oIn neg)) := by
  intro ρ h H x y dx dy d Q R a b e k
  simp only [oB, oIn] at e
  obtain ⟨z, e1, e2⟩ := Option.map_eq_some_iff.mp e
  obtain ⟨p, e3, e4⟩ := Option.bind_eq_some_iff.mp e1
  obtain ⟨q, e5, e6⟩ := Option.bind_eq_some_iff.mp e4
  obtain ⟨ds, e7, e8⟩ := Option.bind_eq_some_iff.mp e6
  obtain ⟨c, e9⟩ := bif_some e8
  subst e9
  subst e2
  rw [Bool.and_eq_true] at c
  refine ⟨p, q, ds, denP_py R a e3, denP_py R b e5, ?_, c.1, c.2, k _ _ ρ (.refl _ _) R (.bl _)⟩
  cases q <;> simp only [itemsP] at e7 <;> first | (cases e7; done) | (cases e7; first | exact .inl rfl | exact .inr rfl)

/-! ### is None -/
def isNonD : D → Bool
  | .non => true
  | _ => false
def oIsN : Cells → D → D → Option Bool
  | _, x, .non => some (isNonD x)
  | _, _, _ => none
theorem isN_of {ρ : Rho} {H : Hp} {v : V} {d : D} (a : Den K ρ H v d) : decide (v = .non) = isNonD d := by
  cases a <;> rfl
theorem p_isN : Op2 K (fun x y H Q => y = .non ∧ Q (.bl (decide (x = .non))) H) (oB oIsN) := by
  intro ρ h H x y dx dy d Q R a b e k
  cases dy <;> simp only [oB, oIsN, Option.map_none, Option.map_some] at e <;> try (cases e; done)
  cases e
  exact ⟨den_non b, by rw [isN_of a]; exact k _ _ ρ (.refl _ _) R (.bl _)⟩
def oNotN : Cells → D → D → Option Bool
  | _, x, .non => some !isNonD x
  | _, _, _ => none
theorem p_notN : Op2 K (fun x y H Q => y = .non ∧ Q (.bl (!decide (x = .non))) H) (oB oNotN) := by
  intro ρ h H x y dx dy d Q R a b e k
  cases dy <;> simp only [oB, oNotN, Option.map_none, Option.map_some] at e <;> try (cases e; done)
  cases e
  exact ⟨den_non b, by rw [isN_of a]; exact k _ _ ρ (.refl _ _) R (.bl _)⟩

/-! ### [..] * n, {}, str(n), max, min of a list -/
def oMulA : Cells → D → D → Option D
  | _, .lst ds, .int k => bif decide (-9223372036854775808 ≤ k ∧ k < 9223372036854775808 ∧ ds.length * k.toNat ≤ line) then some (.lst (List.replicate k.toNat ds).flatten) else none
  | h, x, y => oMul h x y
def rMulA : R2 := fun x y H Q => rI CMulW (fun i j => .int (i * j)) x y H Q ∨ rRep x y H Q
theorem or_mul : OpR X (binaryOp .Mult) rMulA := op_mulW.or op_rep
theorem dens_rep {ρ : Rho} {H : Hp} {vs : List V} {ds : List D} (a : Dens K ρ H vs ds) : ∀ n, Dens K ρ H (List.replicate n vs).flatten (List.replicate n ds).flatten
  | 0 => .nil
  | n + 1 => by
    rw [List.replicate_succ, List.replicate_succ, List.flatten_cons, List.flatten_cons]
    exact a.append (dens_rep a n)
theorem p_mulA : Op2 K rMulA oMulA := by
  intro ρ h H x y dx dy d Q R a b e k
  have gen : oMul h dx dy = some d → rMulA x y H Q := fun e => .inl (p_mul ρ h H x y dx dy d Q R a b e k)
  cases dx <;> cases dy <;> first
    | exact gen e
    | (simp only [oMulA] at e
       obtain ⟨c, e⟩ := bif_some e
       cases e
       obtain ⟨p, vs, rfl, hp, np, t1⟩ := den_len a
       have c' := of_decide_eq_true c
       exact .inr ⟨p, _, vs, rfl, den_int b, hp, by omega, by omega, by rw [t1.length, ← line_eq]; exact c'.2.2, fun o ho =>
         k _ _ ρ (fut_new _ ho) (R.new _ ho) (.lst upd_same (R.out ho) ((dens_rep t1 _).fut (fut_new _ ho)))⟩)
def mDic : ME := fun ms => some (.dic, ms.h)
theorem ev_dic {pos : Pos} : EV X (.Dict [] [] pos) mDic := by
  refine pe_w pe_dnewK fun σ H Q h => ?_
  obtain ⟨ρ, ms, d, h', R, S, e, q⟩ := h
  cases e
  exact fun p hp => q _ _ ρ (fut_new _ hp) (R.new _ hp) (.dic upd_same (R.out hp))
def oStr : Cells → List D → Option D
  | _, [.int i] => bif decide (i.natAbs.log2 < 1920) then some (.str (toString i)) else none
  | _, _ => none
theorem c_str : OpC K (fun xs H Q => ∃ i, xs = [.int i] ∧ i.natAbs.log2 < 1920 ∧ Q (.str (toString i)) H) oStr := by
  intro ρ h H xs dxs d Q R a e k
  unfold oStr at e
  split at e
  · obtain ⟨c, e⟩ := bif_some e
    cases e
    obtain ⟨x, rfl, a1⟩ := dens1 a
    exact ⟨_, by rw [den_int a1], of_decide_eq_true c, k _ _ ρ (.refl _ _) R (.str _)⟩
  · cases e
def maxI : Int → List Int → Int
  | a, [] => a
  | a, b :: r => maxI (if b > a then b else a) r
theorem maxI_ge : ∀ (r : List Int) (a : Int), a ≤ maxI a r ∧ ∀ y ∈ r, y ≤ maxI a r
  | [], a => ⟨Int.le_refl _, fun _ h => nomatch h⟩
  | b :: r, a => by
    obtain ⟨h1, h2⟩ := maxI_ge r (if b > a then b else a)
    have h3 : maxI a (b :: r) = maxI (if b > a then b else a) r := rfl
    rw [h3]
    refine ⟨?_, fun y hy => ?_⟩
    · split at h1 <;> split <;> omega
    · rcases List.mem_cons.mp hy with e | hy
      · subst e
        split at h1 <;> split <;> omega
      · exact h2 y hy
theorem maxI_mem : ∀ (r : List Int) (a : Int), maxI a r ∈ a :: r
  | [], a => List.mem_cons_self
  | b :: r, a => by
    have h := maxI_mem r (if b > a then b else a)
    have h3 : maxI a (b :: r) = maxI (if b > a then b else a) r := rfl
    rw [h3]
    rcases List.mem_cons.mp h with e | h
    · rw [e]; split <;> simp
    · simp [h]
def oMaxL : Cells → List D → Option D
  | _, [d] => (asL d).bind fun ds => (asInts ds).bind fun ns => match ns with
    | [] => none
    | n :: r => some (.int (maxI n r))
  | _, _ => none
theorem c_maxL : OpC K (rMax K) oMaxL := by
  intro ρ h H xs dxs d Q R a e k
  unfold oMaxL at e
  split at e
  · obtain ⟨ds, e1, e2⟩ := Option.bind_eq_some_iff.mp e
    obtain ⟨ns, e3, e4⟩ := Option.bind_eq_some_iff.mp e2
    obtain ⟨x, rfl, a1⟩ := dens1 a
    obtain ⟨p, vs, rfl, hp⟩ := den_lf a1 e1
    obtain ⟨s1, t1⟩ := hp ρ H (.refl _ _)
    rw [dens_ints t1 e3] at s1
    cases ns with
    | nil => cases e4
    | cons n r =>
      cases e4
      refine ⟨p, n :: r, rfl, s1, by simp, fun m hm hg => ?_⟩
      have : m = maxI n r := by
        obtain ⟨g1, g2⟩ := maxI_ge r n
        have g3 := hg _ (maxI_mem r n)
        rcases List.mem_cons.mp hm with e | hm
        · omega
        · have := g2 m hm; omega
      subst this
      exact k _ _ ρ (.refl _ _) R (.int _)
  · cases e

/-! ### enumerate, a range by steps -/
def enumD : Nat → List D → List D
  | _, [] => []
  | i, d :: ds => .tup [.int i, d] :: enumD (i + 1) ds
theorem enum_get : ∀ (ds : List D) (i j : Nat), (enumD i ds)[j]? = ds[j]?.map fun d => .tup [.int (i + j : Nat), d]
  | [], _, _ => by simp [enumD]
  | d :: ds, i, 0 => by simp [enumD]
  | d :: ds, i, j + 1 => by
    have h := enum_get ds (i + 1) j
    simp only [enumD, List.getElem?_cons_succ]
    rw [h]
    have e : i + 1 + j = i + (j + 1) := by omega
    rw [e]
theorem enum_len : ∀ (ds : List D) (i : Nat), (enumD i ds).length = ds.length
  | [], _ => rfl
  | _ :: ds, i => congrArg Nat.succ (enum_len ds (i + 1))
def iEn (f : MA) : MI := fun ms => (f ms).bind fun r => match r.1 with
  | [d] => (asL d).map fun ds => (enumD 0 ds, r.2)
  | _ => none
theorem iv_enum {e : Expr} {f : MA} {p pos tpos : Pos} {elts : List Expr} {kk : Nat} (hm : X.mg "enumerate" = none) (ha : AV X [e] f) (hg : Gl X "enumerate" := by rfl) (hs : starEach [e] X.env = [(false, eval e X.env)] := by rfl) :
    IV X (.Tuple elts kk tpos) (.Call (.Name "enumerate" p) [e] [] pos) (iEn f) := by
  refine pi_w (pi_enum hg hm ha hs) fun σ H Rk h => ?_
  obtain ⟨ρ, ms, ds, h', R, S, e, q⟩ := h
  obtain ⟨⟨xs, h1⟩, e1, e2⟩ := Option.bind_eq_some_iff.mp e
  dsimp only at e2
  split at e2
  · rename_i d
    obtain ⟨es, e3, e4⟩ := Option.map_eq_some_iff.mp e2
    cases e4
    refine ⟨ρ, ms, _, _, R, S, e1, fun us H1 ρ1 F1 R1 dn => ?_⟩
    obtain ⟨x, rfl, dn1⟩ := dens1 dn
    obtain ⟨a, vs, rfl, hq⟩ := den_lf dn1 e3
    refine ⟨a, vs, rfl, (hq ρ1 H1 (.refl _ _)).1, q _ _ ρ1 F1 R1 fun i ρ2 H2 h2 F2 R2 => ⟨fun hl => ⟨vs, (hq ρ2 H2 F2).1, by rw [(hq ρ2 H2 F2).2.length, ← enum_len es 0]; exact hl⟩, fun d hd => ?_⟩⟩
    rw [enum_get] at hd
    obtain ⟨d0, hd0, hd1⟩ := Option.map_eq_some_iff.mp hd
    obtain ⟨x, hx, dx⟩ := (hq ρ2 H2 F2).2.get hd0
    refine ⟨⟨vs, x, (hq ρ2 H2 F2).1, hx⟩, fun y H' hy => ?_⟩
    obtain ⟨T, z, rfl, hT, rfl, hz⟩ := hy
    have hz' := hz vs (hq ρ2 _ F2).1
    rw [hx] at hz'
    cases hz'
    subst hd1
    refine ⟨fut_new _ hT, R2.new _ hT, .tup (.inl upd_same) (R2.out hT) (.cons ?_ (.cons (dx.fut (fut_new _ hT)) .nil))⟩
    rw [Nat.zero_add]
    exact .int _
  · cases e2
def rngC (i j c : Int) : Nat := (Builtin.Range.rangeSize i j c).toNat
def rgOk (i j c : Int) : Bool := decide (c ≠ 0 ∧ c.natAbs < 1073741824) && Builtin.Range.small i j c && decide (0 ≤ Builtin.Range.rangeSize i j c)
def intsC (lo c : Int) (n : Nat) : List D := (List.range n).map fun (i : Nat) => D.int (lo + (i : Int) * c)
def iR3 (f : MA) : MI := fun ms => (f ms).bind fun r => match r.1 with
  | [.int i, .int j, .int c] => bif rgOk i j c then some (intsC i c (rngC i j c), r.2) else none
  | _ => none
theorem iv_range3 {tg a b c : Expr} {p pos : Pos} {f : MA} (hm : X.mg "range" = none) (ha : AV X [a, b, c] f) (hg : Gl X "range" := by rfl)
    (hs : starEach [a, b, c] X.env = (false, eval a X.env) :: starEach [b, c] X.env := by rfl) (hpl : (backTo pos (starEach [b, c] X.env)).any (·.1) = false := by rfl) : IV X tg (.Call (.Name "range" p) [a, b, c] [] pos) (iR3 f) := by
  refine pi_w (pi_range3 hg hm ha hs hpl) fun σ H Rk h => ?_
  obtain ⟨ρ, ms, ds, h', R, S, e, q⟩ := h
  obtain ⟨⟨xs, h1⟩, e1, e2⟩ := Option.bind_eq_some_iff.mp e
  dsimp only at e2
  split at e2
  · rename_i i j c
    obtain ⟨hb, e3⟩ := bif_some e2
    cases e3
    refine ⟨ρ, ms, _, _, R, S, e1, fun vs H1 ρ1 F1 R1 dn => ?_⟩
    cases dn with
    | cons d1 dn =>
      obtain ⟨y, z, rfl, d2, d3⟩ := dens2 dn
      simp only [rgOk, Bool.and_eq_true, decide_eq_true_eq] at hb
      refine ⟨i, j, c, rngC i j c, by rw [den_int d1, den_int d2, den_int d3], ⟨hb.1.1.1, hb.1.1.2, hb.1.2, by unfold rngC; omega⟩, q _ _ ρ1 F1 R1 ?_⟩
      intro k ρ2 H2 h2 F2 R2
      refine ⟨fun hl => show rngC i j c ≤ k by simpa [intsC] using hl, fun d hd => ?_⟩
      have hi : k < rngC i j c := by
        obtain ⟨hl, _⟩ := List.getElem?_eq_some_iff.mp hd
        simpa [intsC] using hl
      refine ⟨hi, fun x H' hy => ?_⟩
      obtain ⟨rfl, rfl⟩ := hy
      simp [intsC, hi] at hd
      subst hd
      exact ⟨.refl _ _, R2, .int _⟩
  · cases e2
end

/-! ### keywords in any order -/
def permL {α : Type} (perm : List Nat) (ws : List α) : List α := if ws.length = perm.length then perm.filterMap (ws[·]?) else []
def permK {α : Type} (perm : List Nat) : List α → List α → List α
  | [], ws => permL perm ws
  | _, _ => []
theorem perm_vals {xs : List V} {us : List Value} (r : Vals xs us) : ∀ perm : List Nat, Vals (perm.filterMap (xs[·]?)) (perm.filterMap (us[·]?))
  | [] => .nil
  | i :: p => by
    cases e : xs[i]? with
    | none => rw [List.filterMap_cons_none e, List.filterMap_cons_none (r.none_of e)]; exact perm_vals r p
    | some x =>
      obtain ⟨u, e2, ru⟩ := r.get e
      rw [List.filterMap_cons_some e, List.filterMap_cons_some e2]
      exact .cons ru (perm_vals r p)
theorem Dens.noneOf {K : PySem.W.Frag} {ρ : Rho} {H : Hp} {xs : List V} {ds : List D} (r : Dens K ρ H xs ds) {i : Nat} (e : ds[i]? = none) : xs[i]? = none := by
  rw [List.getElem?_eq_none_iff] at e ⊢
  rw [r.length]; exact e
theorem perm_dens {K : PySem.W.Frag} {ρ : Rho} {H : Hp} {xs : List V} {ds : List D} (r : Dens K ρ H xs ds) : ∀ perm : List Nat, Dens K ρ H (perm.filterMap (xs[·]?)) (perm.filterMap (ds[·]?))
  | [] => .nil
  | i :: p => by
    cases e : ds[i]? with
    | none => rw [List.filterMap_cons_none e, List.filterMap_cons_none (r.noneOf e)]; exact perm_dens r p
    | some x =>
      obtain ⟨u, e2, ru⟩ := r.get e
      rw [List.filterMap_cons_some e, List.filterMap_cons_some e2]
      exact .cons ru (perm_dens r p)
theorem perm_rel (perm : List Nat) {vs : List V} {us : List Value} {zs : List V} {ws : List Value} (r : Vals vs us) (rz : Vals zs ws) : Vals (permK perm vs zs) (permK perm us ws) := by
  cases r with
  | nil =>
    show Vals (permL perm zs) (permL perm ws)
    unfold permL
    rw [rz.length]
    split
    · exact perm_vals rz perm
    · exact .nil
  | cons _ _ => exact .nil
theorem perm_gd (perm : List Nat) : GD (permK perm) (permK perm) := by
  intro K ρ H vs ws ds es a b
  cases a with
  | nil =>
    show Dens K ρ H (permL perm ws) (permL perm es)
    unfold permL
    rw [b.length]
    split
    · exact perm_dens b perm
    · exact .nil
  | cons _ _ => exact .nil
/-- a def as its callers know it -/
structure Knows (P : Program) (w : World) (K : PySem.W.Frag) (mg : Str → Option Value) (base : Heap) (lv : Nat) (x : Str) (n : Nat) (F : MF) : Prop where
  ex : ∃ f fd ps, ps.length = n ∧ FnG P w K mg base CX0 lv f fd ps (spF K n F) ∧ mg x = some (.ref f) ∧ PySem.W.keepIn K (.ref f) = true ∧ Binds K fd ps []
structure KnowsK (P : Program) (w : World) (K : PySem.W.Frag) (mg : Str → Option Value) (base : Heap) (lv : Nat) (x : Str) (n : Nat) (F : MF) (ks : List Str) (perm : List Nat) : Prop where
  ex : ∃ f fd ps, ps.length = n ∧ FnG P w K mg base CX0 lv f fd ps (spF K n F) ∧ mg x = some (.ref f) ∧ PySem.W.keepIn K (.ref f) = true ∧ KBinds K fd ps ks (permK perm) (permK perm)
section
variable {X : Cx} {k : Nat} {x : Str} {p pos : Pos} {e : Expr} {es : List Expr} {kws : List Keyword} {n : Nat} {F : MF} {fa : MA} {ks : List Str} {perm : List Nat}
theorem ev_def (Kn : Knows X.prog X.w X.K X.mg X.base k x n F) (hr : RoomG k X.A) (ha : AV X (e :: es) fa) (hg : Gl X x := by rfl) (hdb : (x == ("__debug__" : Str)) = false := by decide) (he : starEach (e :: es) X.env = (false, eval e X.env) :: starEach es X.env := by rfl) (hpl : (backTo pos (starEach es X.env)).any (·.1) = false := by rfl) :
    EV X (.Call (.Name x p) (e :: es) [] pos) (mCall n F fa) := by
  obtain ⟨f, fd, ps, hn, G, hm, hk, hb⟩ := Kn.ex
  exact ev_call G hr hm hk hb ha hg hdb he hpl
theorem ev_defK (Kn : KnowsK X.prog X.w X.K X.mg X.base k x n F ks perm) (hr : RoomG k X.A) (hkw : KV' X kws fa) (hg : Gl X x := by rfl) (hall : (backToKw pos (keywordEach kws X.env)).all (·.1.isSome) = true := by rfl) (hks : (backToKw pos (keywordEach kws X.env)).filterMap (·.1) = ks := by rfl)
    (hdb : (x == ("__debug__" : Str)) = false := by decide)
    (hpl : ((backTo pos (starEach [] X.env)).any (·.1) || (backToKw pos (keywordEach kws X.env)).any (·.1.isNone)) = false := by rfl) : EV X (.Call (.Name x p) [] kws pos) (mCallK n (permK perm) F mNil fa) := by
  obtain ⟨f, fd, ps, hn, G, hm, hk, hb⟩ := Kn.ex
  exact ev_callK0 G hr hm hk hb (perm_gd perm) hkw hg hall hks hdb hpl
end
/-- the def of the text that stands at its name -/
structure Stands (K : PySem.W.Frag) (mg : Str → Option Value) (x : Str) (st : Stmt) : Prop where
  ex : ∃ f fd, Fun K x x st f fd ∧ mg x = some (.ref f)
end Zm
namespace Zm
open PySem L2
section
variable {X : Cx} {K : PySem.W.Frag}
/-- a list or a tuple, walked -/
def asLT : D → Option (List D)
  | .lst ds => some ds
  | .frl ds => some ds
  | .tup ds => some ds
  | _ => none
def iS (f : ME) : MI := fun ms => (f ms).bind fun r => (asLT r.1).map fun ds => (ds, r.2)
theorem pi_or {tg iter : Expr} {t t' : TI} (h : PI X tg iter t) (h' : PI X tg iter t') : PI X tg iter fun σ H R => t σ H R ∨ t' σ H R := ⟨fun pins s σ H R I q => q.elim (h.run pins s σ H R I) (h'.run pins s σ H R I)⟩
theorem iv_seq {tg l : Expr} {f : ME} (h : EV X l f) : IV X tg l (iS f) := by
  refine pi_w (pi_or (iv_list (tg := tg) h) (iv_tup (tg := tg) h)) fun σ H Rk q => ?_
  obtain ⟨ρ, ms, ds, h', R, S, e, q⟩ := q
  obtain ⟨⟨d, h1⟩, e1, e2⟩ := Option.bind_eq_some_iff.mp e
  obtain ⟨es, e3, e4⟩ := Option.map_eq_some_iff.mp e2
  cases e4
  cases d <;> simp only [asLT] at e3 <;> try (cases e3; done)
  · cases e3
    exact .inr ⟨ρ, ms, _, _, R, S, by simp [iT, e1, asT], q⟩
  · cases e3
    exact .inl ⟨ρ, ms, _, _, R, S, by simp [iL, e1, asL], q⟩
  · cases e3
    exact .inl ⟨ρ, ms, _, _, R, S, by simp [iL, e1, asL], q⟩
end
end Zm
namespace Zm
theorem kw_len {perm : List Nat} {us ws : List PySem.Value} (hl : (permK perm us ws).length = perm.length) (h0 : 0 < perm.length) : us = [] ∧ ws.length = perm.length := by
  cases us with
  | nil =>
    refine ⟨rfl, ?_⟩
    have h : (permL perm ws).length = perm.length := hl
    unfold permL at h
    split at h
    · assumption
    · simp at h; omega
  | cons a b => 
    have h : ([] : List PySem.Value).length = perm.length := hl
    simp at h; omega
/-- the size of the int in a slot -/
def slI (ms : MS) (i : Nat) : Nat := match ms.s[i]? with
  | some (some (.int a)) => a.natAbs
  | _ => 0
end Zm

set_option Elab.async false
set_option linter.all false
set_option maxRecDepth 100000
set_option maxHeartbeats 400000
namespace Law
open PySem L2 Zm
def top (i : Nat) : Stmt := PySem.Challenge.pw_classprimes_k02_discriminants_parts_symb.main.body.getD i (.Pass ⟨0, 0, 0, 0⟩)
structure Blt (mg : Str → Option Value) : Prop where
  b_abs : mg "abs" = none
  b_all : mg "all" = none
  b_bool : mg "bool" = none
  b_divmod : mg "divmod" = none
  b_enumerate : mg "enumerate" = none
  b_int : mg "int" = none
  b_isinstance : mg "isinstance" = none
  b_len : mg "len" = none
  b_max : mg "max" = none
  b_min : mg "min" = none
  b_range : mg "range" = none
  b_repr : mg "repr" = none
  b_str : mg "str" = none
theorem bt_abs : bootBuiltins "abs" = some (.builtin "abs") := by decide +kernel
theorem bt_all : bootBuiltins "all" = some (.builtin "all") := by decide +kernel
theorem bt_bool : bootBuiltins "bool" = some (.type "bool") := by decide +kernel
theorem bt_divmod : bootBuiltins "divmod" = some (.builtin "divmod") := by decide +kernel
theorem bt_enumerate : bootBuiltins "enumerate" = some (.type "enumerate") := by decide +kernel
theorem bt_int : bootBuiltins "int" = some (.type "int") := by decide +kernel
theorem bt_isinstance : bootBuiltins "isinstance" = some (.builtin "isinstance") := by decide +kernel
theorem bt_len : bootBuiltins "len" = some (.builtin "len") := by decide +kernel
theorem bt_max : bootBuiltins "max" = some (.builtin "max") := by decide +kernel
theorem bt_min : bootBuiltins "min" = some (.builtin "min") := by decide +kernel
theorem bt_range : bootBuiltins "range" = some (.type "range") := by decide +kernel
theorem bt_repr : bootBuiltins "repr" = some (.builtin "repr") := by decide +kernel
theorem bt_str : bootBuiltins "str" = some (.type "str") := by decide +kernel
theorem hu {k : Nat} {A : Around} (h : RoomG k A) : A.units + 64 < cLine := h.r.units
theorem hu65 {k : Nat} {A : Around} (h : RoomG k A) : A.units + 65 < cLine := by have := h.r.un; omega
section
variable {P : Program} {w : World} {K : PySem.W.Frag} {mg : Str → Option Value} {base : Heap}
abbrev s_is_whole : Stmt := top 1
abbrev N_is_whole : List Str := ["value"]
theorem sc_is_whole : FnScope ["value"] ["value"] (defScope s_is_whole) := ⟨rfl, rfl, rfl, by decide +kernel, rfl, by decide +kernel, by decide +kernel⟩
def b_is_whole : MB :=
    (mRet (mAndV (mCB oIsi (mCons (mVar 0) (mCons (mC (.ty "int")) mNil))) (mNotV (mCB oIsi (mCons (mVar 0) (mCons (mC (.ty "bool")) mNil))))))
def F_is_whole : MF := mFun 1 1 b_is_whole
theorem ok_is_whole (B : Blt mg) {f : Addr} {fd : FuncData} (F : Fun K "is_whole" "is_whole" s_is_whole f fd) : FnG P w K mg base CX0 1 f fd ["value"] (spF K 1 F_is_whole) :=
  (fn_ok (b := b_is_whole) F sc_is_whole rfl rfl fun cdv A outer s H E hr =>
    (bvs_one (bv_ret (ev_and (ev_callB call_isi c_isi B.b_isinstance bt_isinstance (av_cons (ev_var 0) (av_cons (ev_ty B.b_int bt_int) av_nil))) (ev_one (ev_not (ev_callB call_isi c_isi B.b_isinstance bt_isinstance (av_cons (ev_var 0) (av_cons (ev_ty B.b_bool bt_bool) av_nil)))))))))
abbrev s_is_whole_between : Stmt := top 2
abbrev N_is_whole_between : List Str := ["value", "low", "high"]
theorem sc_is_whole_between : FnScope ["value", "low", "high"] ["value", "low", "high"] (defScope s_is_whole_between) := ⟨rfl, rfl, rfl, by decide +kernel, rfl, by decide +kernel, by decide +kernel⟩
def b_is_whole_between : MB :=
    (mRet (mAndV (mCall 1 F_is_whole (mCons (mVar 0) mNil)) (mChain cLe cLe (mVar 1) (mVar 0) (mVar 2))))
def F_is_whole_between : MF := mFun 3 3 b_is_whole_between
theorem ok_is_whole_between (B : Blt mg) {f : Addr} {fd : FuncData} (F : Fun K "is_whole_between" "is_whole_between" s_is_whole_between f fd) (d_is_whole : Knows P w K mg base 1 "is_whole" 1 F_is_whole) : FnG P w K mg base CX0 2 f fd ["value", "low", "high"] (spF K 3 F_is_whole_between) :=
  (fn_ok (b := b_is_whole_between) F sc_is_whole_between rfl rfl fun cdv A outer s H E hr =>
    (bvs_one (bv_ret (ev_and (ev_def d_is_whole (hr.mono (by decide)) (av_cons (ev_var 0) av_nil)) (ev_one (ev_chain op_le (p_cI (p := fun i j => decide (i ≤ j))) op_le (p_cI (p := fun i j => decide (i ≤ j))) (ev_var 1) (ev_var 0) (ev_var 2)))))))
abbrev s_prime_parts : Stmt := top 3
abbrev N_prime_parts : List Str := ["number", "parts", "prime"]
theorem sc_prime_parts : FnScope ["number", "parts", "prime"] ["number"] (defScope s_prime_parts) := ⟨rfl, rfl, rfl, by decide +kernel, rfl, by decide +kernel, by decide +kernel⟩
def b_prime_parts : MB :=
    (mSeq (mAsg (mLstC mNil) (gN 1))
    (mSeq (mAsg (mC (.int 2)) (gN 2))
    (mSeq (mWhile (fun ms => 2 * slI ms 0 + 2) (mTBin cLe (mBin oMulA (mVar 2) (mVar 2)) (mVar 0)) (mIfS (mTBin oEq (mBin oMod (mVar 0) (mVar 2)) (mC (.int 0))) (mSeq (mDrop (mApp (mVar 1) (mCons (mVar 2) mNil)))
    (mAsg (mBin oDiv (mVar 0) (mVar 2)) (gN 0))) (mAugI 2 (fun i j => i + j) (mC (.int 1)))))
    (mSeq (mIfS (mTBin cGt (mVar 0) (mC (.int 1))) (mDrop (mApp (mVar 1) (mCons (mVar 0) mNil))) mNx)
    (mRet (mVar 1))))))
def F_prime_parts : MF := mFrz (mFun 3 1 b_prime_parts)
theorem ok_prime_parts (B : Blt mg) {f : Addr} {fd : FuncData} (F : Fun K "prime_parts" "prime_parts" s_prime_parts f fd) : FnG P w K mg base CX0 1 f fd ["number"] (spF K 1 F_prime_parts) :=
  fn_frz (fn_ok (b := b_prime_parts) F sc_prime_parts rfl rfl fun cdv A outer s H E hr =>
    (bvs_cons (bv_set 1 sc_prime_parts.nd (ev_lstC av_nil))
    (bvs_cons (bv_set 2 sc_prime_parts.nd ev_int)
    (bvs_cons (bv_while (fun ms => 2 * slI ms 0 + 2) (tv_cmp op_le (p_cI (p := fun i j => decide (i ≤ j))) (ev_bin or_mul p_mulA (ev_var 2) (ev_var 2)) (ev_var 0) (nomark _)) (bvs_one (bv_if (tv_cmp (or_eq (hu hr)) p_eq (ev_bin op_mod p_mod (ev_var 0) (ev_var 2)) ev_int (nomark _)) (bvs_cons (bv_expr (ev_app (ev_var 1) (av_cons (ev_var 2) av_nil)))
    (bvs_one (bv_set 0 sc_prime_parts.nd (ev_bin op_fdivW p_div (ev_var 0) (ev_var 2))))) (bvs_one (bv_augI (p := (fun i j => i + j)) 2 sc_prime_parts.nd iop_add ev_int)))) PassesOwn.never)
    (bvs_cons (bv_if (tv_cmp op_gt (p_cI (p := fun i j => decide (j < i))) (ev_var 0) ev_int (nomark _)) (bvs_one (bv_expr (ev_app (ev_var 1) (av_cons (ev_var 0) av_nil)))) bvs_nil)
    (bvs_one (bv_ret (ev_var 1))))))))
abbrev s_power_modulo : Stmt := top 4
abbrev N_power_modulo : List Str := ["base", "exponent", "modulus", "result", "square"]
theorem sc_power_modulo : FnScope ["base", "exponent", "modulus", "result", "square"] ["base", "exponent", "modulus"] (defScope s_power_modulo) := ⟨rfl, rfl, rfl, by decide +kernel, rfl, by decide +kernel, by decide +kernel⟩
def b_power_modulo : MB :=
    (mSeq (mAsg (mBin oMod (mC (.int 1)) (mVar 2)) (gN 3))
    (mSeq (mAsg (mBin oMod (mVar 0) (mVar 2)) (gN 4))
    (mSeq (mWhile (fun ms => slI ms 1 + 1) (mTBin cGt (mVar 1) (mC (.int 0))) (mSeq (mIfS (mTBin oEq (mBin oMod (mVar 1) (mC (.int 2))) (mC (.int 1))) (mAsg (mBin oMod (mBin oMulA (mVar 3) (mVar 4)) (mVar 2)) (gN 3)) mNx)
    (mSeq (mAsg (mBin oMod (mBin oMulA (mVar 4) (mVar 4)) (mVar 2)) (gN 4))
    (mAsg (mBin oDiv (mVar 1) (mC (.int 2))) (gN 1)))))
    (mRet (mVar 3)))))
def F_power_modulo : MF := mFun 5 3 b_power_modulo
theorem ok_power_modulo (B : Blt mg) {f : Addr} {fd : FuncData} (F : Fun K "power_modulo" "power_modulo" s_power_modulo f fd) : FnG P w K mg base CX0 1 f fd ["base", "exponent", "modulus"] (spF K 3 F_power_modulo) :=
  (fn_ok (b := b_power_modulo) F sc_power_modulo rfl rfl fun cdv A outer s H E hr =>
    (bvs_cons (bv_set 3 sc_power_modulo.nd (ev_bin op_mod p_mod ev_int (ev_var 2)))
    (bvs_cons (bv_set 4 sc_power_modulo.nd (ev_bin op_mod p_mod (ev_var 0) (ev_var 2)))
    (bvs_cons (bv_while (fun ms => slI ms 1 + 1) (tv_cmp op_gt (p_cI (p := fun i j => decide (j < i))) (ev_var 1) ev_int (nomark _)) (bvs_cons (bv_if (tv_cmp (or_eq (hu hr)) p_eq (ev_bin op_mod p_mod (ev_var 1) ev_int) ev_int (nomark _)) (bvs_one (bv_set 3 sc_power_modulo.nd (ev_bin op_mod p_mod (ev_bin or_mul p_mulA (ev_var 3) (ev_var 4)) (ev_var 2)))) bvs_nil)
    (bvs_cons (bv_set 4 sc_power_modulo.nd (ev_bin op_mod p_mod (ev_bin or_mul p_mulA (ev_var 4) (ev_var 4)) (ev_var 2)))
    (bvs_one (bv_set 1 sc_power_modulo.nd (ev_bin op_fdivW p_div (ev_var 1) ev_int))))) PassesOwn.never)
    (bvs_one (bv_ret (ev_var 3)))))))
abbrev s_is_discriminant : Stmt := top 10
abbrev N_is_discriminant : List Str := ["value"]
theorem sc_is_discriminant : FnScope ["value"] ["value"] (defScope s_is_discriminant) := ⟨rfl, rfl, rfl, by decide +kernel, rfl, by decide +kernel, by decide +kernel⟩
def b_is_discriminant : MB :=
    (mRet (mAndV (mCall 3 F_is_whole_between (mCons (mVar 0) (mCons (mUn oNeg (mC (.int 400))) (mCons (mUn oNeg (mC (.int 3))) mNil)))) (mBin (oB (oIn false)) (mBin oMod (mVar 0) (mC (.int 4))) (mTup (mCons (mC (.int 0)) (mCons (mC (.int 1)) mNil))))))
def F_is_discriminant : MF := mFun 1 1 b_is_discriminant
theorem ok_is_discriminant (B : Blt mg) {f : Addr} {fd : FuncData} (F : Fun K "is_discriminant" "is_discriminant" s_is_discriminant f fd) (d_is_whole_between : Knows P w K mg base 2 "is_whole_between" 3 F_is_whole_between) : FnG P w K mg base CX0 3 f fd ["value"] (spF K 1 F_is_discriminant) :=
  (fn_ok (b := b_is_discriminant) F sc_is_discriminant rfl rfl fun cdv A outer s H E hr =>
    (bvs_one (bv_ret (ev_and (ev_def d_is_whole_between (hr.mono (by decide)) (av_cons (ev_var 0) (av_cons (ev_un un_neg p_neg ev_int) (av_cons (ev_un un_neg p_neg ev_int) av_nil)))) (ev_one (ev_cmp (op_inP (hu65 hr)) (p_in (neg := false)) (ev_bin op_mod p_mod (ev_var 0) ev_int) (ev_tup (av_cons ev_int (av_cons ev_int av_nil))) (by with_unfolding_all rfl)))))))
abbrev s_check_discriminant : Stmt := top 11
abbrev N_check_discriminant : List Str := ["discriminant"]
theorem sc_check_discriminant : FnScope ["discriminant"] ["discriminant"] (defScope s_check_discriminant) := ⟨rfl, rfl, rfl, by decide +kernel, rfl, by decide +kernel, by decide +kernel⟩
def b_check_discriminant : MB :=
    (mIfS (mNot (mTru (mCall 1 F_is_discriminant (mCons (mVar 0) mNil)))) mNev mNx)
def F_check_discriminant : MF := mFun 1 1 b_check_discriminant
theorem ok_check_discriminant (B : Blt mg) {f : Addr} {fd : FuncData} (F : Fun K "check_discriminant" "check_discriminant" s_check_discriminant f fd) (d_is_discriminant : Knows P w K mg base 3 "is_discriminant" 1 F_is_discriminant) : FnG P w K mg base CX0 4 f fd ["discriminant"] (spF K 1 F_check_discriminant) :=
  (fn_ok (b := b_check_discriminant) F sc_check_discriminant rfl rfl fun cdv A outer s H E hr =>
    (bvs_one (bv_if (tv_not (tv_val (ev_def d_is_discriminant (hr.mono (by decide)) (av_cons (ev_var 0) av_nil)))) (bvs_one bv_never) bvs_nil)))
abbrev s_is_square_part : Stmt := top 13
abbrev N_is_square_part : List Str := ["discriminant", "f"]
theorem sc_is_square_part : FnScope ["discriminant", "f"] ["discriminant", "f"] (defScope s_is_square_part) := ⟨rfl, rfl, rfl, by decide +kernel, rfl, by decide +kernel, by decide +kernel⟩
def b_is_square_part : MB :=
    (mRet (mAndV (mBin (oB oEq) (mBin oMod (mVar 0) (mBin oMulA (mVar 1) (mVar 1))) (mC (.int 0))) (mCall 1 F_is_discriminant (mCons (mBin oDiv (mVar 0) (mBin oMulA (mVar 1) (mVar 1))) mNil))))
def F_is_square_part : MF := mFun 2 2 b_is_square_part
theorem ok_is_square_part (B : Blt mg) {f : Addr} {fd : FuncData} (F : Fun K "is_square_part" "is_square_part" s_is_square_part f fd) (d_is_discriminant : Knows P w K mg base 3 "is_discriminant" 1 F_is_discriminant) : FnG P w K mg base CX0 4 f fd ["discriminant", "f"] (spF K 2 F_is_square_part) :=
  (fn_ok (b := b_is_square_part) F sc_is_square_part rfl rfl fun cdv A outer s H E hr =>
    (bvs_one (bv_ret (ev_and (ev_cmp (or_eq (hu hr)) p_eq (ev_bin op_mod p_mod (ev_var 0) (ev_bin or_mul p_mulA (ev_var 1) (ev_var 1))) ev_int (nomark _)) (ev_one (ev_def d_is_discriminant (hr.mono (by decide)) (av_cons (ev_bin op_fdivW p_div (ev_var 0) (ev_bin or_mul p_mulA (ev_var 1) (ev_var 1))) av_nil)))))))
abbrev s_parts_of : Stmt := top 12
abbrev N_parts_of : List Str := ["discriminant", "greatest", "f"]
theorem sc_parts_of : FnScope ["discriminant", "greatest", "f"] ["discriminant"] (defScope s_parts_of) := ⟨rfl, rfl, rfl, by decide +kernel, rfl, by decide +kernel, by decide +kernel⟩
def b_parts_of : MB :=
    (mSeq (mDrop (mCall 1 F_check_discriminant (mCons (mVar 0) mNil)))
    (mSeq (mAsg (mCB oMaxL (mCons (mComp (iR2 (mCons (mC (.int 1)) (mCons (mC (.int 12)) mNil))) (gN 2) (mTru (mCall 2 F_is_square_part (mCons (mVar 0) (mCons (mVar 2) mNil)))) (mVar 2) [2]) mNil)) (gN 1))
    (mRet (mTup (mCons (mBin oDiv (mVar 0) (mBin oMulA (mVar 1) (mVar 1))) (mCons (mVar 1) mNil))))))
def F_parts_of : MF := mFun 3 1 b_parts_of
theorem ok_parts_of (B : Blt mg) {f : Addr} {fd : FuncData} (F : Fun K "parts_of" "parts_of" s_parts_of f fd) (d_check_discriminant : Knows P w K mg base 4 "check_discriminant" 1 F_check_discriminant) (d_is_square_part : Knows P w K mg base 4 "is_square_part" 2 F_is_square_part) : FnG P w K mg base CX0 5 f fd ["discriminant"] (spF K 1 F_parts_of) :=
  (fn_ok (b := b_parts_of) F sc_parts_of rfl rfl fun cdv A outer s H E hr =>
    (bvs_cons (bv_expr (ev_def d_check_discriminant (hr.mono (by decide)) (av_cons (ev_var 0) av_nil)))
    (bvs_cons (bv_set 1 sc_parts_of.nd (ev_callB (cr_max rfl) c_maxL B.b_max bt_max (av_cons (ev_lc rfl sc_parts_of.nd (iv_range2 B.b_range (av_cons ev_int (av_cons ev_int av_nil))) (tg_name (by decide)) (blkOk_by (own := [("f", 2)]) (N := N_parts_of) (sc := defScope s_parts_of) (by decide +kernel)) rfl (fun _ _ _ _ _ => pg_name (i := 2) sc_parts_of.nd rfl (Or.inl rfl)) (fun _ _ _ _ _ => tvs_one (tv_val (ev_def d_is_square_part (hr.mono (by decide)) (av_cons (ev_var 0) (av_cons (ev_var 2) av_nil))))) (fun _ _ _ _ _ => (ev_var 2))) av_nil)))
    (bvs_one (bv_ret (ev_tup (av_cons (ev_bin op_fdivW p_div (ev_var 0) (ev_bin or_mul p_mulA (ev_var 1) (ev_var 1))) (av_cons (ev_var 1) av_nil))))))))
abbrev s_symbol_at_prime : Stmt := top 15
abbrev N_symbol_at_prime : List Str := ["discriminant", "prime"]
theorem sc_symbol_at_prime : FnScope ["discriminant", "prime"] ["discriminant", "prime"] (defScope s_symbol_at_prime) := ⟨rfl, rfl, rfl, by decide +kernel, rfl, by decide +kernel, by decide +kernel⟩
def b_symbol_at_prime : MB :=
    (mSeq (mIfS (mTBin oEq (mBin oMod (mVar 0) (mVar 1)) (mC (.int 0))) (mRet (mC (.int 0))) mNx)
    (mSeq (mIfS (mTBin oEq (mVar 1) (mC (.int 2))) (mRet (mIf (mTBin oEq (mBin oMod (mVar 0) (mC (.int 8))) (mC (.int 1))) (mC (.int 1)) (mUn oNeg (mC (.int 1))))) mNx)
    (mRet (mIf (mTBin oEq (mCall 3 F_power_modulo (mCons (mVar 0) (mCons (mBin oDiv (mBin oSub (mVar 1) (mC (.int 1))) (mC (.int 2))) (mCons (mVar 1) mNil)))) (mC (.int 1))) (mC (.int 1)) (mUn oNeg (mC (.int 1)))))))
def F_symbol_at_prime : MF := mFun 2 2 b_symbol_at_prime
theorem ok_symbol_at_prime (B : Blt mg) {f : Addr} {fd : FuncData} (F : Fun K "symbol_at_prime" "symbol_at_prime" s_symbol_at_prime f fd) (d_power_modulo : Knows P w K mg base 1 "power_modulo" 3 F_power_modulo) : FnG P w K mg base CX0 2 f fd ["discriminant", "prime"] (spF K 2 F_symbol_at_prime) :=
  (fn_ok (b := b_symbol_at_prime) F sc_symbol_at_prime rfl rfl fun cdv A outer s H E hr =>
    (bvs_cons (bv_if (tv_cmp (or_eq (hu hr)) p_eq (ev_bin op_mod p_mod (ev_var 0) (ev_var 1)) ev_int (nomark _)) (bvs_one (bv_ret ev_int)) bvs_nil)
    (bvs_cons (bv_if (tv_cmp (or_eq (hu hr)) p_eq (ev_var 1) ev_int (nomark _)) (bvs_one (bv_ret (ev_if (tv_cmp (or_eq (hu hr)) p_eq (ev_bin op_mod p_mod (ev_var 0) ev_int) ev_int (nomark _)) ev_int (ev_un un_neg p_neg ev_int)))) bvs_nil)
    (bvs_one (bv_ret (ev_if (tv_cmp (or_eq (hu hr)) p_eq (ev_def d_power_modulo (hr.mono (by decide)) (av_cons (ev_var 0) (av_cons (ev_bin op_fdivW p_div (ev_bin op_sub p_sub (ev_var 1) ev_int) ev_int) (av_cons (ev_var 1) av_nil)))) ev_int (nomark _)) ev_int (ev_un un_neg p_neg ev_int)))))))
abbrev s_symbol : Stmt := top 14
abbrev N_symbol : List Str := ["discriminant", "number", "result", "prime"]
theorem sc_symbol : FnScope ["discriminant", "number", "result", "prime"] ["discriminant", "number"] (defScope s_symbol) := ⟨rfl, rfl, rfl, by decide +kernel, rfl, by decide +kernel, by decide +kernel⟩
def b_symbol : MB :=
    (mSeq (mDrop (mCall 1 F_check_discriminant (mCons (mVar 0) mNil)))
    (mSeq (mIfS (mNot (mTru (mCall 3 F_is_whole_between (mCons (mVar 1) (mCons (mC (.int 1)) (mCons (mC (.int 10000)) mNil)))))) mNev mNx)
    (mSeq (mAsg (mC (.int 1)) (gN 2))
    (mSeq (mFor (iS (mCall 1 F_prime_parts (mCons (mVar 1) mNil))) (gN 3) (mAsg (mBin oMulA (mVar 2) (mCall 2 F_symbol_at_prime (mCons (mVar 0) (mCons (mVar 3) mNil)))) (gN 2)))
    (mRet (mVar 2))))))
def F_symbol : MF := mFun 4 2 b_symbol
theorem ok_symbol (B : Blt mg) {f : Addr} {fd : FuncData} (F : Fun K "symbol" "symbol" s_symbol f fd) (d_check_discriminant : Knows P w K mg base 4 "check_discriminant" 1 F_check_discriminant) (d_is_whole_between : Knows P w K mg base 2 "is_whole_between" 3 F_is_whole_between) (d_prime_parts : Knows P w K mg base 1 "prime_parts" 1 F_prime_parts) (d_symbol_at_prime : Knows P w K mg base 2 "symbol_at_prime" 2 F_symbol_at_prime) : FnG P w K mg base CX0 5 f fd ["discriminant", "number"] (spF K 2 F_symbol) :=
  (fn_ok (b := b_symbol) F sc_symbol rfl rfl fun cdv A outer s H E hr =>
    (bvs_cons (bv_expr (ev_def d_check_discriminant (hr.mono (by decide)) (av_cons (ev_var 0) av_nil)))
    (bvs_cons (bv_if (tv_not (tv_val (ev_def d_is_whole_between (hr.mono (by decide)) (av_cons (ev_var 1) (av_cons ev_int (av_cons ev_int av_nil)))))) (bvs_one bv_never) bvs_nil)
    (bvs_cons (bv_set 2 sc_symbol.nd ev_int)
    (bvs_cons (bv_for (iv_seq (ev_def d_prime_parts (hr.mono (by decide)) (av_cons (ev_var 1) av_nil))) (gv_name 3 sc_symbol.nd) (bvs_one (bv_set 2 sc_symbol.nd (ev_bin or_mul p_mulA (ev_var 2) (ev_def d_symbol_at_prime (hr.mono (by decide)) (av_cons (ev_var 0) (av_cons (ev_var 3) av_nil)))))) rfl PassesOwn.never)
    (bvs_one (bv_ret (ev_var 2))))))))
abbrev s__law_well : Stmt := top 17
abbrev N__law_well : List Str := ["script", "lap", "mixed", "cell", "own"]
theorem sc__law_well : FnScope ["script", "lap", "mixed", "cell", "own"] ["script", "lap"] (defScope s__law_well) := ⟨rfl, rfl, rfl, by decide +kernel, rfl, by decide +kernel, by decide +kernel⟩
def b__law_well : MB :=
    (mSeq (mAsg (mBin oAdd (mC (.int 51407)) (mBin oMulA (mC (.int 6101)) (mVar 1))) (gN 2))
    (mSeq (mFor (iS (mSl (mVar 0) mNo (mSo (mC (.int 12))))) (gN 3) (mAsg (mBin oMod (mCB oInt (mCons (mBin oAdd (mBin oAdd (mBin oMulA (mVar 2) (mC (.int 40151))) (mBin oMulA (mBin oMod (mCB oInt (mCons (mVar 3) mNil)) (mC (.int 2147483563))) (mC (.int 13)))) (mC (.int 19))) mNil)) (mC (.int 2147483563))) (gN 2)))
    (mSeq (mAsg (mIf (mTBin cLt (mVar 1) (mCB oLen (mCons (mVar 0) mNil))) (mCB oInt (mCons (mBin oIx (mVar 0) (mVar 1)) mNil)) (mC (.int 0))) (gN 4))
    (mSeq (mAsg (mBin oMod (mCB oInt (mCons (mBin oAdd (mBin oAdd (mBin oMulA (mVar 2) (mC (.int 101))) (mBin oMulA (mBin oMod (mCB oInt (mCons (mVar 4) mNil)) (mC (.int 2147483563))) (mC (.int 20047)))) (mC (.int 7))) mNil)) (mC (.int 2147483563))) (gN 2))
    (mRet (mLstC (mCons (mIf (mOr (mTBin cLt (mVar 4) (mC (.int 0))) (mTBin cGe (mVar 4) (mBin oPow (mC (.int 10)) (mC (.int 15))))) (mCB oAbs (mCons (mVar 4) mNil)) (mC (.int 0))) (mCons (mVar 2) (mCons (mC (.int 0)) mNil)))))))))
def F__law_well : MF := mFun 5 2 b__law_well
theorem ok__law_well (B : Blt mg) {f : Addr} {fd : FuncData} (F : Fun K "_law_well" "_law_well" s__law_well f fd) : FnG P w K mg base CX0 1 f fd ["script", "lap"] (spF K 2 F__law_well) :=
  (fn_ok (b := b__law_well) F sc__law_well rfl rfl fun cdv A outer s H E hr =>
    (bvs_cons (bv_set 2 sc__law_well.nd (ev_bin or_addAll p_add ev_int (ev_bin or_mul p_mulA ev_int (ev_var 1))))
    (bvs_cons (bv_for (iv_seq (ev_slice (ev_var 0) ov_no (ov_so ev_int))) (gv_name 3 sc__law_well.nd) (bvs_one (bv_set 2 sc__law_well.nd (ev_bin op_mod p_mod (ev_callTy call_int1 c_int B.b_int bt_int (av_cons (ev_bin or_addAll p_add (ev_bin or_addAll p_add (ev_bin or_mul p_mulA (ev_var 2) ev_int) (ev_bin or_mul p_mulA (ev_bin op_mod p_mod (ev_callTy call_int1 c_int B.b_int bt_int (av_cons (ev_var 3) av_nil)) ev_int) ev_int)) ev_int) av_nil)) ev_int))) rfl PassesOwn.never)
    (bvs_cons (bv_set 4 sc__law_well.nd (ev_if (tv_cmp op_lt (p_cI (p := fun i j => decide (i < j))) (ev_var 1) (ev_callB call_len c_len B.b_len bt_len (av_cons (ev_var 0) av_nil)) (nomark _)) (ev_callTy call_int1 c_int B.b_int bt_int (av_cons (ev_ix (ev_var 0) (ev_var 1)) av_nil)) ev_int))
    (bvs_cons (bv_set 2 sc__law_well.nd (ev_bin op_mod p_mod (ev_callTy call_int1 c_int B.b_int bt_int (av_cons (ev_bin or_addAll p_add (ev_bin or_addAll p_add (ev_bin or_mul p_mulA (ev_var 2) ev_int) (ev_bin or_mul p_mulA (ev_bin op_mod p_mod (ev_callTy call_int1 c_int B.b_int bt_int (av_cons (ev_var 4) av_nil)) ev_int) ev_int)) ev_int) av_nil)) ev_int))
    (bvs_one (bv_ret (ev_lstC (av_cons (ev_if (tv_pw (wv_or (tv_cmp op_lt (p_cI (p := fun i j => decide (i < j))) (ev_var 4) ev_int (nomark _)) (wv_or1 (tv_cmp op_ge (p_cI (p := fun i j => decide (j ≤ i))) (ev_var 4) (ev_bin op_pow p_pow ev_int ev_int) (nomark _))))) (ev_callB call_abs c_abs B.b_abs bt_abs (av_cons (ev_var 4) av_nil)) ev_int) (av_cons (ev_var 2) (av_cons ev_int av_nil)))))))))))
abbrev s__law_draw : Stmt := top 18
abbrev N__law_draw : List Str := ["well", "few", "figure", "mixed"]
theorem sc__law_draw : FnScope ["well", "few", "figure", "mixed"] ["well", "few"] (defScope s__law_draw) := ⟨rfl, rfl, rfl, by decide +kernel, rfl, by decide +kernel, by decide +kernel⟩
def b__law_draw : MB :=
    (mSeq (mIfS (mTBin cGt (mBin oIx (mVar 0) (mC (.int 0))) (mC (.int 0))) (mSeq (mAsg (mCB oDivmod (mCons (mBin oIx (mVar 0) (mC (.int 0))) (mCons (mVar 1) mNil))) (gT 2 (gsCons (gSubD (mVar 0) (mC (.int 0))) (gsCons (gN 2) gsNil))))
    (mRet (mVar 2))) mNx)
    (mSeq (mAsg (mBin oAdd (mBin oIx (mVar 0) (mC (.int 2))) (mC (.int 1))) (gSubD (mVar 0) (mC (.int 2))))
    (mSeq (mAsg (mBin oMod (mCB oInt (mCons (mBin oAdd (mBin oMulA (mBin oIx (mVar 0) (mC (.int 1))) (mC (.int 48271))) (mBin oMulA (mC (.int 15013)) (mBin oIx (mVar 0) (mC (.int 2))))) mNil)) (mC (.int 2147483563))) (gN 3))
    (mSeq (mAsg (mBin oMod (mCB oInt (mCons (mBin oAdd (mBin oMulA (mVar 3) (mBin oAdd (mBin oMod (mCB oInt (mCons (mVar 3) mNil)) (mC (.int 4999))) (mC (.int 20011)))) (mBin oIx (mVar 0) (mC (.int 2)))) mNil)) (mC (.int 2147483563))) (gSubD (mVar 0) (mC (.int 1))))
    (mRet (mBin oMod (mCB oInt (mCons (mBin oDiv (mBin oIx (mVar 0) (mC (.int 1))) (mC (.int 977))) mNil)) (mVar 1)))))))
def F__law_draw : MF := mFun 4 2 b__law_draw
theorem ok__law_draw (B : Blt mg) {f : Addr} {fd : FuncData} (F : Fun K "_law_draw" "_law_draw" s__law_draw f fd) : FnG P w K mg base CX0 1 f fd ["well", "few"] (spF K 2 F__law_draw) :=
  (fn_ok (b := b__law_draw) F sc__law_draw rfl rfl fun cdv A outer s H E hr =>
    (bvs_cons (bv_if (tv_cmp op_gt (p_cI (p := fun i j => decide (j < i))) (ev_ix (ev_var 0) ev_int) ev_int (nomark _)) (bvs_cons (bv_asg (ev_callB call_dm c_dm B.b_divmod bt_divmod (av_cons (ev_ix (ev_var 0) ev_int) (av_cons (ev_var 1) av_nil))) (gv_tup rfl (gvs_cons (gv_sub (ev_var 0) ev_int) (gvs_cons (gv_name 2 sc__law_draw.nd) gvs_nil))))
    (bvs_one (bv_ret (ev_var 2)))) bvs_nil)
    (bvs_cons (bv_asg (ev_bin or_addAll p_add (ev_ix (ev_var 0) ev_int) ev_int) (gv_sub (ev_var 0) ev_int))
    (bvs_cons (bv_set 3 sc__law_draw.nd (ev_bin op_mod p_mod (ev_callTy call_int1 c_int B.b_int bt_int (av_cons (ev_bin or_addAll p_add (ev_bin or_mul p_mulA (ev_ix (ev_var 0) ev_int) ev_int) (ev_bin or_mul p_mulA ev_int (ev_ix (ev_var 0) ev_int))) av_nil)) ev_int))
    (bvs_cons (bv_asg (ev_bin op_mod p_mod (ev_callTy call_int1 c_int B.b_int bt_int (av_cons (ev_bin or_addAll p_add (ev_bin or_mul p_mulA (ev_var 3) (ev_bin or_addAll p_add (ev_bin op_mod p_mod (ev_callTy call_int1 c_int B.b_int bt_int (av_cons (ev_var 3) av_nil)) ev_int) ev_int)) (ev_ix (ev_var 0) ev_int)) av_nil)) ev_int) (gv_sub (ev_var 0) ev_int))
    (bvs_one (bv_ret (ev_bin op_mod p_mod (ev_callTy call_int1 c_int B.b_int bt_int (av_cons (ev_bin op_fdivW p_div (ev_ix (ev_var 0) ev_int) ev_int) av_nil)) (ev_var 1)))))))))
abbrev s__law_one : Stmt := top 19
abbrev N__law_one : List Str := ["well", "some"]
theorem sc__law_one : FnScope ["well", "some"] ["well", "some"] (defScope s__law_one) := ⟨rfl, rfl, rfl, by decide +kernel, rfl, by decide +kernel, by decide +kernel⟩
def b__law_one : MB :=
    (mRet (mBin oIx (mVar 1) (mCall 2 F__law_draw (mCons (mVar 0) (mCons (mCB oLen (mCons (mVar 1) mNil)) mNil)))))
def F__law_one : MF := mFun 2 2 b__law_one
theorem ok__law_one (B : Blt mg) {f : Addr} {fd : FuncData} (F : Fun K "_law_one" "_law_one" s__law_one f fd) (d__law_draw : Knows P w K mg base 1 "_law_draw" 2 F__law_draw) : FnG P w K mg base CX0 2 f fd ["well", "some"] (spF K 2 F__law_one) :=
  (fn_ok (b := b__law_one) F sc__law_one rfl rfl fun cdv A outer s H E hr =>
    (bvs_one (bv_ret (ev_ix (ev_var 1) (ev_def d__law_draw (hr.mono (by decide)) (av_cons (ev_var 0) (av_cons (ev_callB call_len c_len B.b_len bt_len (av_cons (ev_var 1) av_nil)) av_nil)))))))
abbrev s__law_is_whole : Stmt := top 20
abbrev N__law_is_whole : List Str := ["thing"]
theorem sc__law_is_whole : FnScope ["thing"] ["thing"] (defScope s__law_is_whole) := ⟨rfl, rfl, rfl, by decide +kernel, rfl, by decide +kernel, by decide +kernel⟩
def b__law_is_whole : MB :=
    (mRet (mAndV (mCB oIsi (mCons (mVar 0) (mCons (mC (.ty "int")) mNil))) (mNotV (mCB oIsi (mCons (mVar 0) (mCons (mC (.ty "bool")) mNil))))))
def F__law_is_whole : MF := mFun 1 1 b__law_is_whole
theorem ok__law_is_whole (B : Blt mg) {f : Addr} {fd : FuncData} (F : Fun K "_law_is_whole" "_law_is_whole" s__law_is_whole f fd) : FnG P w K mg base CX0 1 f fd ["thing"] (spF K 1 F__law_is_whole) :=
  (fn_ok (b := b__law_is_whole) F sc__law_is_whole rfl rfl fun cdv A outer s H E hr =>
    (bvs_one (bv_ret (ev_and (ev_callB call_isi c_isi B.b_isinstance bt_isinstance (av_cons (ev_var 0) (av_cons (ev_ty B.b_int bt_int) av_nil))) (ev_one (ev_not (ev_callB call_isi c_isi B.b_isinstance bt_isinstance (av_cons (ev_var 0) (av_cons (ev_ty B.b_bool bt_bool) av_nil)))))))))
abbrev s__law_odd_thing : Stmt := top 21
abbrev N__law_odd_thing : List Str := ["well", "some"]
theorem sc__law_odd_thing : FnScope ["well", "some"] ["well"] (defScope s__law_odd_thing) := ⟨rfl, rfl, rfl, by decide +kernel, rfl, by decide +kernel, by decide +kernel⟩
def b__law_odd_thing : MB :=
    (mSeq (mAsg (mTup (mCons (mC .non) (mCons (mC (.bl true)) (mCons (mC (.bl false)) (mCons (mC (.str "1")) (mCons (mC (.str "")) (mCons (mUn oNeg (mC (.int 1))) (mCons (mC (.int 0)) (mCons (mC (.int 1)) (mCons (mC (.int 7)) (mCons (mBin oPow (mC (.int 10)) (mC (.int 30))) (mCons (mTup mNil) (mCons (mLst mNil) (mCons mDic (mCons (mTup (mCons (mC (.int 1)) (mCons (mC (.int 0)) mNil))) (mCons (mLst (mCons (mC (.int 1)) (mCons (mC (.int 0)) (mCons (mC (.int 5)) mNil)))) (mCons (mTup (mCons (mTup (mCons (mC (.int 1)) (mCons (mC (.int 0)) (mCons (mC (.int 5)) mNil)))) mNil)) (mCons (mTup (mCons (mC (.bl true)) (mCons (mC (.int 0)) (mCons (mC (.int 5)) mNil)))) mNil)))))))))))))))))) (gN 1))
    (mRet (mCall 2 F__law_one (mCons (mVar 0) (mCons (mVar 1) mNil)))))
def F__law_odd_thing : MF := mFun 2 1 b__law_odd_thing
theorem ok__law_odd_thing (B : Blt mg) {f : Addr} {fd : FuncData} (F : Fun K "_law_odd_thing" "_law_odd_thing" s__law_odd_thing f fd) (d__law_one : Knows P w K mg base 2 "_law_one" 2 F__law_one) : FnG P w K mg base CX0 3 f fd ["well"] (spF K 1 F__law_odd_thing) :=
  (fn_ok (b := b__law_odd_thing) F sc__law_odd_thing rfl rfl fun cdv A outer s H E hr =>
    (bvs_cons (bv_set 1 sc__law_odd_thing.nd (ev_tup (av_cons ev_non (av_cons ev_bl (av_cons ev_bl (av_cons ev_str (av_cons ev_str (av_cons (ev_un un_neg p_neg ev_int) (av_cons ev_int (av_cons ev_int (av_cons ev_int (av_cons (ev_bin op_pow p_pow ev_int ev_int) (av_cons (ev_tup av_nil) (av_cons (ev_lst av_nil) (av_cons ev_dic (av_cons (ev_tup (av_cons ev_int (av_cons ev_int av_nil))) (av_cons (ev_lst (av_cons ev_int (av_cons ev_int (av_cons ev_int av_nil)))) (av_cons (ev_tup (av_cons (ev_tup (av_cons ev_int (av_cons ev_int (av_cons ev_int av_nil)))) av_nil)) (av_cons (ev_tup (av_cons ev_bl (av_cons ev_int (av_cons ev_int av_nil)))) av_nil)))))))))))))))))))
    (bvs_one (bv_ret (ev_def d__law_one (hr.mono (by decide)) (av_cons (ev_var 0) (av_cons (ev_var 1) av_nil)))))))
abbrev s__law_is_discriminant : Stmt := top 22
abbrev N__law_is_discriminant : List Str := ["thing"]
theorem sc__law_is_discriminant : FnScope ["thing"] ["thing"] (defScope s__law_is_discriminant) := ⟨rfl, rfl, rfl, by decide +kernel, rfl, by decide +kernel, by decide +kernel⟩
def b__law_is_discriminant : MB :=
    (mRet (mAndV (mCall 1 F__law_is_whole (mCons (mVar 0) mNil)) (mAndV (mChain cLe cLe (mUn oNeg (mC (.int 400))) (mVar 0) (mUn oNeg (mC (.int 3)))) (mBin (oB cLt) (mBin oMod (mCB oInt (mCons (mVar 0) mNil)) (mC (.int 4))) (mC (.int 2))))))
def F__law_is_discriminant : MF := mFun 1 1 b__law_is_discriminant
theorem ok__law_is_discriminant (B : Blt mg) {f : Addr} {fd : FuncData} (F : Fun K "_law_is_discriminant" "_law_is_discriminant" s__law_is_discriminant f fd) (d__law_is_whole : Knows P w K mg base 1 "_law_is_whole" 1 F__law_is_whole) : FnG P w K mg base CX0 2 f fd ["thing"] (spF K 1 F__law_is_discriminant) :=
  (fn_ok (b := b__law_is_discriminant) F sc__law_is_discriminant rfl rfl fun cdv A outer s H E hr =>
    (bvs_one (bv_ret (ev_and (ev_def d__law_is_whole (hr.mono (by decide)) (av_cons (ev_var 0) av_nil)) (ev_and (ev_chain op_le (p_cI (p := fun i j => decide (i ≤ j))) op_le (p_cI (p := fun i j => decide (i ≤ j))) (ev_un un_neg p_neg ev_int) (ev_var 0) (ev_un un_neg p_neg ev_int)) (ev_one (ev_cmp op_lt (p_cI (p := fun i j => decide (i < j))) (ev_bin op_mod p_mod (ev_callTy call_int1 c_int B.b_int bt_int (av_cons (ev_var 0) av_nil)) ev_int) ev_int (nomark _))))))))
abbrev s__law_disc : Stmt := top 23
abbrev N__law_disc : List Str := ["well", "some", "more", "great", "number"]
theorem sc__law_disc : FnScope ["well", "some", "more", "great", "number"] ["well"] (defScope s__law_disc) := ⟨rfl, rfl, rfl, by decide +kernel, rfl, by decide +kernel, by decide +kernel⟩
def b__law_disc : MB :=
    (mSeq (mIfS (mTBin oEq (mCall 2 F__law_draw (mCons (mVar 0) (mCons (mC (.int 4)) mNil))) (mC (.int 0))) (mRet (mCall 2 F__law_one (mCons (mVar 0) (mCons (mComp (iR2 (mCons (mC (.int 3)) (mCons (mC (.int 401)) mNil))) (gN 4) (mTBin (oIn false) (mBin oMod (mCB oInt (mCons (mVar 4) mNil)) (mC (.int 4))) (mTup (mCons (mC (.int 0)) (mCons (mC (.int 3)) mNil)))) (mBin oSub (mC (.int 0)) (mVar 4)) [4]) mNil)))) mNx)
    (mSeq (mAsg (mTup (mCons (mUn oNeg (mC (.int 23))) (mCons (mUn oNeg (mC (.int 20))) (mCons (mUn oNeg (mC (.int 56))) (mCons (mUn oNeg (mC (.int 3))) (mCons (mUn oNeg (mC (.int 4))) (mCons (mUn oNeg (mC (.int 7))) (mCons (mUn oNeg (mC (.int 8))) (mCons (mUn oNeg (mC (.int 11))) (mCons (mUn oNeg (mC (.int 12))) (mCons (mUn oNeg (mC (.int 15))) (mCons (mUn oNeg (mC (.int 16))) (mCons (mUn oNeg (mC (.int 24))) (mCons (mUn oNeg (mC (.int 27))) (mCons (mUn oNeg (mC (.int 28))) (mCons (mUn oNeg (mC (.int 31))) (mCons (mUn oNeg (mC (.int 32))) (mCons (mUn oNeg (mC (.int 35))) (mCons (mUn oNeg (mC (.int 36))) (mCons (mUn oNeg (mC (.int 39))) (mCons (mUn oNeg (mC (.int 40))) (mCons (mUn oNeg (mC (.int 43))) (mCons (mUn oNeg (mC (.int 44))) mNil))))))))))))))))))))))) (gN 1))
    (mSeq (mAsg (mTup (mCons (mUn oNeg (mC (.int 47))) (mCons (mUn oNeg (mC (.int 48))) (mCons (mUn oNeg (mC (.int 55))) (mCons (mUn oNeg (mC (.int 63))) (mCons (mUn oNeg (mC (.int 68))) (mCons (mUn oNeg (mC (.int 71))) (mCons (mUn oNeg (mC (.int 75))) (mCons (mUn oNeg (mC (.int 80))) (mCons (mUn oNeg (mC (.int 84))) (mCons (mUn oNeg (mC (.int 87))) (mCons (mUn oNeg (mC (.int 95))) (mCons (mUn oNeg (mC (.int 96))) (mCons (mUn oNeg (mC (.int 99))) (mCons (mUn oNeg (mC (.int 104))) (mCons (mUn oNeg (mC (.int 108))) (mCons (mUn oNeg (mC (.int 119))) (mCons (mUn oNeg (mC (.int 120))) (mCons (mUn oNeg (mC (.int 128))) (mCons (mUn oNeg (mC (.int 144))) (mCons (mUn oNeg (mC (.int 163))) mNil))))))))))))))))))))) (gN 2))
    (mSeq (mAsg (mTup (mCons (mUn oNeg (mC (.int 168))) (mCons (mUn oNeg (mC (.int 180))) (mCons (mUn oNeg (mC (.int 195))) (mCons (mUn oNeg (mC (.int 200))) (mCons (mUn oNeg (mC (.int 231))) (mCons (mUn oNeg (mC (.int 239))) (mCons (mUn oNeg (mC (.int 240))) (mCons (mUn oNeg (mC (.int 260))) (mCons (mUn oNeg (mC (.int 264))) (mCons (mUn oNeg (mC (.int 311))) (mCons (mUn oNeg (mC (.int 312))) (mCons (mUn oNeg (mC (.int 340))) (mCons (mUn oNeg (mC (.int 372))) (mCons (mUn oNeg (mC (.int 384))) (mCons (mUn oNeg (mC (.int 399))) (mCons (mUn oNeg (mC (.int 400))) mNil))))))))))))))))) (gN 3))
    (mRet (mCall 2 F__law_one (mCons (mVar 0) (mCons (mBin oIx (mTup (mCons (mVar 1) (mCons (mVar 1) (mCons (mVar 2) (mCons (mVar 3) mNil))))) (mCall 2 F__law_draw (mCons (mVar 0) (mCons (mC (.int 4)) mNil)))) mNil))))))))
def F__law_disc : MF := mFun 5 1 b__law_disc
theorem ok__law_disc (B : Blt mg) {f : Addr} {fd : FuncData} (F : Fun K "_law_disc" "_law_disc" s__law_disc f fd) (d__law_draw : Knows P w K mg base 1 "_law_draw" 2 F__law_draw) (d__law_one : Knows P w K mg base 2 "_law_one" 2 F__law_one) : FnG P w K mg base CX0 3 f fd ["well"] (spF K 1 F__law_disc) :=
  (fn_ok (b := b__law_disc) F sc__law_disc rfl rfl fun cdv A outer s H E hr =>
    (bvs_cons (bv_if (tv_cmp (or_eq (hu hr)) p_eq (ev_def d__law_draw (hr.mono (by decide)) (av_cons (ev_var 0) (av_cons ev_int av_nil))) ev_int (nomark _)) (bvs_one (bv_ret (ev_def d__law_one (hr.mono (by decide)) (av_cons (ev_var 0) (av_cons (ev_lc rfl sc__law_disc.nd (iv_range2 B.b_range (av_cons ev_int (av_cons ev_int av_nil))) (tg_name (by decide)) (blkOk_by (own := [("number", 4)]) (N := N__law_disc) (sc := defScope s__law_disc) (by decide +kernel)) rfl (fun _ _ _ _ _ => pg_name (i := 4) sc__law_disc.nd rfl (Or.inl rfl)) (fun _ _ _ _ _ => tvs_one (tv_cmp (op_inP (hu65 hr)) (p_in (neg := false)) (ev_bin op_mod p_mod (ev_callTy call_int1 c_int B.b_int bt_int (av_cons (ev_var 4) av_nil)) ev_int) (ev_tup (av_cons ev_int (av_cons ev_int av_nil))) (by with_unfolding_all rfl))) (fun _ _ _ _ _ => (ev_bin op_sub p_sub ev_int (ev_var 4)))) av_nil))))) bvs_nil)
    (bvs_cons (bv_set 1 sc__law_disc.nd (ev_tup (av_cons (ev_un un_neg p_neg ev_int) (av_cons (ev_un un_neg p_neg ev_int) (av_cons (ev_un un_neg p_neg ev_int) (av_cons (ev_un un_neg p_neg ev_int) (av_cons (ev_un un_neg p_neg ev_int) (av_cons (ev_un un_neg p_neg ev_int) (av_cons (ev_un un_neg p_neg ev_int) (av_cons (ev_un un_neg p_neg ev_int) (av_cons (ev_un un_neg p_neg ev_int) (av_cons (ev_un un_neg p_neg ev_int) (av_cons (ev_un un_neg p_neg ev_int) (av_cons (ev_un un_neg p_neg ev_int) (av_cons (ev_un un_neg p_neg ev_int) (av_cons (ev_un un_neg p_neg ev_int) (av_cons (ev_un un_neg p_neg ev_int) (av_cons (ev_un un_neg p_neg ev_int) (av_cons (ev_un un_neg p_neg ev_int) (av_cons (ev_un un_neg p_neg ev_int) (av_cons (ev_un un_neg p_neg ev_int) (av_cons (ev_un un_neg p_neg ev_int) (av_cons (ev_un un_neg p_neg ev_int) (av_cons (ev_un un_neg p_neg ev_int) av_nil))))))))))))))))))))))))
    (bvs_cons (bv_set 2 sc__law_disc.nd (ev_tup (av_cons (ev_un un_neg p_neg ev_int) (av_cons (ev_un un_neg p_neg ev_int) (av_cons (ev_un un_neg p_neg ev_int) (av_cons (ev_un un_neg p_neg ev_int) (av_cons (ev_un un_neg p_neg ev_int) (av_cons (ev_un un_neg p_neg ev_int) (av_cons (ev_un un_neg p_neg ev_int) (av_cons (ev_un un_neg p_neg ev_int) (av_cons (ev_un un_neg p_neg ev_int) (av_cons (ev_un un_neg p_neg ev_int) (av_cons (ev_un un_neg p_neg ev_int) (av_cons (ev_un un_neg p_neg ev_int) (av_cons (ev_un un_neg p_neg ev_int) (av_cons (ev_un un_neg p_neg ev_int) (av_cons (ev_un un_neg p_neg ev_int) (av_cons (ev_un un_neg p_neg ev_int) (av_cons (ev_un un_neg p_neg ev_int) (av_cons (ev_un un_neg p_neg ev_int) (av_cons (ev_un un_neg p_neg ev_int) (av_cons (ev_un un_neg p_neg ev_int) av_nil))))))))))))))))))))))
    (bvs_cons (bv_set 3 sc__law_disc.nd (ev_tup (av_cons (ev_un un_neg p_neg ev_int) (av_cons (ev_un un_neg p_neg ev_int) (av_cons (ev_un un_neg p_neg ev_int) (av_cons (ev_un un_neg p_neg ev_int) (av_cons (ev_un un_neg p_neg ev_int) (av_cons (ev_un un_neg p_neg ev_int) (av_cons (ev_un un_neg p_neg ev_int) (av_cons (ev_un un_neg p_neg ev_int) (av_cons (ev_un un_neg p_neg ev_int) (av_cons (ev_un un_neg p_neg ev_int) (av_cons (ev_un un_neg p_neg ev_int) (av_cons (ev_un un_neg p_neg ev_int) (av_cons (ev_un un_neg p_neg ev_int) (av_cons (ev_un un_neg p_neg ev_int) (av_cons (ev_un un_neg p_neg ev_int) (av_cons (ev_un un_neg p_neg ev_int) av_nil))))))))))))))))))
    (bvs_one (bv_ret (ev_def d__law_one (hr.mono (by decide)) (av_cons (ev_var 0) (av_cons (ev_ix (ev_tup (av_cons (ev_var 1) (av_cons (ev_var 1) (av_cons (ev_var 2) (av_cons (ev_var 3) av_nil))))) (ev_def d__law_draw (hr.mono (by decide)) (av_cons (ev_var 0) (av_cons ev_int av_nil)))) av_nil))))))))))
abbrev s__law_factors : Stmt := top 24
abbrev N__law_factors : List Str := ["number", "found", "left", "divisor"]
theorem sc__law_factors : FnScope ["number", "found", "left", "divisor"] ["number"] (defScope s__law_factors) := ⟨rfl, rfl, rfl, by decide +kernel, rfl, by decide +kernel, by decide +kernel⟩
def b__law_factors : MB :=
    (mSeq (mPar3 1 2 3 (mCons (mLstC mNil) (mCons (mVar 0) (mCons (mC (.int 2)) mNil))))
    (mSeq (mWhile (fun ms => 2 * slI ms 0 + 2) (mTBin cGt (mVar 2) (mC (.int 1))) (mSeq (mIfS (mTBin cGt (mBin oMulA (mVar 3) (mVar 3)) (mVar 2)) (mAsg (mVar 2) (gN 3)) mNx)
    (mIfS (mTBin oEq (mBin oMod (mCB oInt (mCons (mVar 2) mNil)) (mVar 3)) (mC (.int 0))) (mSeq (mDrop (mApp (mVar 1) (mCons (mVar 3) mNil)))
    (mAsg (mBin oDiv (mVar 2) (mVar 3)) (gN 2))) (mAsg (mBin oAdd (mVar 3) (mC (.int 1))) (gN 3)))))
    (mRet (mVar 1))))
def F__law_factors : MF := mFrz (mFun 4 1 b__law_factors)
theorem ok__law_factors (B : Blt mg) {f : Addr} {fd : FuncData} (F : Fun K "_law_factors" "_law_factors" s__law_factors f fd) : FnG P w K mg base CX0 1 f fd ["number"] (spF K 1 F__law_factors) :=
  fn_frz (fn_ok (b := b__law_factors) F sc__law_factors rfl rfl fun cdv A outer s H E hr =>
    (bvs_cons (bv_par3 1 2 3 rfl sc__law_factors.nd (av_cons (ev_lstC av_nil) (av_cons (ev_var 0) (av_cons ev_int av_nil))))
    (bvs_cons (bv_while (fun ms => 2 * slI ms 0 + 2) (tv_cmp op_gt (p_cI (p := fun i j => decide (j < i))) (ev_var 2) ev_int (nomark _)) (bvs_cons (bv_if (tv_cmp op_gt (p_cI (p := fun i j => decide (j < i))) (ev_bin or_mul p_mulA (ev_var 3) (ev_var 3)) (ev_var 2) (nomark _)) (bvs_one (bv_set 3 sc__law_factors.nd (ev_var 2))) bvs_nil)
    (bvs_one (bv_if (tv_cmp (or_eq (hu hr)) p_eq (ev_bin op_mod p_mod (ev_callTy call_int1 c_int B.b_int bt_int (av_cons (ev_var 2) av_nil)) (ev_var 3)) ev_int (nomark _)) (bvs_cons (bv_expr (ev_app (ev_var 1) (av_cons (ev_var 3) av_nil)))
    (bvs_one (bv_set 2 sc__law_factors.nd (ev_bin op_fdivW p_div (ev_var 2) (ev_var 3))))) (bvs_one (bv_set 3 sc__law_factors.nd (ev_bin or_addAll p_add (ev_var 3) ev_int)))))) PassesOwn.never)
    (bvs_one (bv_ret (ev_var 1))))))
abbrev s__law_symbol_at : Stmt := top 25
abbrev N__law_symbol_at : List Str := ["number", "prime", "squares", "b"]
theorem sc__law_symbol_at : FnScope ["number", "prime", "squares", "b"] ["number", "prime"] (defScope s__law_symbol_at) := ⟨rfl, rfl, rfl, by decide +kernel, rfl, by decide +kernel, by decide +kernel⟩
def b__law_symbol_at : MB :=
    (mSeq (mIfS (mTBin oEq (mBin oMod (mCB oInt (mCons (mVar 0) mNil)) (mVar 1)) (mC (.int 0))) (mRet (mC (.int 0))) mNx)
    (mSeq (mAsg (mComp (iR1 (mCons (mBin oMulA (mC (.int 2)) (mVar 1)) mNil)) (gN 3) (mTBin oEq (mBin oMod (mCB oInt (mCons (mBin oSub (mBin oMulA (mVar 3) (mVar 3)) (mVar 0)) mNil)) (mBin oMulA (mC (.int 4)) (mVar 1))) (mC (.int 0))) (mVar 3) [3]) (gN 2))
    (mRet (mIf (mTBin oNe (mVar 2) (mLst mNil)) (mC (.int 1)) (mUn oNeg (mC (.int 1)))))))
def F__law_symbol_at : MF := mFun 4 2 b__law_symbol_at
theorem ok__law_symbol_at (B : Blt mg) {f : Addr} {fd : FuncData} (F : Fun K "_law_symbol_at" "_law_symbol_at" s__law_symbol_at f fd) : FnG P w K mg base CX0 1 f fd ["number", "prime"] (spF K 2 F__law_symbol_at) :=
  (fn_ok (b := b__law_symbol_at) F sc__law_symbol_at rfl rfl fun cdv A outer s H E hr =>
    (bvs_cons (bv_if (tv_cmp (or_eq (hu hr)) p_eq (ev_bin op_mod p_mod (ev_callTy call_int1 c_int B.b_int bt_int (av_cons (ev_var 0) av_nil)) (ev_var 1)) ev_int (nomark _)) (bvs_one (bv_ret ev_int)) bvs_nil)
    (bvs_cons (bv_setLc 2 rfl sc__law_symbol_at.nd (iv_range1 B.b_range (av_cons (ev_bin or_mul p_mulA ev_int (ev_var 1)) av_nil)) (tg_name (by decide)) (blkOk_by (own := [("b", 3)]) (N := N__law_symbol_at) (sc := defScope s__law_symbol_at) (by decide +kernel)) rfl (sw_true rfl rfl rfl (by decide +kernel)) (fun _ _ _ _ _ => pg_name (i := 3) sc__law_symbol_at.nd rfl (Or.inl rfl)) (fun _ _ _ _ _ => tvs_one (tv_cmp (or_eq (hu hr)) p_eq (ev_bin op_mod p_mod (ev_callTy call_int1 c_int B.b_int bt_int (av_cons (ev_bin op_sub p_sub (ev_bin or_mul p_mulA (ev_var 3) (ev_var 3)) (ev_var 0)) av_nil)) (ev_bin or_mul p_mulA ev_int (ev_var 1))) ev_int (nomark _))) (fun _ _ _ _ _ => (ev_var 3)))
    (bvs_one (bv_ret (ev_if (tv_cmp (or_ne (hu hr)) p_ne (ev_var 2) (ev_lst av_nil) (nomark _)) ev_int (ev_un un_neg p_neg ev_int)))))))
abbrev s__law_symbol : Stmt := top 26
abbrev N__law_symbol : List Str := ["number", "many", "found", "prime"]
theorem sc__law_symbol : FnScope ["number", "many", "found", "prime"] ["number", "many"] (defScope s__law_symbol) := ⟨rfl, rfl, rfl, by decide +kernel, rfl, by decide +kernel, by decide +kernel⟩
def b__law_symbol : MB :=
    (mSeq (mAsg (mC (.int 1)) (gN 2))
    (mSeq (mFor (iS (mCall 1 F__law_factors (mCons (mVar 1) mNil))) (gN 3) (mAsg (mBin oMulA (mVar 2) (mCall 2 F__law_symbol_at (mCons (mVar 0) (mCons (mVar 3) mNil)))) (gN 2)))
    (mRet (mVar 2))))
def F__law_symbol : MF := mFun 4 2 b__law_symbol
theorem ok__law_symbol (B : Blt mg) {f : Addr} {fd : FuncData} (F : Fun K "_law_symbol" "_law_symbol" s__law_symbol f fd) (d__law_factors : Knows P w K mg base 1 "_law_factors" 1 F__law_factors) (d__law_symbol_at : Knows P w K mg base 1 "_law_symbol_at" 2 F__law_symbol_at) : FnG P w K mg base CX0 2 f fd ["number", "many"] (spF K 2 F__law_symbol) :=
  (fn_ok (b := b__law_symbol) F sc__law_symbol rfl rfl fun cdv A outer s H E hr =>
    (bvs_cons (bv_set 2 sc__law_symbol.nd ev_int)
    (bvs_cons (bv_for (iv_seq (ev_def d__law_factors (hr.mono (by decide)) (av_cons (ev_var 1) av_nil))) (gv_name 3 sc__law_symbol.nd) (bvs_one (bv_set 2 sc__law_symbol.nd (ev_bin or_mul p_mulA (ev_var 2) (ev_def d__law_symbol_at (hr.mono (by decide)) (av_cons (ev_var 0) (av_cons (ev_var 3) av_nil)))))) rfl PassesOwn.never)
    (bvs_one (bv_ret (ev_var 2))))))
abbrev s__law_parts : Stmt := top 27
abbrev N__law_parts : List Str := ["number", "square"]
theorem sc__law_parts : FnScope ["number", "square"] ["number"] (defScope s__law_parts) := ⟨rfl, rfl, rfl, by decide +kernel, rfl, by decide +kernel, by decide +kernel⟩
def b__law_parts : MB :=
    (mSeq (mFor (iR3 (mCons (mC (.int 20)) (mCons (mC (.int 0)) (mCons (mUn oNeg (mC (.int 1))) mNil)))) (gN 1) (mIfS (mAnd (mTBin oEq (mBin oMod (mCB oInt (mCons (mVar 0) mNil)) (mBin oMulA (mVar 1) (mVar 1))) (mC (.int 0))) (mTBin cLt (mBin oMod (mCB oInt (mCons (mBin oDiv (mVar 0) (mBin oMulA (mVar 1) (mVar 1))) mNil)) (mC (.int 4))) (mC (.int 2)))) (mRet (mTup (mCons (mBin oDiv (mVar 0) (mBin oMulA (mVar 1) (mVar 1))) (mCons (mVar 1) mNil)))) mNx))
    (mRet (mTup (mCons (mVar 0) (mCons (mC (.int 1)) mNil)))))
def F__law_parts : MF := mFun 2 1 b__law_parts
theorem ok__law_parts (B : Blt mg) {f : Addr} {fd : FuncData} (F : Fun K "_law_parts" "_law_parts" s__law_parts f fd) : FnG P w K mg base CX0 1 f fd ["number"] (spF K 1 F__law_parts) :=
  (fn_ok (b := b__law_parts) F sc__law_parts rfl rfl fun cdv A outer s H E hr =>
    (bvs_cons (bv_for (iv_range3 B.b_range (av_cons ev_int (av_cons ev_int (av_cons (ev_un un_neg p_neg ev_int) av_nil)))) (gv_name 1 sc__law_parts.nd) (bvs_one (bv_if (tv_pw (wv_and (tv_cmp (or_eq (hu hr)) p_eq (ev_bin op_mod p_mod (ev_callTy call_int1 c_int B.b_int bt_int (av_cons (ev_var 0) av_nil)) (ev_bin or_mul p_mulA (ev_var 1) (ev_var 1))) ev_int (nomark _)) (wv_and1 (tv_cmp op_lt (p_cI (p := fun i j => decide (i < j))) (ev_bin op_mod p_mod (ev_callTy call_int1 c_int B.b_int bt_int (av_cons (ev_bin op_fdivW p_div (ev_var 0) (ev_bin or_mul p_mulA (ev_var 1) (ev_var 1))) av_nil)) ev_int) ev_int (nomark _))))) (bvs_one (bv_ret (ev_tup (av_cons (ev_bin op_fdivW p_div (ev_var 0) (ev_bin or_mul p_mulA (ev_var 1) (ev_var 1))) (av_cons (ev_var 1) av_nil))))) bvs_nil)) rfl PassesOwn.never)
    (bvs_one (bv_ret (ev_tup (av_cons (ev_var 0) (av_cons ev_int av_nil)))))))
abbrev s__law_right : Stmt := top 28
abbrev N__law_right : List Str := ["well", "turn", "number", "some", "at", "thing", "told", "step", "many", "due", "other"]
theorem sc__law_right : FnScope ["well", "turn", "number", "some", "at", "thing", "told", "step", "many", "due", "other"] ["well"] (defScope s__law_right) := ⟨rfl, rfl, rfl, by decide +kernel, rfl, by decide +kernel, by decide +kernel⟩
def b__law_right : MB :=
    (mSeq (mFor (iR1 (mCons (mC (.int 3)) mNil)) (gN 1) (mSeq (mAsg (mCall 1 F__law_disc (mCons (mVar 0) mNil)) (gN 2))
    (mSeq (mAsg (mLst (mCons (mVar 2) (mCons (mBin oAdd (mVar 2) (mC (.int 1))) (mCons (mBin oSub (mVar 2) (mC (.int 1))) (mCons (mBin oAdd (mVar 2) (mC (.int 2))) (mCons (mBin oSub (mC (.int 0)) (mVar 2)) (mCons (mCB oStr (mCons (mVar 2) mNil)) (mCons (mTup (mCons (mVar 2) mNil)) (mCons (mUn oNeg (mC (.int 400))) (mCons (mUn oNeg (mC (.int 401))) (mCons (mUn oNeg (mC (.int 403))) (mCons (mUn oNeg (mC (.int 404))) (mCons (mC (.int 0)) mNil))))))))))))) (gN 3))
    (mSeq (mAsg (mBin oAdd (mVar 3) (mLst (mCons (mUn oNeg (mC (.int 3))) (mCons (mUn oNeg (mC (.int 4))) (mCons (mUn oNeg (mC (.int 2))) (mCons (mC (.int 1)) (mCons (mC (.int 5)) (mCons (mC (.bl true)) (mCons (mBin oMulA (mUn oNeg (mC (.int 4))) (mBin oPow (mC (.int 10)) (mC (.int 9)))) (mCons (mCall 1 F__law_odd_thing (mCons (mVar 0) mNil)) (mCons (mC .non) (mCons (mBin oSub (mCall 2 F__law_draw (mCons (mVar 0) (mCons (mC (.int 500)) mNil))) (mC (.int 450))) mNil)))))))))))) (gN 3))
    (mSeq (mFor (iEn (mCons (mVar 3) mNil)) (gT 2 (gsCons (gN 4) (gsCons (gN 5) gsNil))) (mSeq (mAsg (mIf (mTBin oEq (mBin oMod (mCB oInt (mCons (mVar 4) mNil)) (mC (.int 2))) (mC (.int 0))) (mCall 1 F_is_discriminant (mCons (mVar 5) mNil)) (mCallK 1 (permK [0]) F_is_discriminant mNil (mCons (mVar 5) mNil))) (gN 6))
    (mIfS (mTBin oNe (mCB oRepr (mCons (mVar 6) mNil)) (mCB oRepr (mCons (mCall 1 F__law_is_discriminant (mCons (mVar 5) mNil)) mNil))) (mRet (mC (.bl false))) mNx)))
    (mSeq (mIfS (mTBin oNe (mCB oRepr (mCons (mLst (mCons (mCall 1 F_parts_of (mCons (mVar 2) mNil)) (mCons (mCallK 1 (permK [0]) F_parts_of mNil (mCons (mVar 2) mNil)) mNil))) mNil)) (mCB oRepr (mCons (mBin oMulA (mLst (mCons (mCall 1 F__law_parts (mCons (mVar 2) mNil)) mNil)) (mC (.int 2))) mNil))) (mRet (mC (.bl false))) mNx)
    (mFor (iR1 (mCons (mC (.int 6)) mNil)) (gN 7) (mSeq (mAsg (mCall 2 F__law_one (mCons (mVar 0) (mCons (mTup (mCons (mC (.int 1)) (mCons (mC (.int 2)) (mCons (mC (.int 4)) (mCons (mC (.int 8)) (mCons (mBin oAdd (mC (.int 1)) (mCall 2 F__law_draw (mCons (mVar 0) (mCons (mC (.int 200)) mNil)))) (mCons (mBin oAdd (mC (.int 1)) (mCall 2 F__law_draw (mCons (mVar 0) (mCons (mC (.int 40)) mNil)))) mNil))))))) mNil))) (gN 8))
    (mSeq (mAsg (mIf (mTBin oEq (mCall 2 F__law_draw (mCons (mVar 0) (mCons (mC (.int 20)) mNil))) (mC (.int 0))) (mBin oAdd (mC (.int 1)) (mCall 2 F__law_draw (mCons (mVar 0) (mCons (mC (.int 10000)) mNil)))) (mVar 8)) (gN 8))
    (mSeq (mAsg (mCall 2 F__law_symbol (mCons (mVar 2) (mCons (mVar 8) mNil))) (gN 9))
    (mSeq (mIfS (mTBin oNe (mCB oRepr (mCons (mLst (mCons (mCall 2 F_symbol (mCons (mVar 2) (mCons (mVar 8) mNil))) (mCons (mCallK 2 (permK [1, 0]) F_symbol mNil (mCons (mVar 8) (mCons (mVar 2) mNil))) mNil))) mNil)) (mCB oRepr (mCons (mLst (mCons (mVar 9) (mCons (mVar 9) mNil))) mNil))) (mRet (mC (.bl false))) mNx)
    (mSeq (mAsg (mBin oAdd (mC (.int 1)) (mCall 2 F__law_draw (mCons (mVar 0) (mCons (mC (.int 40)) mNil)))) (gN 10))
    (mIfS (mAnd (mTBin cLt (mVar 8) (mC (.int 250))) (mTBin oNe (mCall 2 F_symbol (mCons (mVar 2) (mCons (mBin oMulA (mVar 8) (mVar 10)) mNil))) (mBin oMulA (mVar 9) (mCall 2 F__law_symbol (mCons (mVar 2) (mCons (mVar 10) mNil)))))) (mRet (mC (.bl false))) mNx)))))))))))))
    (mRet (mC (.bl true))))
def F__law_right : MF := mFun 11 1 b__law_right
theorem ok__law_right (B : Blt mg) {f : Addr} {fd : FuncData} (F : Fun K "_law_right" "_law_right" s__law_right f fd) (d__law_disc : Knows P w K mg base 3 "_law_disc" 1 F__law_disc) (d__law_draw : Knows P w K mg base 1 "_law_draw" 2 F__law_draw) (d__law_is_discriminant : Knows P w K mg base 2 "_law_is_discriminant" 1 F__law_is_discriminant) (d__law_odd_thing : Knows P w K mg base 3 "_law_odd_thing" 1 F__law_odd_thing) (d__law_one : Knows P w K mg base 2 "_law_one" 2 F__law_one) (d__law_parts : Knows P w K mg base 1 "_law_parts" 1 F__law_parts) (d__law_symbol : Knows P w K mg base 2 "_law_symbol" 2 F__law_symbol) (d_is_discriminant : Knows P w K mg base 3 "is_discriminant" 1 F_is_discriminant) (d_parts_of : Knows P w K mg base 5 "parts_of" 1 F_parts_of) (d_symbol : Knows P w K mg base 5 "symbol" 2 F_symbol) (k_is_discriminant_0 : KnowsK P w K mg base 3 "is_discriminant" 1 F_is_discriminant ["value"] [0]) (k_parts_of_0 : KnowsK P w K mg base 5 "parts_of" 1 F_parts_of ["discriminant"] [0]) (k_symbol_1_0 : KnowsK P w K mg base 5 "symbol" 2 F_symbol ["number", "discriminant"] [1, 0]) : FnG P w K mg base CX0 6 f fd ["well"] (spF K 1 F__law_right) :=
  (fn_ok (b := b__law_right) F sc__law_right rfl rfl fun cdv A outer s H E hr =>
    (bvs_cons (bv_for (iv_range1 B.b_range (av_cons ev_int av_nil)) (gv_name 1 sc__law_right.nd) (bvs_cons (bv_set 2 sc__law_right.nd (ev_def d__law_disc (hr.mono (by decide)) (av_cons (ev_var 0) av_nil)))
    (bvs_cons (bv_set 3 sc__law_right.nd (ev_lst (av_cons (ev_var 2) (av_cons (ev_bin or_addAll p_add (ev_var 2) ev_int) (av_cons (ev_bin op_sub p_sub (ev_var 2) ev_int) (av_cons (ev_bin or_addAll p_add (ev_var 2) ev_int) (av_cons (ev_bin op_sub p_sub ev_int (ev_var 2)) (av_cons (ev_callTy call_str_int c_str B.b_str bt_str (av_cons (ev_var 2) av_nil)) (av_cons (ev_tup (av_cons (ev_var 2) av_nil)) (av_cons (ev_un un_neg p_neg ev_int) (av_cons (ev_un un_neg p_neg ev_int) (av_cons (ev_un un_neg p_neg ev_int) (av_cons (ev_un un_neg p_neg ev_int) (av_cons ev_int av_nil))))))))))))))
    (bvs_cons (bv_set 3 sc__law_right.nd (ev_bin or_addAll p_add (ev_var 3) (ev_lst (av_cons (ev_un un_neg p_neg ev_int) (av_cons (ev_un un_neg p_neg ev_int) (av_cons (ev_un un_neg p_neg ev_int) (av_cons ev_int (av_cons ev_int (av_cons ev_bl (av_cons (ev_bin or_mul p_mulA (ev_un un_neg p_neg ev_int) (ev_bin op_pow p_pow ev_int ev_int)) (av_cons (ev_def d__law_odd_thing (hr.mono (by decide)) (av_cons (ev_var 0) av_nil)) (av_cons ev_non (av_cons (ev_bin op_sub p_sub (ev_def d__law_draw (hr.mono (by decide)) (av_cons (ev_var 0) (av_cons ev_int av_nil))) ev_int) av_nil)))))))))))))
    (bvs_cons (bv_for (iv_enum B.b_enumerate (av_cons (ev_var 3) av_nil)) (gv_tup rfl (gvs_cons (gv_name 4 sc__law_right.nd) (gvs_cons (gv_name 5 sc__law_right.nd) gvs_nil))) (bvs_cons (bv_set 6 sc__law_right.nd (ev_if (tv_cmp (or_eq (hu hr)) p_eq (ev_bin op_mod p_mod (ev_callTy call_int1 c_int B.b_int bt_int (av_cons (ev_var 4) av_nil)) ev_int) ev_int (nomark _)) (ev_def d_is_discriminant (hr.mono (by decide)) (av_cons (ev_var 5) av_nil)) (ev_defK k_is_discriminant_0 (hr.mono (by decide)) (kv_cons (ev_var 5) kv_nil))))
    (bvs_one (bv_if (tv_cmp (or_ne (hu hr)) p_ne (ev_callB (call_reprP hr.g (hu hr)) c_repr B.b_repr bt_repr (av_cons (ev_var 6) av_nil)) (ev_callB (call_reprP hr.g (hu hr)) c_repr B.b_repr bt_repr (av_cons (ev_def d__law_is_discriminant (hr.mono (by decide)) (av_cons (ev_var 5) av_nil)) av_nil)) (nomark _)) (bvs_one (bv_ret ev_bl)) bvs_nil))) rfl PassesOwn.never)
    (bvs_cons (bv_if (tv_cmp (or_ne (hu hr)) p_ne (ev_callB (call_reprP hr.g (hu hr)) c_repr B.b_repr bt_repr (av_cons (ev_lst (av_cons (ev_def d_parts_of (hr.mono (by decide)) (av_cons (ev_var 2) av_nil)) (av_cons (ev_defK k_parts_of_0 (hr.mono (by decide)) (kv_cons (ev_var 2) kv_nil)) av_nil))) av_nil)) (ev_callB (call_reprP hr.g (hu hr)) c_repr B.b_repr bt_repr (av_cons (ev_bin or_mul p_mulA (ev_lst (av_cons (ev_def d__law_parts (hr.mono (by decide)) (av_cons (ev_var 2) av_nil)) av_nil)) ev_int) av_nil)) (nomark _)) (bvs_one (bv_ret ev_bl)) bvs_nil)
    (bvs_one (bv_for (iv_range1 B.b_range (av_cons ev_int av_nil)) (gv_name 7 sc__law_right.nd) (bvs_cons (bv_set 8 sc__law_right.nd (ev_def d__law_one (hr.mono (by decide)) (av_cons (ev_var 0) (av_cons (ev_tup (av_cons ev_int (av_cons ev_int (av_cons ev_int (av_cons ev_int (av_cons (ev_bin or_addAll p_add ev_int (ev_def d__law_draw (hr.mono (by decide)) (av_cons (ev_var 0) (av_cons ev_int av_nil)))) (av_cons (ev_bin or_addAll p_add ev_int (ev_def d__law_draw (hr.mono (by decide)) (av_cons (ev_var 0) (av_cons ev_int av_nil)))) av_nil))))))) av_nil))))
    (bvs_cons (bv_set 8 sc__law_right.nd (ev_if (tv_cmp (or_eq (hu hr)) p_eq (ev_def d__law_draw (hr.mono (by decide)) (av_cons (ev_var 0) (av_cons ev_int av_nil))) ev_int (nomark _)) (ev_bin or_addAll p_add ev_int (ev_def d__law_draw (hr.mono (by decide)) (av_cons (ev_var 0) (av_cons ev_int av_nil)))) (ev_var 8)))
    (bvs_cons (bv_set 9 sc__law_right.nd (ev_def d__law_symbol (hr.mono (by decide)) (av_cons (ev_var 2) (av_cons (ev_var 8) av_nil))))
    (bvs_cons (bv_if (tv_cmp (or_ne (hu hr)) p_ne (ev_callB (call_reprP hr.g (hu hr)) c_repr B.b_repr bt_repr (av_cons (ev_lst (av_cons (ev_def d_symbol (hr.mono (by decide)) (av_cons (ev_var 2) (av_cons (ev_var 8) av_nil))) (av_cons (ev_defK k_symbol_1_0 (hr.mono (by decide)) (kv_cons (ev_var 8) (kv_cons (ev_var 2) kv_nil))) av_nil))) av_nil)) (ev_callB (call_reprP hr.g (hu hr)) c_repr B.b_repr bt_repr (av_cons (ev_lst (av_cons (ev_var 9) (av_cons (ev_var 9) av_nil))) av_nil)) (nomark _)) (bvs_one (bv_ret ev_bl)) bvs_nil)
    (bvs_cons (bv_set 10 sc__law_right.nd (ev_bin or_addAll p_add ev_int (ev_def d__law_draw (hr.mono (by decide)) (av_cons (ev_var 0) (av_cons ev_int av_nil)))))
    (bvs_one (bv_if (tv_pw (wv_and (tv_cmp op_lt (p_cI (p := fun i j => decide (i < j))) (ev_var 8) ev_int (nomark _)) (wv_and1 (tv_cmp (or_ne (hu hr)) p_ne (ev_def d_symbol (hr.mono (by decide)) (av_cons (ev_var 2) (av_cons (ev_bin or_mul p_mulA (ev_var 8) (ev_var 10)) av_nil))) (ev_bin or_mul p_mulA (ev_var 9) (ev_def d__law_symbol (hr.mono (by decide)) (av_cons (ev_var 2) (av_cons (ev_var 10) av_nil)))) (nomark _))))) (bvs_one (bv_ret ev_bl)) bvs_nil))))))) rfl PassesOwn.never))))))) rfl PassesOwn.never)
    (bvs_one (bv_ret ev_bl))))
abbrev s_law : Stmt := top 29
abbrev N_law : List Str := ["script", "lap"]
theorem sc_law : FnScope ["script", "lap"] ["script"] (defScope s_law) := ⟨rfl, rfl, rfl, by decide +kernel, rfl, by decide +kernel, by decide +kernel⟩
def b_law : MB :=
    (mRet (mCB oAll (mCons (mComp (iR1 (mCons (mCB oMax2 (mCons (mC (.int 2)) (mCons (mCB oMin2 (mCons (mCB oLen (mCons (mVar 0) mNil)) (mCons (mC (.int 3)) mNil))) mNil))) mNil)) (gN 1) mYes (mCall 1 F__law_right (mCons (mCall 2 F__law_well (mCons (mVar 0) (mCons (mVar 1) mNil))) mNil)) [1]) mNil)))
def F_law : MF := mFun 2 1 b_law
theorem ok_law (B : Blt mg) {f : Addr} {fd : FuncData} (F : Fun K "law" "law" s_law f fd) (d__law_right : Knows P w K mg base 6 "_law_right" 1 F__law_right) (d__law_well : Knows P w K mg base 1 "_law_well" 2 F__law_well) : FnG P w K mg base CX0 7 f fd ["script"] (spF K 1 F_law) :=
  (fn_ok (b := b_law) F sc_law rfl rfl fun cdv A outer s H E hr =>
    (bvs_one (bv_ret (ev_callB (cr_all rfl) c_all B.b_all bt_all (av_cons (ev_lc rfl sc_law.nd (iv_range1 B.b_range (av_cons (ev_callB (call_max2 rfl) c_max2 B.b_max bt_max (av_cons ev_int (av_cons (ev_callB (call_min2 rfl) c_min2 B.b_min bt_min (av_cons (ev_callB call_len c_len B.b_len bt_len (av_cons (ev_var 0) av_nil)) (av_cons ev_int av_nil))) av_nil))) av_nil)) (tg_name (by decide)) (blkOk_by (own := [("lap", 1)]) (N := N_law) (sc := defScope s_law) (by decide +kernel)) rfl (fun _ _ _ _ _ => pg_name (i := 1) sc_law.nd rfl (Or.inl rfl)) (fun _ _ _ _ _ => tvs_nil) (fun _ _ _ _ _ => (ev_def d__law_right (hr.mono (by decide)) (av_cons (ev_def d__law_well (hr.mono (by decide)) (av_cons (ev_var 0) (av_cons (ev_var 1) av_nil))) av_nil)))) av_nil)))))
end
structure Top (K : PySem.W.Frag) (mg : Str → Option Value) : Prop where
  B : Blt mg
  t_is_whole : Stands K mg "is_whole" s_is_whole
  t_is_whole_between : Stands K mg "is_whole_between" s_is_whole_between
  t_prime_parts : Stands K mg "prime_parts" s_prime_parts
  t_power_modulo : Stands K mg "power_modulo" s_power_modulo
  t_is_discriminant : Stands K mg "is_discriminant" s_is_discriminant
  t_check_discriminant : Stands K mg "check_discriminant" s_check_discriminant
  t_is_square_part : Stands K mg "is_square_part" s_is_square_part
  t_parts_of : Stands K mg "parts_of" s_parts_of
  t_symbol_at_prime : Stands K mg "symbol_at_prime" s_symbol_at_prime
  t_symbol : Stands K mg "symbol" s_symbol
  t__law_well : Stands K mg "_law_well" s__law_well
  t__law_draw : Stands K mg "_law_draw" s__law_draw
  t__law_one : Stands K mg "_law_one" s__law_one
  t__law_is_whole : Stands K mg "_law_is_whole" s__law_is_whole
  t__law_odd_thing : Stands K mg "_law_odd_thing" s__law_odd_thing
  t__law_is_discriminant : Stands K mg "_law_is_discriminant" s__law_is_discriminant
  t__law_disc : Stands K mg "_law_disc" s__law_disc
  t__law_factors : Stands K mg "_law_factors" s__law_factors
  t__law_symbol_at : Stands K mg "_law_symbol_at" s__law_symbol_at
  t__law_symbol : Stands K mg "_law_symbol" s__law_symbol
  t__law_parts : Stands K mg "_law_parts" s__law_parts
  t__law_right : Stands K mg "_law_right" s__law_right
  t_law : Stands K mg "law" s_law
structure All (P : Program) (w : World) (K : PySem.W.Frag) (mg : Str → Option Value) (base : Heap) : Prop where
  d_is_whole : Knows P w K mg base 1 "is_whole" 1 F_is_whole
  d_is_whole_between : Knows P w K mg base 2 "is_whole_between" 3 F_is_whole_between
  d_prime_parts : Knows P w K mg base 1 "prime_parts" 1 F_prime_parts
  d_power_modulo : Knows P w K mg base 1 "power_modulo" 3 F_power_modulo
  d_is_discriminant : Knows P w K mg base 3 "is_discriminant" 1 F_is_discriminant
  k_is_discriminant_0 : KnowsK P w K mg base 3 "is_discriminant" 1 F_is_discriminant ["value"] [0]
  d_check_discriminant : Knows P w K mg base 4 "check_discriminant" 1 F_check_discriminant
  d_is_square_part : Knows P w K mg base 4 "is_square_part" 2 F_is_square_part
  d_parts_of : Knows P w K mg base 5 "parts_of" 1 F_parts_of
  k_parts_of_0 : KnowsK P w K mg base 5 "parts_of" 1 F_parts_of ["discriminant"] [0]
  d_symbol_at_prime : Knows P w K mg base 2 "symbol_at_prime" 2 F_symbol_at_prime
  d_symbol : Knows P w K mg base 5 "symbol" 2 F_symbol
  k_symbol_1_0 : KnowsK P w K mg base 5 "symbol" 2 F_symbol ["number", "discriminant"] [1, 0]
  d__law_well : Knows P w K mg base 1 "_law_well" 2 F__law_well
  d__law_draw : Knows P w K mg base 1 "_law_draw" 2 F__law_draw
  d__law_one : Knows P w K mg base 2 "_law_one" 2 F__law_one
  d__law_is_whole : Knows P w K mg base 1 "_law_is_whole" 1 F__law_is_whole
  d__law_odd_thing : Knows P w K mg base 3 "_law_odd_thing" 1 F__law_odd_thing
  d__law_is_discriminant : Knows P w K mg base 2 "_law_is_discriminant" 1 F__law_is_discriminant
  d__law_disc : Knows P w K mg base 3 "_law_disc" 1 F__law_disc
  d__law_factors : Knows P w K mg base 1 "_law_factors" 1 F__law_factors
  d__law_symbol_at : Knows P w K mg base 1 "_law_symbol_at" 2 F__law_symbol_at
  d__law_symbol : Knows P w K mg base 2 "_law_symbol" 2 F__law_symbol
  d__law_parts : Knows P w K mg base 1 "_law_parts" 1 F__law_parts
  d__law_right : Knows P w K mg base 6 "_law_right" 1 F__law_right
  d_law : Knows P w K mg base 7 "law" 1 F_law
theorem all {P : Program} {w : World} {K : PySem.W.Frag} {mg : Str → Option Value} {base : Heap} (T : Top K mg) : All P w K mg base := by
  obtain ⟨f, fd, F, m⟩ := T.t_is_whole.ex
  have g := ok_is_whole (P := P) (w := w) (base := base) T.B F
  have d_is_whole : Knows P w K mg base 1 "is_whole" 1 F_is_whole := ⟨f, fd, _, rfl, g, m, F.kp, F.binds fun _ _ _ _ _ _ us hl => match us, hl with | [_], _ => rfl⟩
  clear g F m f fd
  obtain ⟨f, fd, F, m⟩ := T.t_is_whole_between.ex
  have g := ok_is_whole_between (P := P) (w := w) (base := base) T.B F d_is_whole
  have d_is_whole_between : Knows P w K mg base 2 "is_whole_between" 3 F_is_whole_between := ⟨f, fd, _, rfl, g, m, F.kp, F.binds fun _ _ _ _ _ _ us hl => match us, hl with | [_, _, _], _ => rfl⟩
  clear g F m f fd
  obtain ⟨f, fd, F, m⟩ := T.t_prime_parts.ex
  have g := ok_prime_parts (P := P) (w := w) (base := base) T.B F
  have d_prime_parts : Knows P w K mg base 1 "prime_parts" 1 F_prime_parts := ⟨f, fd, _, rfl, g, m, F.kp, F.binds fun _ _ _ _ _ _ us hl => match us, hl with | [_], _ => rfl⟩
  clear g F m f fd
  obtain ⟨f, fd, F, m⟩ := T.t_power_modulo.ex
  have g := ok_power_modulo (P := P) (w := w) (base := base) T.B F
  have d_power_modulo : Knows P w K mg base 1 "power_modulo" 3 F_power_modulo := ⟨f, fd, _, rfl, g, m, F.kp, F.binds fun _ _ _ _ _ _ us hl => match us, hl with | [_, _, _], _ => rfl⟩
  clear g F m f fd
  obtain ⟨f, fd, F, m⟩ := T.t_is_discriminant.ex
  have g := ok_is_discriminant (P := P) (w := w) (base := base) T.B F d_is_whole_between
  have d_is_discriminant : Knows P w K mg base 3 "is_discriminant" 1 F_is_discriminant := ⟨f, fd, _, rfl, g, m, F.kp, F.binds fun _ _ _ _ _ _ us hl => match us, hl with | [_], _ => rfl⟩
  have k_is_discriminant_0 : KnowsK P w K mg base 3 "is_discriminant" 1 F_is_discriminant ["value"] [0] := by
    refine ⟨f, fd, _, rfl, g, m, F.kp, fun s us ws X hl => ?_, perm_rel _⟩
    obtain ⟨oc, od, kV, doc, pm, an, cdv, ct, osl, rfl, lk, hcd⟩ := F.ex
    obtain ⟨rfl, hw⟩ := kw_len (perm := [0]) hl (by decide)
    match ws, hw with
    | [_], _ => exact .of_eq rfl
  clear g F m f fd
  obtain ⟨f, fd, F, m⟩ := T.t_check_discriminant.ex
  have g := ok_check_discriminant (P := P) (w := w) (base := base) T.B F d_is_discriminant
  have d_check_discriminant : Knows P w K mg base 4 "check_discriminant" 1 F_check_discriminant := ⟨f, fd, _, rfl, g, m, F.kp, F.binds fun _ _ _ _ _ _ us hl => match us, hl with | [_], _ => rfl⟩
  clear g F m f fd
  obtain ⟨f, fd, F, m⟩ := T.t_is_square_part.ex
  have g := ok_is_square_part (P := P) (w := w) (base := base) T.B F d_is_discriminant
  have d_is_square_part : Knows P w K mg base 4 "is_square_part" 2 F_is_square_part := ⟨f, fd, _, rfl, g, m, F.kp, F.binds fun _ _ _ _ _ _ us hl => match us, hl with | [_, _], _ => rfl⟩
  clear g F m f fd
  obtain ⟨f, fd, F, m⟩ := T.t_parts_of.ex
  have g := ok_parts_of (P := P) (w := w) (base := base) T.B F d_check_discriminant d_is_square_part
  have d_parts_of : Knows P w K mg base 5 "parts_of" 1 F_parts_of := ⟨f, fd, _, rfl, g, m, F.kp, F.binds fun _ _ _ _ _ _ us hl => match us, hl with | [_], _ => rfl⟩
  have k_parts_of_0 : KnowsK P w K mg base 5 "parts_of" 1 F_parts_of ["discriminant"] [0] := by
    refine ⟨f, fd, _, rfl, g, m, F.kp, fun s us ws X hl => ?_, perm_rel _⟩
    obtain ⟨oc, od, kV, doc, pm, an, cdv, ct, osl, rfl, lk, hcd⟩ := F.ex
    obtain ⟨rfl, hw⟩ := kw_len (perm := [0]) hl (by decide)
    match ws, hw with
    | [_], _ => exact .of_eq rfl
  clear g F m f fd
  obtain ⟨f, fd, F, m⟩ := T.t_symbol_at_prime.ex
  have g := ok_symbol_at_prime (P := P) (w := w) (base := base) T.B F d_power_modulo
  have d_symbol_at_prime : Knows P w K mg base 2 "symbol_at_prime" 2 F_symbol_at_prime := ⟨f, fd, _, rfl, g, m, F.kp, F.binds fun _ _ _ _ _ _ us hl => match us, hl with | [_, _], _ => rfl⟩
  clear g F m f fd
  obtain ⟨f, fd, F, m⟩ := T.t_symbol.ex
  have g := ok_symbol (P := P) (w := w) (base := base) T.B F d_check_discriminant d_is_whole_between d_prime_parts d_symbol_at_prime
  have d_symbol : Knows P w K mg base 5 "symbol" 2 F_symbol := ⟨f, fd, _, rfl, g, m, F.kp, F.binds fun _ _ _ _ _ _ us hl => match us, hl with | [_, _], _ => rfl⟩
  have k_symbol_1_0 : KnowsK P w K mg base 5 "symbol" 2 F_symbol ["number", "discriminant"] [1, 0] := by
    refine ⟨f, fd, _, rfl, g, m, F.kp, fun s us ws X hl => ?_, perm_rel _⟩
    obtain ⟨oc, od, kV, doc, pm, an, cdv, ct, osl, rfl, lk, hcd⟩ := F.ex
    obtain ⟨rfl, hw⟩ := kw_len (perm := [1, 0]) hl (by decide)
    match ws, hw with
    | [_, _], _ => exact .of_eq rfl
  clear g F m f fd
  obtain ⟨f, fd, F, m⟩ := T.t__law_well.ex
  have g := ok__law_well (P := P) (w := w) (base := base) T.B F
  have d__law_well : Knows P w K mg base 1 "_law_well" 2 F__law_well := ⟨f, fd, _, rfl, g, m, F.kp, F.binds fun _ _ _ _ _ _ us hl => match us, hl with | [_, _], _ => rfl⟩
  clear g F m f fd
  obtain ⟨f, fd, F, m⟩ := T.t__law_draw.ex
  have g := ok__law_draw (P := P) (w := w) (base := base) T.B F
  have d__law_draw : Knows P w K mg base 1 "_law_draw" 2 F__law_draw := ⟨f, fd, _, rfl, g, m, F.kp, F.binds fun _ _ _ _ _ _ us hl => match us, hl with | [_, _], _ => rfl⟩
  clear g F m f fd
  obtain ⟨f, fd, F, m⟩ := T.t__law_one.ex
  have g := ok__law_one (P := P) (w := w) (base := base) T.B F d__law_draw
  have d__law_one : Knows P w K mg base 2 "_law_one" 2 F__law_one := ⟨f, fd, _, rfl, g, m, F.kp, F.binds fun _ _ _ _ _ _ us hl => match us, hl with | [_, _], _ => rfl⟩
  clear g F m f fd
  obtain ⟨f, fd, F, m⟩ := T.t__law_is_whole.ex
  have g := ok__law_is_whole (P := P) (w := w) (base := base) T.B F
  have d__law_is_whole : Knows P w K mg base 1 "_law_is_whole" 1 F__law_is_whole := ⟨f, fd, _, rfl, g, m, F.kp, F.binds fun _ _ _ _ _ _ us hl => match us, hl with | [_], _ => rfl⟩
  clear g F m f fd
  obtain ⟨f, fd, F, m⟩ := T.t__law_odd_thing.ex
  have g := ok__law_odd_thing (P := P) (w := w) (base := base) T.B F d__law_one
  have d__law_odd_thing : Knows P w K mg base 3 "_law_odd_thing" 1 F__law_odd_thing := ⟨f, fd, _, rfl, g, m, F.kp, F.binds fun _ _ _ _ _ _ us hl => match us, hl with | [_], _ => rfl⟩
  clear g F m f fd
  obtain ⟨f, fd, F, m⟩ := T.t__law_is_discriminant.ex
  have g := ok__law_is_discriminant (P := P) (w := w) (base := base) T.B F d__law_is_whole
  have d__law_is_discriminant : Knows P w K mg base 2 "_law_is_discriminant" 1 F__law_is_discriminant := ⟨f, fd, _, rfl, g, m, F.kp, F.binds fun _ _ _ _ _ _ us hl => match us, hl with | [_], _ => rfl⟩
  clear g F m f fd
  obtain ⟨f, fd, F, m⟩ := T.t__law_disc.ex
  have g := ok__law_disc (P := P) (w := w) (base := base) T.B F d__law_draw d__law_one
  have d__law_disc : Knows P w K mg base 3 "_law_disc" 1 F__law_disc := ⟨f, fd, _, rfl, g, m, F.kp, F.binds fun _ _ _ _ _ _ us hl => match us, hl with | [_], _ => rfl⟩
  clear g F m f fd
  obtain ⟨f, fd, F, m⟩ := T.t__law_factors.ex
  have g := ok__law_factors (P := P) (w := w) (base := base) T.B F
  have d__law_factors : Knows P w K mg base 1 "_law_factors" 1 F__law_factors := ⟨f, fd, _, rfl, g, m, F.kp, F.binds fun _ _ _ _ _ _ us hl => match us, hl with | [_], _ => rfl⟩
  clear g F m f fd
  obtain ⟨f, fd, F, m⟩ := T.t__law_symbol_at.ex
  have g := ok__law_symbol_at (P := P) (w := w) (base := base) T.B F
  have d__law_symbol_at : Knows P w K mg base 1 "_law_symbol_at" 2 F__law_symbol_at := ⟨f, fd, _, rfl, g, m, F.kp, F.binds fun _ _ _ _ _ _ us hl => match us, hl with | [_, _], _ => rfl⟩
  clear g F m f fd
  obtain ⟨f, fd, F, m⟩ := T.t__law_symbol.ex
  have g := ok__law_symbol (P := P) (w := w) (base := base) T.B F d__law_factors d__law_symbol_at
  have d__law_symbol : Knows P w K mg base 2 "_law_symbol" 2 F__law_symbol := ⟨f, fd, _, rfl, g, m, F.kp, F.binds fun _ _ _ _ _ _ us hl => match us, hl with | [_, _], _ => rfl⟩
  clear g F m f fd
  obtain ⟨f, fd, F, m⟩ := T.t__law_parts.ex
  have g := ok__law_parts (P := P) (w := w) (base := base) T.B F
  have d__law_parts : Knows P w K mg base 1 "_law_parts" 1 F__law_parts := ⟨f, fd, _, rfl, g, m, F.kp, F.binds fun _ _ _ _ _ _ us hl => match us, hl with | [_], _ => rfl⟩
  clear g F m f fd
  obtain ⟨f, fd, F, m⟩ := T.t__law_right.ex
  have g := ok__law_right (P := P) (w := w) (base := base) T.B F d__law_disc d__law_draw d__law_is_discriminant d__law_odd_thing d__law_one d__law_parts d__law_symbol d_is_discriminant d_parts_of d_symbol k_is_discriminant_0 k_parts_of_0 k_symbol_1_0
  have d__law_right : Knows P w K mg base 6 "_law_right" 1 F__law_right := ⟨f, fd, _, rfl, g, m, F.kp, F.binds fun _ _ _ _ _ _ us hl => match us, hl with | [_], _ => rfl⟩
  clear g F m f fd
  obtain ⟨f, fd, F, m⟩ := T.t_law.ex
  have g := ok_law (P := P) (w := w) (base := base) T.B F d__law_right d__law_well
  have d_law : Knows P w K mg base 7 "law" 1 F_law := ⟨f, fd, _, rfl, g, m, F.kp, F.binds fun _ _ _ _ _ _ us hl => match us, hl with | [_], _ => rfl⟩
  clear g F m f fd
  exact ⟨d_is_whole, d_is_whole_between, d_prime_parts, d_power_modulo, d_is_discriminant, k_is_discriminant_0, d_check_discriminant, d_is_square_part, d_parts_of, k_parts_of_0, d_symbol_at_prime, d_symbol, k_symbol_1_0, d__law_well, d__law_draw, d__law_one, d__law_is_whole, d__law_odd_thing, d__law_is_discriminant, d__law_disc, d__law_factors, d__law_symbol_at, d__law_symbol, d__law_parts, d__law_right, d_law⟩
end Law

set_option Elab.async false
set_option linter.all false
set_option maxRecDepth 100000
set_option maxHeartbeats 4000000
namespace Law
open PySem L2 Zm
/-! what holds of the well -/
structure W (h : Cells) (i n : Nat) : Prop where
  cl : ∀ ds ∈ h, cleans ds = true
  ex : ∃ a m k : Int, h[i]? = some [.int a, .int m, .int k] ∧ 0 ≤ a ∧ 0 ≤ m ∧ m < 2147483563 ∧ 0 ≤ k ∧ k ≤ (n : Int)
theorem W.lt {h : Cells} {i n : Nat} (w : W h i n) : i < h.length := by
  obtain ⟨a, m, k, e, _⟩ := w.ex
  exact (List.getElem?_eq_some_iff.mp e).1
theorem W.put {h : Cells} {i n n' : Nat} (w : W h i n) {a m k : Int} (h1 : 0 ≤ a) (h2 : 0 ≤ m) (h3 : m < 2147483563) (h4 : 0 ≤ k) (h5 : k ≤ (n' : Int)) : W (h.set i [.int a, .int m, .int k]) i n' := by
  refine ⟨fun ds hd => ?_, a, m, k, List.getElem?_set_self w.lt, h1, h2, h3, h4, h5⟩
  rcases List.mem_or_eq_of_mem_set hd with z | z
  · exact w.cl ds z
  · subst z; rfl
theorem W.mono {h : Cells} {i n n' : Nat} (w : W h i n) (l : n ≤ n') : W h i n' := by
  obtain ⟨a, m, k, e, h1, h2, h3, h4, h5⟩ := w.ex
  exact ⟨w.cl, a, m, k, e, h1, h2, h3, h4, by omega⟩
theorem log_le {x : Nat} {b : Nat} (h : x < 2 ^ b) (h0 : 0 < b) : x.log2 < b := PySem.Flt.log2_lt_of h0 h
theorem wideM_of {i j : Int} (hi : i.natAbs < 2 ^ 1000) (hj : j.natAbs < 2 ^ 1000) : wideM i j = true := by
  have h1 := log_le hi (by decide)
  have h2 := log_le hj (by decide)
  exact decide_eq_true (by omega)
theorem small_pow {x : Nat} (h : x < 18446744073709551616) : x < 2 ^ 1000 := Nat.lt_trans h (by decide +kernel)
theorem wide64 {i j : Int} (hi : i.natAbs < 18446744073709551616) (hj : j.natAbs < 18446744073709551616) : wideM i j = true := wideM_of (small_pow hi) (small_pow hj)
theorem divS {j : Int} (h0 : 0 < j) (h : j.natAbs < 18446744073709551616) : wideD j = true := decide_eq_true ⟨h0, by have := log_le (b := 64) (by simpa using h) (by decide); omega⟩
theorem draw_ok {h : Cells} {i n : Nat} (w : W h i n) (few : Int) (hn : n ≤ 1000000) (h0 : 0 < few) (h1 : few < 1073741824) :
    ∃ r h', F__law_draw [.cell i, .int few] h = some (.int r, h') ∧ 0 ≤ r ∧ r < few ∧ W h' i (n + 1) ∧ h'.length = h.length := by
  obtain ⟨a, m, k, e, g1, g2, g3, g4, g5⟩ := w.ex
  by_cases ha : 0 < a
  · refine ⟨a % few, h.set i [.int (a / few), .int m, .int k], ?_, Int.emod_nonneg _ (by omega), Int.emod_lt_of_pos _ h0, w.put (Int.ediv_nonneg g1 (by omega)) g2 g3 g4 (by omega), by simp⟩
    have hd : dmOk a few = true := by simp [dmOk, h0, h1]
    simp [F__law_draw, b__law_draw, mFun, line, mSeq, mAsg, mRet, mRetN, mDrop, mIfS, mTBin, mBin, mVar, mC, mCons, mNil, mTup, mLst, mLstC, mCB, mCall, mCallK, mIf, mAndV, mOrV, mNotV, mAnd, mOr, mNot, mTru, mUn, mChain, tB', mNx, mNev, mFor, mForL, mWhile, mComp, mCompL, mYes, gN, gT, gsCons, gsNil, gSubD, mApp, mPar, mPar3, mAugI, mSl, mSo, mNo, iR1, iR2, iR3, iS, iEn, iL, iT, asB, asL, asT, asLT, asInt, oB, oAdd, oSub, oMulA, oMul, oDiv, oMod, oPow, oNeg, cI, oEq, oNe, oIx, asSeq, oInt, oAbs, oLen, oMax2, oMin2, oDivmod, oIsi, tyD, okCell, truthD, mFrz, Option.bind_some, Option.map_some, Option.bind_none, Option.map_none, cond_true, cond_false, List.map_cons, List.map_nil, List.cons_append, List.nil_append, List.getElem?_cons_zero, List.getElem?_cons_succ, List.set_cons_zero, List.set_cons_succ, List.length_cons, List.length_nil, List.replicate, e, ha, hd, atI, ixN]
  · have w1 : wideM m 48271 = true := wide64 (by omega) (by decide)
    have w2 : wideM 15013 (k + 1) = true := wide64 (by decide) (by omega)
    have q1 := Int.emod_nonneg (m * 48271 + 15013 * (k + 1)) (show (2147483563 : Int) ≠ 0 by decide)
    have q2 := Int.emod_lt_of_pos (m * 48271 + 15013 * (k + 1)) (show (0 : Int) < 2147483563 by decide)
    generalize hx : (m * 48271 + 15013 * (k + 1)) % 2147483563 = x at q1 q2
    have w3 : wideM x (x % 4999 + 20011) = true := wide64 (by omega) (by omega)
    have q3 := Int.emod_nonneg (x * (x % 4999 + 20011) + (k + 1)) (show (2147483563 : Int) ≠ 0 by decide)
    have q4 := Int.emod_lt_of_pos (x * (x % 4999 + 20011) + (k + 1)) (show (0 : Int) < 2147483563 by decide)
    generalize hy : (x * (x % 4999 + 20011) + (k + 1)) % 2147483563 = y at q3 q4
    have w4 : wideD 977 = true := divS (by decide) (by decide)
    refine ⟨y / 977 % few, h.set i [.int a, .int y, .int (k + 1)], ?_, Int.emod_nonneg _ (by omega), Int.emod_lt_of_pos _ h0, w.put g1 q3 q4 (by omega) (by omega), by simp⟩
    have hs : ∀ x, (h.set i x)[i]? = some x := fun x => List.getElem?_set_self w.lt
    simp [F__law_draw, b__law_draw, mFun, line, mSeq, mAsg, mRet, mRetN, mDrop, mIfS, mTBin, mBin, mVar, mC, mCons, mNil, mTup, mLst, mLstC, mCB, mCall, mCallK, mIf, mAndV, mOrV, mNotV, mAnd, mOr, mNot, mTru, mUn, mChain, tB', mNx, mNev, mFor, mForL, mWhile, mComp, mCompL, mYes, gN, gT, gsCons, gsNil, gSubD, mApp, mPar, mPar3, mAugI, mSl, mSo, mNo, iR1, iR2, iR3, iS, iEn, iL, iT, asB, asL, asT, asLT, asInt, oB, oAdd, oSub, oMulA, oMul, oDiv, oMod, oPow, oNeg, cI, oEq, oNe, oIx, asSeq, oInt, oAbs, oLen, oMax2, oMin2, oDivmod, oIsi, tyD, okCell, truthD, mFrz, Option.bind_some, Option.map_some, Option.bind_none, Option.map_none, cond_true, cond_false, List.map_cons, List.map_nil, List.cons_append, List.nil_append, List.getElem?_cons_zero, List.getElem?_cons_succ, List.set_cons_zero, List.set_cons_succ, List.length_cons, List.length_nil, List.replicate, e, ha, h0, atI, ixN, w1, w2, w3, w4, hx, hy, hs, List.set_set]
theorem one_ok {h : Cells} {i n : Nat} (w : W h i n) {d : D} {ds : List D} (hd : asSeq [] d = some ds) (hc : ∀ j, d ≠ .cell j) (hn : n ≤ 1000000) (h0 : 0 < ds.length) (h1 : ds.length < 1000000) :
    ∃ x h', F__law_one [.cell i, d] h = some (x, h') ∧ x ∈ ds ∧ W h' i (n + 1) ∧ h'.length = h.length := by
  obtain ⟨r, h', e, g1, g2, w', hl⟩ := draw_ok w (ds.length : Int) hn (by omega) (by omega)
  have hr : r.toNat < ds.length := by omega
  refine ⟨ds[r.toNat], h', ?_, List.getElem_mem hr, w', hl⟩
  have hix : atI ds r = some ds[r.toNat] := by
    have : r < (ds.length : Int) := g2
    simp [atI, ixN, g1, this, hr]
  cases d <;> simp only [asSeq] at hd <;> try (cases hd; done)
  · cases hd
    simp [F__law_one, b__law_one, mFun, line, mSeq, mAsg, mRet, mRetN, mDrop, mIfS, mTBin, mBin, mVar, mC, mCons, mNil, mTup, mLst, mLstC, mCB, mCall, mCallK, mIf, mAndV, mOrV, mNotV, mAnd, mOr, mNot, mTru, mUn, mChain, tB', mNx, mNev, mFor, mForL, mWhile, mComp, mCompL, mYes, gN, gT, gsCons, gsNil, gSubD, mApp, mPar, mPar3, mAugI, mSl, mSo, mNo, iR1, iR2, iR3, iS, iEn, iL, iT, asB, asL, asT, asLT, asInt, oB, oAdd, oSub, oMulA, oMul, oDiv, oMod, oPow, oNeg, cI, oEq, oNe, oIx, asSeq, oInt, oAbs, oLen, oMax2, oMin2, oDivmod, oIsi, tyD, okCell, truthD, mFrz, Option.bind_some, Option.map_some, Option.bind_none, Option.map_none, cond_true, cond_false, List.map_cons, List.map_nil, List.cons_append, List.nil_append, List.getElem?_cons_zero, List.getElem?_cons_succ, List.set_cons_zero, List.set_cons_succ, List.length_cons, List.length_nil, List.replicate, e, hix]
  · cases hd
    simp [F__law_one, b__law_one, mFun, line, mSeq, mAsg, mRet, mRetN, mDrop, mIfS, mTBin, mBin, mVar, mC, mCons, mNil, mTup, mLst, mLstC, mCB, mCall, mCallK, mIf, mAndV, mOrV, mNotV, mAnd, mOr, mNot, mTru, mUn, mChain, tB', mNx, mNev, mFor, mForL, mWhile, mComp, mCompL, mYes, gN, gT, gsCons, gsNil, gSubD, mApp, mPar, mPar3, mAugI, mSl, mSo, mNo, iR1, iR2, iR3, iS, iEn, iL, iT, asB, asL, asT, asLT, asInt, oB, oAdd, oSub, oMulA, oMul, oDiv, oMod, oPow, oNeg, cI, oEq, oNe, oIx, asSeq, oInt, oAbs, oLen, oMax2, oMin2, oDivmod, oIsi, tyD, okCell, truthD, mFrz, Option.bind_some, Option.map_some, Option.bind_none, Option.map_none, cond_true, cond_false, List.map_cons, List.map_nil, List.cons_append, List.nil_append, List.getElem?_cons_zero, List.getElem?_cons_succ, List.set_cons_zero, List.set_cons_succ, List.length_cons, List.length_nil, List.replicate, e, hix]
  · cases hd
    simp [F__law_one, b__law_one, mFun, line, mSeq, mAsg, mRet, mRetN, mDrop, mIfS, mTBin, mBin, mVar, mC, mCons, mNil, mTup, mLst, mLstC, mCB, mCall, mCallK, mIf, mAndV, mOrV, mNotV, mAnd, mOr, mNot, mTru, mUn, mChain, tB', mNx, mNev, mFor, mForL, mWhile, mComp, mCompL, mYes, gN, gT, gsCons, gsNil, gSubD, mApp, mPar, mPar3, mAugI, mSl, mSo, mNo, iR1, iR2, iR3, iS, iEn, iL, iT, asB, asL, asT, asLT, asInt, oB, oAdd, oSub, oMulA, oMul, oDiv, oMod, oPow, oNeg, cI, oEq, oNe, oIx, asSeq, oInt, oAbs, oLen, oMax2, oMin2, oDivmod, oIsi, tyD, okCell, truthD, mFrz, Option.bind_some, Option.map_some, Option.bind_none, Option.map_none, cond_true, cond_false, List.map_cons, List.map_nil, List.cons_append, List.nil_append, List.getElem?_cons_zero, List.getElem?_cons_succ, List.set_cons_zero, List.set_cons_succ, List.length_cons, List.length_nil, List.replicate, e, hix]

/-! discriminants -/
def okD (D : Int) : Prop := -400 ≤ D ∧ D ≤ -3 ∧ (D % 4 = 0 ∨ D % 4 = 1)
instance (D : Int) : Decidable (okD D) := inferInstanceAs (Decidable (_ ∧ _))
def dOk : D → Bool
  | .int n => decide (okD n)
  | _ => false
theorem dOk_int {d : D} (h : dOk d = true) : ∃ n, d = .int n ∧ okD n := by
  cases d <;> simp only [dOk] at h <;> try (cases h; done)
  exact ⟨_, rfl, of_decide_eq_true h⟩
def discL : List Int := ((List.range 398).map fun (i : Nat) => (3 : Int) + i).filterMap fun n => if n % 4 = 0 ∨ n % 4 = 3 then some (0 - n) else none
def tab0 : List Int := [-23, -20, -56, -3, -4, -7, -8, -11, -12, -15, -16, -24, -27, -28, -31, -32, -35, -36, -39, -40, -43, -44]
def tab1 : List Int := [-47, -48, -55, -63, -68, -71, -75, -80, -84, -87, -95, -96, -99, -104, -108, -119, -120, -128, -144, -163]
def tab2 : List Int := [-168, -180, -195, -200, -231, -239, -240, -260, -264, -311, -312, -340, -372, -384, -399, -400]
theorem disc_ok {h : Cells} {i n : Nat} (w : W h i n) (hn : n ≤ 999990) : ∃ dd h', F__law_disc [.cell i] h = some (.int dd, h') ∧ okD dd ∧ W h' i (n + 3) ∧ h'.length = h.length := by
  have hcomp : ∀ h, (mComp (iR2 (mCons (mC (.int 3)) (mCons (mC (.int 401)) mNil))) (gN 4) (mTBin (oIn false) (mBin oMod (mCB oInt (mCons (mVar 4) mNil)) (mC (.int 4))) (mTup (mCons (mC (.int 0)) (mCons (mC (.int 3)) mNil)))) (mBin oSub (mC (.int 0)) (mVar 4)) [4]) ⟨[some (.cell i), none, none, none, none], h⟩ = some (.lst (discL.map D.int), h) := fun h => by kernel_rfl
  obtain ⟨r, h1, e1, r0, r1, w1, l1⟩ := draw_ok w 4 (by omega) (by decide) (by decide)
  have all1 : ∀ x ∈ discL.map D.int, dOk x = true := List.all_eq_true.mp (by decide +kernel)
  unfold F__law_disc b__law_disc
  generalize (mComp (iR2 (mCons (mC (.int 3)) (mCons (mC (.int 401)) mNil))) (gN 4) (mTBin (oIn false) (mBin oMod (mCB oInt (mCons (mVar 4) mNil)) (mC (.int 4))) (mTup (mCons (mC (.int 0)) (mCons (mC (.int 3)) mNil)))) (mBin oSub (mC (.int 0)) (mVar 4)) [4]) = C at hcomp ⊢
  by_cases hr : r = 0
  · subst hr
    obtain ⟨x, h2, e2, hx, w2, l2⟩ := one_ok w1 (d := .lst (discL.map D.int)) (ds := discL.map D.int) rfl (fun _ z => by cases z) (by omega) (by decide +kernel) (by decide +kernel)
    obtain ⟨dd, rfl, hD⟩ := dOk_int (all1 x hx)
    exact ⟨dd, h2, by simp [mFun, line, mSeq, mAsg, mRet, mRetN, mDrop, mIfS, mTBin, mBin, mVar, mC, mCons, mNil, mTup, mLst, mLstC, mCB, mCall, mCallK, mIf, mAndV, mOrV, mNotV, mAnd, mOr, mNot, mTru, mUn, mChain, tB', mNx, mNev, mFor, mForL, mWhile, mComp, mCompL, mYes, gN, gT, gsCons, gsNil, gSubD, mApp, mPar, mPar3, mAugI, mSl, mSo, mNo, iR1, iR2, iR3, iS, iEn, iL, iT, asB, asL, asT, asLT, asInt, oB, oAdd, oSub, oMulA, oMul, oDiv, oMod, oPow, oNeg, cI, oEq, oNe, oIx, asSeq, oInt, oAbs, oLen, oMax2, oMin2, oDivmod, oIsi, tyD, okCell, truthD, mFrz, Option.bind_some, Option.map_some, Option.bind_none, Option.map_none, cond_true, cond_false, List.map_cons, List.map_nil, List.cons_append, List.nil_append, List.getElem?_cons_zero, List.getElem?_cons_succ, List.set_cons_zero, List.set_cons_succ, List.length_cons, List.length_nil, List.replicate, e1, hcomp, e2], hD, w2.mono (by omega), by omega⟩
  · obtain ⟨q, h2, e2, q0, q1, w2, l2⟩ := draw_ok w1 4 (by omega) (by decide) (by decide)
    have go : ∀ (tab : List Int), (∀ x ∈ tab.map D.int, dOk x = true) → 0 < (tab.map D.int).length → (tab.map D.int).length < 1000000 → ∃ dd h3, F__law_one [.cell i, .tup (tab.map D.int)] h2 = some (.int dd, h3) ∧ okD dd ∧ W h3 i (n + 3) ∧ h3.length = h.length := by
      intro tab ha hl hz
      obtain ⟨x, h3, e3, hx, w3, l3⟩ := one_ok w2 (d := .tup (tab.map D.int)) (ds := tab.map D.int) rfl (fun _ z => by cases z) (by omega) hl hz
      obtain ⟨dd, rfl, hD⟩ := dOk_int (ha x hx)
      exact ⟨dd, h3, e3, hD, w3, by omega⟩
    have hq : q = 0 ∨ q = 1 ∨ q = 2 ∨ q = 3 := by omega
    rcases hq with rfl | rfl | rfl | rfl
    · obtain ⟨dd, h3, e3, hD, w3, l3⟩ := go tab0 (List.all_eq_true.mp (by decide +kernel)) (by decide) (by decide)
      simp only [tab0, List.map_cons, List.map_nil] at e3
      exact ⟨dd, h3, by simp [mFun, line, mSeq, mAsg, mRet, mRetN, mDrop, mIfS, mTBin, mBin, mVar, mC, mCons, mNil, mTup, mLst, mLstC, mCB, mCall, mCallK, mIf, mAndV, mOrV, mNotV, mAnd, mOr, mNot, mTru, mUn, mChain, tB', mNx, mNev, mFor, mForL, mWhile, mComp, mCompL, mYes, gN, gT, gsCons, gsNil, gSubD, mApp, mPar, mPar3, mAugI, mSl, mSo, mNo, iR1, iR2, iR3, iS, iEn, iL, iT, asB, asL, asT, asLT, asInt, oB, oAdd, oSub, oMulA, oMul, oDiv, oMod, oPow, oNeg, cI, oEq, oNe, oIx, asSeq, oInt, oAbs, oLen, oMax2, oMin2, oDivmod, oIsi, tyD, okCell, truthD, mFrz, Option.bind_some, Option.map_some, Option.bind_none, Option.map_none, cond_true, cond_false, List.map_cons, List.map_nil, List.cons_append, List.nil_append, List.getElem?_cons_zero, List.getElem?_cons_succ, List.set_cons_zero, List.set_cons_succ, List.length_cons, List.length_nil, List.replicate, e1, e2, e3, hr, atI, ixN], hD, w3, l3⟩
    · obtain ⟨dd, h3, e3, hD, w3, l3⟩ := go tab0 (List.all_eq_true.mp (by decide +kernel)) (by decide) (by decide)
      simp only [tab0, List.map_cons, List.map_nil] at e3
      exact ⟨dd, h3, by simp [mFun, line, mSeq, mAsg, mRet, mRetN, mDrop, mIfS, mTBin, mBin, mVar, mC, mCons, mNil, mTup, mLst, mLstC, mCB, mCall, mCallK, mIf, mAndV, mOrV, mNotV, mAnd, mOr, mNot, mTru, mUn, mChain, tB', mNx, mNev, mFor, mForL, mWhile, mComp, mCompL, mYes, gN, gT, gsCons, gsNil, gSubD, mApp, mPar, mPar3, mAugI, mSl, mSo, mNo, iR1, iR2, iR3, iS, iEn, iL, iT, asB, asL, asT, asLT, asInt, oB, oAdd, oSub, oMulA, oMul, oDiv, oMod, oPow, oNeg, cI, oEq, oNe, oIx, asSeq, oInt, oAbs, oLen, oMax2, oMin2, oDivmod, oIsi, tyD, okCell, truthD, mFrz, Option.bind_some, Option.map_some, Option.bind_none, Option.map_none, cond_true, cond_false, List.map_cons, List.map_nil, List.cons_append, List.nil_append, List.getElem?_cons_zero, List.getElem?_cons_succ, List.set_cons_zero, List.set_cons_succ, List.length_cons, List.length_nil, List.replicate, e1, e2, e3, hr, atI, ixN], hD, w3, l3⟩
    · obtain ⟨dd, h3, e3, hD, w3, l3⟩ := go tab1 (List.all_eq_true.mp (by decide +kernel)) (by decide) (by decide)
      simp only [tab1, List.map_cons, List.map_nil] at e3
      exact ⟨dd, h3, by simp [mFun, line, mSeq, mAsg, mRet, mRetN, mDrop, mIfS, mTBin, mBin, mVar, mC, mCons, mNil, mTup, mLst, mLstC, mCB, mCall, mCallK, mIf, mAndV, mOrV, mNotV, mAnd, mOr, mNot, mTru, mUn, mChain, tB', mNx, mNev, mFor, mForL, mWhile, mComp, mCompL, mYes, gN, gT, gsCons, gsNil, gSubD, mApp, mPar, mPar3, mAugI, mSl, mSo, mNo, iR1, iR2, iR3, iS, iEn, iL, iT, asB, asL, asT, asLT, asInt, oB, oAdd, oSub, oMulA, oMul, oDiv, oMod, oPow, oNeg, cI, oEq, oNe, oIx, asSeq, oInt, oAbs, oLen, oMax2, oMin2, oDivmod, oIsi, tyD, okCell, truthD, mFrz, Option.bind_some, Option.map_some, Option.bind_none, Option.map_none, cond_true, cond_false, List.map_cons, List.map_nil, List.cons_append, List.nil_append, List.getElem?_cons_zero, List.getElem?_cons_succ, List.set_cons_zero, List.set_cons_succ, List.length_cons, List.length_nil, List.replicate, e1, e2, e3, hr, atI, ixN], hD, w3, l3⟩
    · obtain ⟨dd, h3, e3, hD, w3, l3⟩ := go tab2 (List.all_eq_true.mp (by decide +kernel)) (by decide) (by decide)
      simp only [tab2, List.map_cons, List.map_nil] at e3
      exact ⟨dd, h3, by simp [mFun, line, mSeq, mAsg, mRet, mRetN, mDrop, mIfS, mTBin, mBin, mVar, mC, mCons, mNil, mTup, mLst, mLstC, mCB, mCall, mCallK, mIf, mAndV, mOrV, mNotV, mAnd, mOr, mNot, mTru, mUn, mChain, tB', mNx, mNev, mFor, mForL, mWhile, mComp, mCompL, mYes, gN, gT, gsCons, gsNil, gSubD, mApp, mPar, mPar3, mAugI, mSl, mSo, mNo, iR1, iR2, iR3, iS, iEn, iL, iT, asB, asL, asT, asLT, asInt, oB, oAdd, oSub, oMulA, oMul, oDiv, oMod, oPow, oNeg, cI, oEq, oNe, oIx, asSeq, oInt, oAbs, oLen, oMax2, oMin2, oDivmod, oIsi, tyD, okCell, truthD, mFrz, Option.bind_some, Option.map_some, Option.bind_none, Option.map_none, cond_true, cond_false, List.map_cons, List.map_nil, List.cons_append, List.nil_append, List.getElem?_cons_zero, List.getElem?_cons_succ, List.set_cons_zero, List.set_cons_succ, List.length_cons, List.length_nil, List.replicate, e1, e2, e3, hr, atI, ixN], hD, w3, l3⟩
def oddL : List D := [.non, .bl true, .bl false, .str "1", .str "", .int (-1), .int 0, .int 1, .int 7, .int 1000000000000000000000000000000, .tup [], .lst [], .dic, .tup [.int 1, .int 0], .lst [.int 1, .int 0, .int 5], .tup [.tup [.int 1, .int 0, .int 5]], .tup [.bl true, .int 0, .int 5]]
theorem odd_ok {h : Cells} {i n : Nat} (w : W h i n) (hn : n ≤ 999990) : ∃ x h', F__law_odd_thing [.cell i] h = some (x, h') ∧ x ∈ oddL ∧ W h' i (n + 1) ∧ h'.length = h.length := by
  obtain ⟨x, h2, e2, hx, w2, l2⟩ := one_ok w (d := .tup oddL) (ds := oddL) rfl (fun _ z => by cases z) (by omega) (by decide) (by decide)
  simp only [oddL] at e2
  refine ⟨x, h2, ?_, hx, w2, l2⟩
  simp [F__law_odd_thing, b__law_odd_thing, mFun, line, mSeq, mAsg, mRet, mRetN, mDrop, mIfS, mTBin, mBin, mVar, mC, mCons, mNil, mTup, mLst, mLstC, mCB, mCall, mCallK, mIf, mAndV, mOrV, mNotV, mAnd, mOr, mNot, mTru, mUn, mChain, tB', mNx, mNev, mFor, mForL, mWhile, mComp, mCompL, mYes, gN, gT, gsCons, gsNil, gSubD, mApp, mPar, mPar3, mAugI, mSl, mSo, mNo, iR1, iR2, iR3, iS, iEn, iL, iT, asB, asL, asT, asLT, asInt, oB, oAdd, oSub, oMulA, oMul, oDiv, oMod, oPow, oNeg, cI, oEq, oNe, oIx, asSeq, oInt, oAbs, oLen, oMax2, oMin2, oDivmod, oIsi, tyD, okCell, truthD, mFrz, Option.bind_some, Option.map_some, Option.bind_none, Option.map_none, cond_true, cond_false, List.map_cons, List.map_nil, List.cons_append, List.nil_append, List.getElem?_cons_zero, List.getElem?_cons_succ, List.set_cons_zero, List.set_cons_succ, List.length_cons, List.length_nil, List.replicate, mDic, e2]
/-! the wells -/
abbrev wellB : MB := (mAsg (mBin oMod (mCB oInt (mCons (mBin oAdd (mBin oAdd (mBin oMulA (mVar 2) (mC (.int 40151))) (mBin oMulA (mBin oMod (mCB oInt (mCons (mVar 3) mNil)) (mC (.int 2147483563))) (mC (.int 13)))) (mC (.int 19))) mNil)) (mC (.int 2147483563))) (gN 2))
theorem well_loop {sc lp ow : Option D} {h : Cells} : ∀ (xs : List Int) (v : Int) (c : Option D), 0 ≤ v → v < 4294967296 → ∃ v' c', mForL (gN 3) wellB (xs.map D.int) ⟨[sc, lp, some (.int v), c, ow], h⟩ = some (.nx, ⟨[sc, lp, some (.int v'), c', ow], h⟩) ∧ 0 ≤ v' ∧ v' < 4294967296
  | [], v, c, h0, h1 => ⟨v, c, rfl, h0, h1⟩
  | x :: xs, v, c, h0, h1 => by
    have x0 := Int.emod_nonneg x (show (2147483563 : Int) ≠ 0 by decide)
    have x1 := Int.emod_lt_of_pos x (show (0 : Int) < 2147483563 by decide)
    have w1 : wideM v 40151 = true := wide64 (by omega) (by decide)
    have w2 : wideM (x % 2147483563) 13 = true := wide64 (by omega) (by decide)
    obtain ⟨v', c', e, g0, g1⟩ := well_loop (sc := sc) (lp := lp) (ow := ow) (h := h) xs ((v * 40151 + x % 2147483563 * 13 + 19) % 2147483563) (some (.int x)) (Int.emod_nonneg _ (by decide)) (by have := Int.emod_lt_of_pos (v * 40151 + x % 2147483563 * 13 + 19) (show (0 : Int) < 2147483563 by decide); omega)
    refine ⟨v', c', ?_, g0, g1⟩
    rw [← e]
    simp [wellB, mFun, line, mSeq, mAsg, mRet, mRetN, mDrop, mIfS, mTBin, mBin, mVar, mC, mCons, mNil, mTup, mLst, mLstC, mCB, mCall, mCallK, mIf, mAndV, mOrV, mNotV, mAnd, mOr, mNot, mTru, mUn, mChain, tB', mNx, mNev, mFor, mForL, mWhile, mComp, mCompL, mYes, gN, gT, gsCons, gsNil, gSubD, mApp, mPar, mPar3, mAugI, mSl, mSo, mNo, iR1, iR2, iR3, iS, iEn, iL, iT, asB, asL, asT, asLT, asInt, oB, oAdd, oSub, oMulA, oMul, oDiv, oMod, oPow, oNeg, cI, oEq, oNe, oIx, asSeq, oInt, oAbs, oLen, oMax2, oMin2, oDivmod, oIsi, tyD, okCell, truthD, mFrz, Option.bind_some, Option.map_some, Option.bind_none, Option.map_none, cond_true, cond_false, List.map_cons, List.map_nil, List.cons_append, List.nil_append, List.getElem?_cons_zero, List.getElem?_cons_succ, List.set_cons_zero, List.set_cons_succ, List.length_cons, List.length_nil, List.replicate, w1, w2]
theorem b_well_eq : b__law_well = (mSeq (mAsg (mBin oAdd (mC (.int 51407)) (mBin oMulA (mC (.int 6101)) (mVar 1))) (gN 2))
    (mSeq (mFor (iS (mSl (mVar 0) mNo (mSo (mC (.int 12))))) (gN 3) wellB)
    (mSeq (mAsg (mIf (mTBin cLt (mVar 1) (mCB oLen (mCons (mVar 0) mNil))) (mCB oInt (mCons (mBin oIx (mVar 0) (mVar 1)) mNil)) (mC (.int 0))) (gN 4))
    (mSeq (mAsg (mBin oMod (mCB oInt (mCons (mBin oAdd (mBin oAdd (mBin oMulA (mVar 2) (mC (.int 101))) (mBin oMulA (mBin oMod (mCB oInt (mCons (mVar 4) mNil)) (mC (.int 2147483563))) (mC (.int 20047)))) (mC (.int 7))) mNil)) (mC (.int 2147483563))) (gN 2))
    (mRet (mLstC (mCons (mIf (mOr (mTBin cLt (mVar 4) (mC (.int 0))) (mTBin cGe (mVar 4) (mBin oPow (mC (.int 10)) (mC (.int 15))))) (mCB oAbs (mCons (mVar 4) mNil)) (mC (.int 0))) (mCons (mVar 2) (mCons (mC (.int 0)) mNil))))))))) := rfl
theorem well_ok (ns : List Int) (hns : ns.length ≤ 63) (lap : Nat) (hl : lap ≤ 10) (h : Cells) (hc : ∀ ds ∈ h, cleans ds = true) : ∃ a m : Int, F__law_well [.frl (ns.map D.int), .int lap] h = some (.cell h.length, h ++ [[.int a, .int m, .int 0]]) ∧ W (h ++ [[.int a, .int m, .int 0]]) h.length 0 := by
  have hcut : ∀ lo hi, cutD (ns.map D.int) lo hi = (((ns.drop (HT.sIx ns.length 0 lo)).take (HT.sIx ns.length ns.length hi - HT.sIx ns.length 0 lo))).map D.int := fun lo hi => by simp [cutD, List.map_take, List.map_drop]
  have hc12 := hcut none (some 12)
  generalize ((ns.drop (HT.sIx ns.length 0 none)).take (HT.sIx ns.length ns.length (some 12) - HT.sIx ns.length 0 none)) = xs at hc12
  obtain ⟨v, c, e, v0, v1⟩ := well_loop (sc := some (.frl (ns.map D.int))) (lp := some (.int lap)) (ow := none) (h := h) xs (51407 + 6101 * lap) none (by omega) (by omega)
  have fin : ∀ own : Int, W (h ++ [[.int (if own < 0 ∨ 1000000000000000 ≤ own then (if own < 0 then -own else own) else 0), .int ((v * 101 + own % 2147483563 * 20047 + 7) % 2147483563), .int 0]]) h.length 0 := fun own => by
    refine ⟨fun ds hd => ?_, (if own < 0 ∨ 1000000000000000 ≤ own then (if own < 0 then -own else own) else 0), ((v * 101 + own % 2147483563 * 20047 + 7) % 2147483563), 0, by simp, ?_, Int.emod_nonneg _ (by decide), Int.emod_lt_of_pos _ (by decide), by omega, by omega⟩
    · rcases List.mem_append.mp hd with z | z
      · exact hc ds z
      · rw [List.mem_singleton] at z; subst z; rfl
    · split
      · split <;> omega
      · omega
  have w0 : wideM 6101 lap = true := wide64 (by decide) (by omega)
  have wv : wideM v 101 = true := wide64 (by omega) (by decide)
  have hfc : ∀ own : Int, (own < 0 ∨ 1000000000000000 ≤ own) ∨ ¬ (own < 0 ∨ 1000000000000000 ≤ own) := fun own => Classical.em _
  unfold F__law_well
  rw [b_well_eq]
  generalize wellB = B at e ⊢
  have core : ∀ own : Int, (if (lap : Int) < (ns.length : Int) then (atI (ns.map D.int) (lap : Int) = some (.int own)) else own = 0) → ∃ a m : Int, mFun 5 2 ((mSeq (mAsg (mBin oAdd (mC (.int 51407)) (mBin oMulA (mC (.int 6101)) (mVar 1))) (gN 2))
    (mSeq (mFor (iS (mSl (mVar 0) mNo (mSo (mC (.int 12))))) (gN 3) B)
    (mSeq (mAsg (mIf (mTBin cLt (mVar 1) (mCB oLen (mCons (mVar 0) mNil))) (mCB oInt (mCons (mBin oIx (mVar 0) (mVar 1)) mNil)) (mC (.int 0))) (gN 4))
    (mSeq (mAsg (mBin oMod (mCB oInt (mCons (mBin oAdd (mBin oAdd (mBin oMulA (mVar 2) (mC (.int 101))) (mBin oMulA (mBin oMod (mCB oInt (mCons (mVar 4) mNil)) (mC (.int 2147483563))) (mC (.int 20047)))) (mC (.int 7))) mNil)) (mC (.int 2147483563))) (gN 2))
    (mRet (mLstC (mCons (mIf (mOr (mTBin cLt (mVar 4) (mC (.int 0))) (mTBin cGe (mVar 4) (mBin oPow (mC (.int 10)) (mC (.int 15))))) (mCB oAbs (mCons (mVar 4) mNil)) (mC (.int 0))) (mCons (mVar 2) (mCons (mC (.int 0)) mNil)))))))))) [.frl (ns.map D.int), .int lap] h = some (.cell h.length, h ++ [[.int a, .int m, .int 0]]) ∧ W (h ++ [[.int a, .int m, .int 0]]) h.length 0 := by
    intro own ho
    refine ⟨_, _, ?_, fin own⟩
    have x0 := Int.emod_nonneg own (show (2147483563 : Int) ≠ 0 by decide)
    have x1 := Int.emod_lt_of_pos own (show (0 : Int) < 2147483563 by decide)
    have w2 : wideM (own % 2147483563) 20047 = true := wide64 (by omega) (by decide)
    by_cases hlap : (lap : Int) < (ns.length : Int)
    · rw [if_pos hlap] at ho
      by_cases h0 : own < 0
      · simp [mFun, line, mSeq, mAsg, mRet, mRetN, mDrop, mIfS, mTBin, mBin, mVar, mC, mCons, mNil, mTup, mLst, mLstC, mCB, mCall, mCallK, mIf, mAndV, mOrV, mNotV, mAnd, mOr, mNot, mTru, mUn, mChain, tB', mNx, mNev, mFor, mForL, mWhile, mComp, mCompL, mYes, gN, gT, gsCons, gsNil, gSubD, mApp, mPar, mPar3, mAugI, mSl, mSo, mNo, iR1, iR2, iR3, iS, iEn, iL, iT, asB, asL, asT, asLT, asInt, oB, oAdd, oSub, oMulA, oMul, oDiv, oMod, oPow, oNeg, cI, oEq, oNe, oIx, asSeq, oInt, oAbs, oLen, oMax2, oMin2, oDivmod, oIsi, tyD, okCell, truthD, mFrz, Option.bind_some, Option.map_some, Option.bind_none, Option.map_none, cond_true, cond_false, List.map_cons, List.map_nil, List.cons_append, List.nil_append, List.getElem?_cons_zero, List.getElem?_cons_succ, List.set_cons_zero, List.set_cons_succ, List.length_cons, List.length_nil, List.replicate, w0, wv, w2, hc12, e, oSl, hlap, ho, h0]
      · by_cases h1 : 1000000000000000 ≤ own
        · simp [mFun, line, mSeq, mAsg, mRet, mRetN, mDrop, mIfS, mTBin, mBin, mVar, mC, mCons, mNil, mTup, mLst, mLstC, mCB, mCall, mCallK, mIf, mAndV, mOrV, mNotV, mAnd, mOr, mNot, mTru, mUn, mChain, tB', mNx, mNev, mFor, mForL, mWhile, mComp, mCompL, mYes, gN, gT, gsCons, gsNil, gSubD, mApp, mPar, mPar3, mAugI, mSl, mSo, mNo, iR1, iR2, iR3, iS, iEn, iL, iT, asB, asL, asT, asLT, asInt, oB, oAdd, oSub, oMulA, oMul, oDiv, oMod, oPow, oNeg, cI, oEq, oNe, oIx, asSeq, oInt, oAbs, oLen, oMax2, oMin2, oDivmod, oIsi, tyD, okCell, truthD, mFrz, Option.bind_some, Option.map_some, Option.bind_none, Option.map_none, cond_true, cond_false, List.map_cons, List.map_nil, List.cons_append, List.nil_append, List.getElem?_cons_zero, List.getElem?_cons_succ, List.set_cons_zero, List.set_cons_succ, List.length_cons, List.length_nil, List.replicate, w0, wv, w2, hc12, e, oSl, hlap, ho, h0, h1]
        · simp [mFun, line, mSeq, mAsg, mRet, mRetN, mDrop, mIfS, mTBin, mBin, mVar, mC, mCons, mNil, mTup, mLst, mLstC, mCB, mCall, mCallK, mIf, mAndV, mOrV, mNotV, mAnd, mOr, mNot, mTru, mUn, mChain, tB', mNx, mNev, mFor, mForL, mWhile, mComp, mCompL, mYes, gN, gT, gsCons, gsNil, gSubD, mApp, mPar, mPar3, mAugI, mSl, mSo, mNo, iR1, iR2, iR3, iS, iEn, iL, iT, asB, asL, asT, asLT, asInt, oB, oAdd, oSub, oMulA, oMul, oDiv, oMod, oPow, oNeg, cI, oEq, oNe, oIx, asSeq, oInt, oAbs, oLen, oMax2, oMin2, oDivmod, oIsi, tyD, okCell, truthD, mFrz, Option.bind_some, Option.map_some, Option.bind_none, Option.map_none, cond_true, cond_false, List.map_cons, List.map_nil, List.cons_append, List.nil_append, List.getElem?_cons_zero, List.getElem?_cons_succ, List.set_cons_zero, List.set_cons_succ, List.length_cons, List.length_nil, List.replicate, w0, wv, w2, hc12, e, oSl, hlap, ho, h0, h1]
    · rw [if_neg hlap] at ho
      subst ho
      have w3 : wideM 0 20047 = true := wide64 (by decide) (by decide)
      simp [mFun, line, mSeq, mAsg, mRet, mRetN, mDrop, mIfS, mTBin, mBin, mVar, mC, mCons, mNil, mTup, mLst, mLstC, mCB, mCall, mCallK, mIf, mAndV, mOrV, mNotV, mAnd, mOr, mNot, mTru, mUn, mChain, tB', mNx, mNev, mFor, mForL, mWhile, mComp, mCompL, mYes, gN, gT, gsCons, gsNil, gSubD, mApp, mPar, mPar3, mAugI, mSl, mSo, mNo, iR1, iR2, iR3, iS, iEn, iL, iT, asB, asL, asT, asLT, asInt, oB, oAdd, oSub, oMulA, oMul, oDiv, oMod, oPow, oNeg, cI, oEq, oNe, oIx, asSeq, oInt, oAbs, oLen, oMax2, oMin2, oDivmod, oIsi, tyD, okCell, truthD, mFrz, Option.bind_some, Option.map_some, Option.bind_none, Option.map_none, cond_true, cond_false, List.map_cons, List.map_nil, List.cons_append, List.nil_append, List.getElem?_cons_zero, List.getElem?_cons_succ, List.set_cons_zero, List.set_cons_succ, List.length_cons, List.length_nil, List.replicate, w0, wv, w3, hc12, e, oSl, hlap]
  by_cases hlap : lap < ns.length
  · exact core ns[lap] (by rw [if_pos (by omega)]; simp [atI, ixN, hlap])
  · exact core 0 (by rw [if_neg (by omega)])
end Law

set_option Elab.async false
set_option linter.all false
set_option maxRecDepth 100000
set_option maxHeartbeats 4000000
namespace Law
open PySem L2 Zm
theorem eqv_int (a b : Int) : PyData.eqv (.int a) (.int b) = (a == b) := by first | rfl | simp [PyData.eqv]
theorem sh_int (a : Int) : SeqAt.shaped (.int a) = true := by first | rfl | decide
theorem in2 (h : Cells) (n a b : Int) : oIn false h (.int n) (.tup [.int a, .int b]) = some (decide (a = n) || decide (b = n)) := by
  have e1 : py h (.int n) = some (.int n) := rfl
  have e2 : py h (.tup [.int a, .int b]) = some (.tuple [.int a, .int b]) := rfl
  have e3 : SeqAt.shaped (.tuple [.int a, .int b]) = true := by first | rfl | simp [SeqAt.shaped]
  unfold oIn
  rw [e1, e2]
  simp [itemsP, sh_int, e3, eqv_int]
  rfl
def plain : D → Bool
  | .cell _ => false
  | .ty _ => false
  | _ => true
theorem whole_ok {d : D} (h : Cells) (hp : plain d = true) : F_is_whole [d] h = some (.bl (match d with | .int _ => true | _ => false), h) := by
  cases d <;> simp only [plain] at hp <;> try (cases hp; done)
  all_goals simp [F_is_whole, b_is_whole, mFun, line, mSeq, mAsg, mRet, mRetN, mDrop, mIfS, mTBin, mBin, mVar, mC, mCons, mNil, mTup, mLst, mLstC, mCB, mCall, mCallK, mIf, mAndV, mOrV, mNotV, mAnd, mOr, mNot, mTru, mUn, mChain, tB', mNx, mNev, mFor, mForL, mWhile, mComp, mCompL, mYes, gN, gT, gsCons, gsNil, gSubD, mApp, mPar, mPar3, mAugI, mSl, mSo, mNo, iR1, iR2, iR3, iS, iEn, iL, iT, asB, asL, asT, asLT, asInt, oB, oAdd, oSub, oMulA, oMul, oDiv, oMod, oPow, oNeg, cI, oEq, oNe, oIx, asSeq, oInt, oAbs, oLen, oMax2, oMin2, oDivmod, oIsi, tyD, okCell, truthD, mFrz, Option.bind_some, Option.map_some, Option.bind_none, Option.map_none, cond_true, cond_false, List.map_cons, List.map_nil, List.cons_append, List.nil_append, List.getElem?_cons_zero, List.getElem?_cons_succ, List.set_cons_zero, List.set_cons_succ, List.length_cons, List.length_nil, List.replicate, isiB]
theorem lwhole_ok {d : D} (h : Cells) (hp : plain d = true) : F__law_is_whole [d] h = some (.bl (match d with | .int _ => true | _ => false), h) := by
  cases d <;> simp only [plain] at hp <;> try (cases hp; done)
  all_goals simp [F__law_is_whole, b__law_is_whole, mFun, line, mSeq, mAsg, mRet, mRetN, mDrop, mIfS, mTBin, mBin, mVar, mC, mCons, mNil, mTup, mLst, mLstC, mCB, mCall, mCallK, mIf, mAndV, mOrV, mNotV, mAnd, mOr, mNot, mTru, mUn, mChain, tB', mNx, mNev, mFor, mForL, mWhile, mComp, mCompL, mYes, gN, gT, gsCons, gsNil, gSubD, mApp, mPar, mPar3, mAugI, mSl, mSo, mNo, iR1, iR2, iR3, iS, iEn, iL, iT, asB, asL, asT, asLT, asInt, oB, oAdd, oSub, oMulA, oMul, oDiv, oMod, oPow, oNeg, cI, oEq, oNe, oIx, asSeq, oInt, oAbs, oLen, oMax2, oMin2, oDivmod, oIsi, tyD, okCell, truthD, mFrz, Option.bind_some, Option.map_some, Option.bind_none, Option.map_none, cond_true, cond_false, List.map_cons, List.map_nil, List.cons_append, List.nil_append, List.getElem?_cons_zero, List.getElem?_cons_succ, List.set_cons_zero, List.set_cons_succ, List.length_cons, List.length_nil, List.replicate, isiB]
theorem between_ok (h : Cells) (n a b : Int) : F_is_whole_between [.int n, .int a, .int b] h = some (.bl (decide (a ≤ n ∧ n ≤ b)), h) := by
  have e := whole_ok (d := .int n) h rfl
  by_cases h1 : a ≤ n
  · simp [F_is_whole_between, b_is_whole_between, mFun, line, mSeq, mAsg, mRet, mRetN, mDrop, mIfS, mTBin, mBin, mVar, mC, mCons, mNil, mTup, mLst, mLstC, mCB, mCall, mCallK, mIf, mAndV, mOrV, mNotV, mAnd, mOr, mNot, mTru, mUn, mChain, tB', mNx, mNev, mFor, mForL, mWhile, mComp, mCompL, mYes, gN, gT, gsCons, gsNil, gSubD, mApp, mPar, mPar3, mAugI, mSl, mSo, mNo, iR1, iR2, iR3, iS, iEn, iL, iT, asB, asL, asT, asLT, asInt, oB, oAdd, oSub, oMulA, oMul, oDiv, oMod, oPow, oNeg, cI, oEq, oNe, oIx, asSeq, oInt, oAbs, oLen, oMax2, oMin2, oDivmod, oIsi, tyD, okCell, truthD, mFrz, Option.bind_some, Option.map_some, Option.bind_none, Option.map_none, cond_true, cond_false, List.map_cons, List.map_nil, List.cons_append, List.nil_append, List.getElem?_cons_zero, List.getElem?_cons_succ, List.set_cons_zero, List.set_cons_succ, List.length_cons, List.length_nil, List.replicate, e, h1]
  · simp [F_is_whole_between, b_is_whole_between, mFun, line, mSeq, mAsg, mRet, mRetN, mDrop, mIfS, mTBin, mBin, mVar, mC, mCons, mNil, mTup, mLst, mLstC, mCB, mCall, mCallK, mIf, mAndV, mOrV, mNotV, mAnd, mOr, mNot, mTru, mUn, mChain, tB', mNx, mNev, mFor, mForL, mWhile, mComp, mCompL, mYes, gN, gT, gsCons, gsNil, gSubD, mApp, mPar, mPar3, mAugI, mSl, mSo, mNo, iR1, iR2, iR3, iS, iEn, iL, iT, asB, asL, asT, asLT, asInt, oB, oAdd, oSub, oMulA, oMul, oDiv, oMod, oPow, oNeg, cI, oEq, oNe, oIx, asSeq, oInt, oAbs, oLen, oMax2, oMin2, oDivmod, oIsi, tyD, okCell, truthD, mFrz, Option.bind_some, Option.map_some, Option.bind_none, Option.map_none, cond_true, cond_false, List.map_cons, List.map_nil, List.cons_append, List.nil_append, List.getElem?_cons_zero, List.getElem?_cons_succ, List.set_cons_zero, List.set_cons_succ, List.length_cons, List.length_nil, List.replicate, e, h1]
theorem between_no {d : D} (h : Cells) (hp : plain d = true) (hi : ∀ n, d ≠ .int n) (a b : Int) : F_is_whole_between [d, .int a, .int b] h = some (.bl false, h) := by
  have e := whole_ok (d := d) h hp
  cases d <;> simp only [plain] at hp <;> try (cases hp; done)
  all_goals first
    | exact absurd rfl (hi _)
    | simp [F_is_whole_between, b_is_whole_between, mFun, line, mSeq, mAsg, mRet, mRetN, mDrop, mIfS, mTBin, mBin, mVar, mC, mCons, mNil, mTup, mLst, mLstC, mCB, mCall, mCallK, mIf, mAndV, mOrV, mNotV, mAnd, mOr, mNot, mTru, mUn, mChain, tB', mNx, mNev, mFor, mForL, mWhile, mComp, mCompL, mYes, gN, gT, gsCons, gsNil, gSubD, mApp, mPar, mPar3, mAugI, mSl, mSo, mNo, iR1, iR2, iR3, iS, iEn, iL, iT, asB, asL, asT, asLT, asInt, oB, oAdd, oSub, oMulA, oMul, oDiv, oMod, oPow, oNeg, cI, oEq, oNe, oIx, asSeq, oInt, oAbs, oLen, oMax2, oMin2, oDivmod, oIsi, tyD, okCell, truthD, mFrz, Option.bind_some, Option.map_some, Option.bind_none, Option.map_none, cond_true, cond_false, List.map_cons, List.map_nil, List.cons_append, List.nil_append, List.getElem?_cons_zero, List.getElem?_cons_succ, List.set_cons_zero, List.set_cons_succ, List.length_cons, List.length_nil, List.replicate, e]
theorem disc_is {d : D} (h : Cells) (hp : plain d = true) : F_is_discriminant [d] h = some (.bl (dOk d), h) := by
  by_cases hi : ∃ n, d = .int n
  · obtain ⟨n, rfl⟩ := hi
    have e := between_ok h n (-400) (-3)
    have e2 := in2 h (n % 4) 0 1
    by_cases h1 : -400 ≤ n ∧ n ≤ -3
    · have : dOk (.int n) = (decide (0 = n % 4) || decide (1 = n % 4)) := by
        simp only [dOk, okD]
        rw [← Bool.decide_or]
        exact decide_eq_decide.mpr ⟨fun h => by omega, fun h => by omega⟩
      simp [F_is_discriminant, b_is_discriminant, mFun, line, mSeq, mAsg, mRet, mRetN, mDrop, mIfS, mTBin, mBin, mVar, mC, mCons, mNil, mTup, mLst, mLstC, mCB, mCall, mCallK, mIf, mAndV, mOrV, mNotV, mAnd, mOr, mNot, mTru, mUn, mChain, tB', mNx, mNev, mFor, mForL, mWhile, mComp, mCompL, mYes, gN, gT, gsCons, gsNil, gSubD, mApp, mPar, mPar3, mAugI, mSl, mSo, mNo, iR1, iR2, iR3, iS, iEn, iL, iT, asB, asL, asT, asLT, asInt, oB, oAdd, oSub, oMulA, oMul, oDiv, oMod, oPow, oNeg, cI, oEq, oNe, oIx, asSeq, oInt, oAbs, oLen, oMax2, oMin2, oDivmod, oIsi, tyD, okCell, truthD, mFrz, Option.bind_some, Option.map_some, Option.bind_none, Option.map_none, cond_true, cond_false, List.map_cons, List.map_nil, List.cons_append, List.nil_append, List.getElem?_cons_zero, List.getElem?_cons_succ, List.set_cons_zero, List.set_cons_succ, List.length_cons, List.length_nil, List.replicate, e, e2, h1, this]
    · have : dOk (.int n) = false := decide_eq_false fun z => h1 ⟨z.1, z.2.1⟩
      simp [F_is_discriminant, b_is_discriminant, mFun, line, mSeq, mAsg, mRet, mRetN, mDrop, mIfS, mTBin, mBin, mVar, mC, mCons, mNil, mTup, mLst, mLstC, mCB, mCall, mCallK, mIf, mAndV, mOrV, mNotV, mAnd, mOr, mNot, mTru, mUn, mChain, tB', mNx, mNev, mFor, mForL, mWhile, mComp, mCompL, mYes, gN, gT, gsCons, gsNil, gSubD, mApp, mPar, mPar3, mAugI, mSl, mSo, mNo, iR1, iR2, iR3, iS, iEn, iL, iT, asB, asL, asT, asLT, asInt, oB, oAdd, oSub, oMulA, oMul, oDiv, oMod, oPow, oNeg, cI, oEq, oNe, oIx, asSeq, oInt, oAbs, oLen, oMax2, oMin2, oDivmod, oIsi, tyD, okCell, truthD, mFrz, Option.bind_some, Option.map_some, Option.bind_none, Option.map_none, cond_true, cond_false, List.map_cons, List.map_nil, List.cons_append, List.nil_append, List.getElem?_cons_zero, List.getElem?_cons_succ, List.set_cons_zero, List.set_cons_succ, List.length_cons, List.length_nil, List.replicate, e, h1, this]
  · have e := between_no (d := d) h hp (fun n z => hi ⟨n, z⟩) (-400) (-3)
    have : dOk d = false := by
      cases d <;> first | rfl | exact absurd ⟨_, rfl⟩ hi
    simp [F_is_discriminant, b_is_discriminant, mFun, line, mSeq, mAsg, mRet, mRetN, mDrop, mIfS, mTBin, mBin, mVar, mC, mCons, mNil, mTup, mLst, mLstC, mCB, mCall, mCallK, mIf, mAndV, mOrV, mNotV, mAnd, mOr, mNot, mTru, mUn, mChain, tB', mNx, mNev, mFor, mForL, mWhile, mComp, mCompL, mYes, gN, gT, gsCons, gsNil, gSubD, mApp, mPar, mPar3, mAugI, mSl, mSo, mNo, iR1, iR2, iR3, iS, iEn, iL, iT, asB, asL, asT, asLT, asInt, oB, oAdd, oSub, oMulA, oMul, oDiv, oMod, oPow, oNeg, cI, oEq, oNe, oIx, asSeq, oInt, oAbs, oLen, oMax2, oMin2, oDivmod, oIsi, tyD, okCell, truthD, mFrz, Option.bind_some, Option.map_some, Option.bind_none, Option.map_none, cond_true, cond_false, List.map_cons, List.map_nil, List.cons_append, List.nil_append, List.getElem?_cons_zero, List.getElem?_cons_succ, List.set_cons_zero, List.set_cons_succ, List.length_cons, List.length_nil, List.replicate, e, this]
theorem ldisc_is {d : D} (h : Cells) (hp : plain d = true) : F__law_is_discriminant [d] h = some (.bl (dOk d), h) := by
  have e := lwhole_ok (d := d) h hp
  by_cases hi : ∃ n, d = .int n
  · obtain ⟨n, rfl⟩ := hi
    by_cases h1 : -400 ≤ n
    · by_cases h2 : n ≤ -3
      · have : dOk (.int n) = decide (n % 4 < 2) := decide_eq_decide.mpr ⟨fun z => by have := z.2.2; omega, fun z => ⟨h1, h2, by omega⟩⟩
        simp [F__law_is_discriminant, b__law_is_discriminant, mFun, line, mSeq, mAsg, mRet, mRetN, mDrop, mIfS, mTBin, mBin, mVar, mC, mCons, mNil, mTup, mLst, mLstC, mCB, mCall, mCallK, mIf, mAndV, mOrV, mNotV, mAnd, mOr, mNot, mTru, mUn, mChain, tB', mNx, mNev, mFor, mForL, mWhile, mComp, mCompL, mYes, gN, gT, gsCons, gsNil, gSubD, mApp, mPar, mPar3, mAugI, mSl, mSo, mNo, iR1, iR2, iR3, iS, iEn, iL, iT, asB, asL, asT, asLT, asInt, oB, oAdd, oSub, oMulA, oMul, oDiv, oMod, oPow, oNeg, cI, oEq, oNe, oIx, asSeq, oInt, oAbs, oLen, oMax2, oMin2, oDivmod, oIsi, tyD, okCell, truthD, mFrz, Option.bind_some, Option.map_some, Option.bind_none, Option.map_none, cond_true, cond_false, List.map_cons, List.map_nil, List.cons_append, List.nil_append, List.getElem?_cons_zero, List.getElem?_cons_succ, List.set_cons_zero, List.set_cons_succ, List.length_cons, List.length_nil, List.replicate, e, h1, h2, this]
      · have : dOk (.int n) = false := decide_eq_false fun z => h2 z.2.1
        simp [F__law_is_discriminant, b__law_is_discriminant, mFun, line, mSeq, mAsg, mRet, mRetN, mDrop, mIfS, mTBin, mBin, mVar, mC, mCons, mNil, mTup, mLst, mLstC, mCB, mCall, mCallK, mIf, mAndV, mOrV, mNotV, mAnd, mOr, mNot, mTru, mUn, mChain, tB', mNx, mNev, mFor, mForL, mWhile, mComp, mCompL, mYes, gN, gT, gsCons, gsNil, gSubD, mApp, mPar, mPar3, mAugI, mSl, mSo, mNo, iR1, iR2, iR3, iS, iEn, iL, iT, asB, asL, asT, asLT, asInt, oB, oAdd, oSub, oMulA, oMul, oDiv, oMod, oPow, oNeg, cI, oEq, oNe, oIx, asSeq, oInt, oAbs, oLen, oMax2, oMin2, oDivmod, oIsi, tyD, okCell, truthD, mFrz, Option.bind_some, Option.map_some, Option.bind_none, Option.map_none, cond_true, cond_false, List.map_cons, List.map_nil, List.cons_append, List.nil_append, List.getElem?_cons_zero, List.getElem?_cons_succ, List.set_cons_zero, List.set_cons_succ, List.length_cons, List.length_nil, List.replicate, e, h1, h2, this]
    · have : dOk (.int n) = false := decide_eq_false fun z => h1 z.1
      simp [F__law_is_discriminant, b__law_is_discriminant, mFun, line, mSeq, mAsg, mRet, mRetN, mDrop, mIfS, mTBin, mBin, mVar, mC, mCons, mNil, mTup, mLst, mLstC, mCB, mCall, mCallK, mIf, mAndV, mOrV, mNotV, mAnd, mOr, mNot, mTru, mUn, mChain, tB', mNx, mNev, mFor, mForL, mWhile, mComp, mCompL, mYes, gN, gT, gsCons, gsNil, gSubD, mApp, mPar, mPar3, mAugI, mSl, mSo, mNo, iR1, iR2, iR3, iS, iEn, iL, iT, asB, asL, asT, asLT, asInt, oB, oAdd, oSub, oMulA, oMul, oDiv, oMod, oPow, oNeg, cI, oEq, oNe, oIx, asSeq, oInt, oAbs, oLen, oMax2, oMin2, oDivmod, oIsi, tyD, okCell, truthD, mFrz, Option.bind_some, Option.map_some, Option.bind_none, Option.map_none, cond_true, cond_false, List.map_cons, List.map_nil, List.cons_append, List.nil_append, List.getElem?_cons_zero, List.getElem?_cons_succ, List.set_cons_zero, List.set_cons_succ, List.length_cons, List.length_nil, List.replicate, e, h1, this]
  · cases d <;> first
      | exact absurd ⟨_, rfl⟩ hi
      | (simp only [plain] at hp; cases hp; done)
      | simp [F__law_is_discriminant, b__law_is_discriminant, mFun, line, mSeq, mAsg, mRet, mRetN, mDrop, mIfS, mTBin, mBin, mVar, mC, mCons, mNil, mTup, mLst, mLstC, mCB, mCall, mCallK, mIf, mAndV, mOrV, mNotV, mAnd, mOr, mNot, mTru, mUn, mChain, tB', mNx, mNev, mFor, mForL, mWhile, mComp, mCompL, mYes, gN, gT, gsCons, gsNil, gSubD, mApp, mPar, mPar3, mAugI, mSl, mSo, mNo, iR1, iR2, iR3, iS, iEn, iL, iT, asB, asL, asT, asLT, asInt, oB, oAdd, oSub, oMulA, oMul, oDiv, oMod, oPow, oNeg, cI, oEq, oNe, oIx, asSeq, oInt, oAbs, oLen, oMax2, oMin2, oDivmod, oIsi, tyD, okCell, truthD, mFrz, Option.bind_some, Option.map_some, Option.bind_none, Option.map_none, cond_true, cond_false, List.map_cons, List.map_nil, List.cons_append, List.nil_append, List.getElem?_cons_zero, List.getElem?_cons_succ, List.set_cons_zero, List.set_cons_succ, List.length_cons, List.length_nil, List.replicate, e, dOk]
theorem check_ok {n : Int} (h : Cells) (hn : okD n) : F_check_discriminant [.int n] h = some (.non, h) := by
  have e := disc_is (d := .int n) h rfl
  have : dOk (.int n) = true := decide_eq_true hn
  rw [this] at e
  simp [F_check_discriminant, b_check_discriminant, mFun, line, mSeq, mAsg, mRet, mRetN, mDrop, mIfS, mTBin, mBin, mVar, mC, mCons, mNil, mTup, mLst, mLstC, mCB, mCall, mCallK, mIf, mAndV, mOrV, mNotV, mAnd, mOr, mNot, mTru, mUn, mChain, tB', mNx, mNev, mFor, mForL, mWhile, mComp, mCompL, mYes, gN, gT, gsCons, gsNil, gSubD, mApp, mPar, mPar3, mAugI, mSl, mSo, mNo, iR1, iR2, iR3, iS, iEn, iL, iT, asB, asL, asT, asLT, asInt, oB, oAdd, oSub, oMulA, oMul, oDiv, oMod, oPow, oNeg, cI, oEq, oNe, oIx, asSeq, oInt, oAbs, oLen, oMax2, oMin2, oDivmod, oIsi, tyD, okCell, truthD, mFrz, Option.bind_some, Option.map_some, Option.bind_none, Option.map_none, cond_true, cond_false, List.map_cons, List.map_nil, List.cons_append, List.nil_append, List.getElem?_cons_zero, List.getElem?_cons_succ, List.set_cons_zero, List.set_cons_succ, List.length_cons, List.length_nil, List.replicate, e]
/-- all discriminants -/
def allD : List Int := (List.range 398).filterMap fun (i : Nat) => if okD (-400 + i) then some (-400 + i) else none
theorem mem_allD {n : Int} (h : okD n) : n ∈ allD := by
  refine List.mem_filterMap.mpr ⟨(n + 400).toNat, List.mem_range.mpr (by have := h.1; have := h.2.1; omega), ?_⟩
  have e : -400 + (((n + 400).toNat : Nat) : Int) = n := by have := h.1; omega
  rw [e, if_pos h]
/-- both parts, by all discriminants -/
def pOf : Option (D × Cells) → Int × Int
  | some (.tup [.int a, .int b], _) => (a, b)
  | _ => (0, 0)
def pa (n : Int) : Int × Int := pOf (F__law_parts [.int n] [])
theorem parts_all (h : Cells) : allD.map (fun n => F_parts_of [.int n] h) = allD.map (fun n => some (.tup [.int (pa n).1, .int (pa n).2], h)) := by kernel_rfl
theorem lparts_all (h : Cells) : allD.map (fun n => F__law_parts [.int n] h) = allD.map (fun n => some (.tup [.int (pa n).1, .int (pa n).2], h)) := by kernel_rfl
theorem map_at {α β : Type} {f g : α → β} : ∀ {l : List α}, l.map f = l.map g → ∀ x ∈ l, f x = g x
  | [], _, x, h => (by cases h)
  | a :: l, e, x, h => by
    simp only [List.map_cons, List.cons.injEq] at e
    rcases List.mem_cons.mp h with z | z
    · subst z; exact e.1
    · exact map_at e.2 x z
theorem parts_ok {n : Int} (h : Cells) (hn : okD n) : F_parts_of [.int n] h = some (.tup [.int (pa n).1, .int (pa n).2], h) := map_at (parts_all h) n (mem_allD hn)
theorem lparts_ok {n : Int} (h : Cells) (hn : okD n) : F__law_parts [.int n] h = some (.tup [.int (pa n).1, .int (pa n).2], h) := map_at (lparts_all h) n (mem_allD hn)
theorem pa_small : ∀ n ∈ allD, (pa n).1.natAbs < 1000 ∧ (pa n).2.natAbs < 1000 := by decide +kernel
end Law

set_option Elab.async false
set_option linter.all false
set_option maxRecDepth 100000
set_option maxHeartbeats 4000000
namespace Law
open PySem L2 Zm
/-! ### the primes of which a number is the product -/
def tr : Nat → Int → Int → List Int
  | 0, _, _ => []
  | f + 1, p, n => if p * p ≤ n then (if n % p = 0 then p :: tr f p (n / p) else tr f (p + 1) n) else if 1 < n then [n] else []
theorem gl {h : Cells} {x : List D} : (h ++ [x])[h.length]? = some x := by simp
theorem sl {h : Cells} {x y : List D} : (h ++ [x]).set h.length y = h ++ [y] := by simp
abbrev ppC : MT := (mTBin cLe (mBin oMulA (mVar 2) (mVar 2)) (mVar 0))
abbrev ppB : MB := (mIfS (mTBin oEq (mBin oMod (mVar 0) (mVar 2)) (mC (.int 0))) (mSeq (mDrop (mApp (mVar 1) (mCons (mVar 2) mNil)))
    (mAsg (mBin oDiv (mVar 0) (mVar 2)) (gN 0))) (mAugI 2 (fun i j => i + j) (mC (.int 1))))
abbrev lfC : MT := (mTBin cGt (mVar 2) (mC (.int 1)))
abbrev lfB : MB := (mSeq (mIfS (mTBin cGt (mBin oMulA (mVar 3) (mVar 3)) (mVar 2)) (mAsg (mVar 2) (gN 3)) mNx)
    (mIfS (mTBin oEq (mBin oMod (mCB oInt (mCons (mVar 2) mNil)) (mVar 3)) (mC (.int 0))) (mSeq (mDrop (mApp (mVar 1) (mCons (mVar 3) mNil)))
    (mAsg (mBin oDiv (mVar 2) (mVar 3)) (gN 2))) (mAsg (mBin oAdd (mVar 3) (mC (.int 1))) (gN 3))))
theorem b_pp_eq : b_prime_parts = (mSeq (mAsg (mLstC mNil) (gN 1))
    (mSeq (mAsg (mC (.int 2)) (gN 2))
    (mSeq (mWhile (fun ms => 2 * slI ms 0 + 2) ppC ppB)
    (mSeq (mIfS (mTBin cGt (mVar 0) (mC (.int 1))) (mDrop (mApp (mVar 1) (mCons (mVar 0) mNil))) mNx)
    (mRet (mVar 1)))))) := rfl
theorem b_lf_eq : b__law_factors = (mSeq (mPar3 1 2 3 (mCons (mLstC mNil) (mCons (mVar 0) (mCons (mC (.int 2)) mNil))))
    (mSeq (mWhile (fun ms => 2 * slI ms 0 + 2) lfC lfB)
    (mRet (mVar 1)))) := rfl
theorem div_small {n p : Int} (hp : 2 ≤ p) (hn : 1 ≤ n) (h : p * p ≤ n) : 1 ≤ n / p ∧ 2 * (n / p) ≤ n ∧ p ≤ n := by
  have h1 : p ≤ n := Int.le_trans (by have := Int.mul_le_mul_of_nonneg_left (show 1 ≤ p by omega) (show 0 ≤ p by omega); omega) h
  have h2 : 1 ≤ n / p := (Int.le_ediv_iff_mul_le (by omega)).mpr (by omega)
  refine ⟨h2, ?_, h1⟩
  have h3 : n / p * p ≤ n := Int.ediv_mul_le n (by omega)
  have h4 := Int.mul_le_mul_of_nonneg_left hp (show 0 ≤ n / p by omega)
  omega
theorem pp_loop {h : Cells} : ∀ (f : Nat) (p n : Int) (acc : List D), 2 ≤ p → p ≤ 10001 → 1 ≤ n → n ≤ 10000 → 2 ≤ f → 2 * n - p + 2 ≤ f → acc.length + f ≤ 100000 →
    ∃ n' p' xs, mWhileL ppC ppB f ⟨[some (.int n), some (.cell h.length), some (.int p)], h ++ [acc]⟩ = some (.nx, ⟨[some (.int n'), some (.cell h.length), some (.int p')], h ++ [acc ++ xs.map D.int]⟩) ∧ tr f p n = xs ++ (if 1 < n' then [n'] else []) ∧ xs.length ≤ f
  | 0, p, n, acc, h1, h2, h3, h4, h5, h6, h7 => by omega
  | f + 1, p, n, acc, h1, h2, h3, h4, h5, h6, h7 => by
    have wp : wideM p p = true := wide64 (by omega) (by omega)
    have dp : wideD p = true := divS (by omega) (by omega)
    by_cases hc : p * p ≤ n
    · obtain ⟨d1, d2, d3⟩ := div_small h1 h3 hc
      by_cases hm : n % p = 0
      · obtain ⟨n', p', xs, e, et, el⟩ := pp_loop (h := h) f p (n / p) (acc ++ [.int p]) h1 h2 d1 (by omega) (by omega) (by omega) (by simp; omega)
        refine ⟨n', p', p :: xs, ?_, by simp [tr, hc, hm, et], by simp; omega⟩
        have e' : mWhileL ppC ppB f ⟨[some (.int (n / p)), some (.cell h.length), some (.int p)], h ++ [acc ++ [.int p]]⟩ = some (.nx, ⟨[some (.int n'), some (.cell h.length), some (.int p')], h ++ [acc ++ (p :: xs).map D.int]⟩) := by simpa using e
        rw [← e']
        have hl : decide (acc.length < line) = true := decide_eq_true (by show acc.length < 16777216; omega)
        have hp : decide (0 < p) = true := decide_eq_true (by omega)
        simp only [mWhileL]
        simp [ppC, ppB, mFun, line, mSeq, mAsg, mRet, mRetN, mDrop, mIfS, mTBin, mBin, mVar, mC, mCons, mNil, mTup, mLst, mLstC, mCB, mCall, mCallK, mIf, mAndV, mOrV, mNotV, mAnd, mOr, mNot, mTru, mUn, mChain, tB', mNx, mNev, mFor, mForL, mWhile, mComp, mCompL, mYes, gN, gT, gsCons, gsNil, gSubD, mApp, mPar, mPar3, mAugI, mSl, mSo, mNo, iR1, iR2, iR3, iS, iEn, iL, iT, asB, asL, asT, asLT, asInt, oB, oAdd, oSub, oMulA, oMul, oDiv, oMod, oPow, oNeg, cI, oEq, oNe, oIx, asSeq, oInt, oAbs, oLen, oMax2, oMin2, oDivmod, oIsi, tyD, okCell, truthD, mFrz, Option.bind_some, Option.map_some, Option.bind_none, Option.map_none, cond_true, cond_false, List.map_cons, List.map_nil, List.cons_append, List.nil_append, List.getElem?_cons_zero, List.getElem?_cons_succ, List.set_cons_zero, List.set_cons_succ, List.length_cons, List.length_nil, List.replicate, wp, dp, hc, hm, gl, sl, show (0:Int) < p by omega, show acc.length < 16777216 by omega]
      · obtain ⟨n', p', xs, e, et, el⟩ := pp_loop (h := h) f (p + 1) n acc (by omega) (by omega) h3 h4 (by omega) (by omega) (by omega)
        refine ⟨n', p', xs, ?_, by simp [tr, hc, hm, et], by omega⟩
        rw [← e]
        simp only [mWhileL]
        simp [ppC, ppB, mFun, line, mSeq, mAsg, mRet, mRetN, mDrop, mIfS, mTBin, mBin, mVar, mC, mCons, mNil, mTup, mLst, mLstC, mCB, mCall, mCallK, mIf, mAndV, mOrV, mNotV, mAnd, mOr, mNot, mTru, mUn, mChain, tB', mNx, mNev, mFor, mForL, mWhile, mComp, mCompL, mYes, gN, gT, gsCons, gsNil, gSubD, mApp, mPar, mPar3, mAugI, mSl, mSo, mNo, iR1, iR2, iR3, iS, iEn, iL, iT, asB, asL, asT, asLT, asInt, oB, oAdd, oSub, oMulA, oMul, oDiv, oMod, oPow, oNeg, cI, oEq, oNe, oIx, asSeq, oInt, oAbs, oLen, oMax2, oMin2, oDivmod, oIsi, tyD, okCell, truthD, mFrz, Option.bind_some, Option.map_some, Option.bind_none, Option.map_none, cond_true, cond_false, List.map_cons, List.map_nil, List.cons_append, List.nil_append, List.getElem?_cons_zero, List.getElem?_cons_succ, List.set_cons_zero, List.set_cons_succ, List.length_cons, List.length_nil, List.replicate, wp, dp, hc, hm, gl, sl, show (0:Int) < p by omega]
    · refine ⟨n, p, [], ?_, by simp [tr, hc], by simp⟩
      simp only [mWhileL]
      simp [ppC, ppB, mFun, line, mSeq, mAsg, mRet, mRetN, mDrop, mIfS, mTBin, mBin, mVar, mC, mCons, mNil, mTup, mLst, mLstC, mCB, mCall, mCallK, mIf, mAndV, mOrV, mNotV, mAnd, mOr, mNot, mTru, mUn, mChain, tB', mNx, mNev, mFor, mForL, mWhile, mComp, mCompL, mYes, gN, gT, gsCons, gsNil, gSubD, mApp, mPar, mPar3, mAugI, mSl, mSo, mNo, iR1, iR2, iR3, iS, iEn, iL, iT, asB, asL, asT, asLT, asInt, oB, oAdd, oSub, oMulA, oMul, oDiv, oMod, oPow, oNeg, cI, oEq, oNe, oIx, asSeq, oInt, oAbs, oLen, oMax2, oMin2, oDivmod, oIsi, tyD, okCell, truthD, mFrz, Option.bind_some, Option.map_some, Option.bind_none, Option.map_none, cond_true, cond_false, List.map_cons, List.map_nil, List.cons_append, List.nil_append, List.getElem?_cons_zero, List.getElem?_cons_succ, List.set_cons_zero, List.set_cons_succ, List.length_cons, List.length_nil, List.replicate, wp, hc]
theorem ints_clean (xs : List Int) : cleans (xs.map D.int) = true := by
  induction xs with
  | nil => rfl
  | cons x r ih => simp [cleans, clean, ih]
theorem prime_parts_ok {n : Int} {h : Cells} (hc : ∀ ds ∈ h, cleans ds = true) (h1 : 1 ≤ n) (h2 : n ≤ 10000) : F_prime_parts [.int n] h = some (.lst ((tr (2 * n.natAbs + 2) 2 n).map D.int), h) := by
  obtain ⟨n', p', xs, e, et, el⟩ := pp_loop (h := h) (2 * n.natAbs + 2) 2 n [] (by omega) (by omega) h1 h2 (by omega) (by omega) (by simp; omega)
  have hh : h.all cleans = true := List.all_eq_true.mpr hc
  have cx := ints_clean xs
  have cy := ints_clean (xs ++ [n'])
  unfold F_prime_parts
  rw [b_pp_eq, et]
  simp only [List.nil_append] at e
  generalize ppC = C at e ⊢
  generalize ppB = B at e ⊢
  by_cases hn : 1 < n'
  · have cy' : cleans (xs.map D.int ++ [.int n']) = true := by simpa using cy
    simp [mFun, line, mSeq, mAsg, mRet, mRetN, mDrop, mIfS, mTBin, mBin, mVar, mC, mCons, mNil, mTup, mLst, mLstC, mCB, mCall, mCallK, mIf, mAndV, mOrV, mNotV, mAnd, mOr, mNot, mTru, mUn, mChain, tB', mNx, mNev, mFor, mForL, mWhile, mComp, mCompL, mYes, gN, gT, gsCons, gsNil, gSubD, mApp, mPar, mPar3, mAugI, mSl, mSo, mNo, iR1, iR2, iR3, iS, iEn, iL, iT, asB, asL, asT, asLT, asInt, oB, oAdd, oSub, oMulA, oMul, oDiv, oMod, oPow, oNeg, cI, oEq, oNe, oIx, asSeq, oInt, oAbs, oLen, oMax2, oMin2, oDivmod, oIsi, tyD, okCell, truthD, mFrz, Option.bind_some, Option.map_some, Option.bind_none, Option.map_none, cond_true, cond_false, List.map_cons, List.map_nil, List.cons_append, List.nil_append, List.getElem?_cons_zero, List.getElem?_cons_succ, List.set_cons_zero, List.set_cons_succ, List.length_cons, List.length_nil, List.replicate, e, hn, gl, sl, slI, frzD, hh, cx, cy', show xs.length < 16777216 by omega]
  · simp [mFun, line, mSeq, mAsg, mRet, mRetN, mDrop, mIfS, mTBin, mBin, mVar, mC, mCons, mNil, mTup, mLst, mLstC, mCB, mCall, mCallK, mIf, mAndV, mOrV, mNotV, mAnd, mOr, mNot, mTru, mUn, mChain, tB', mNx, mNev, mFor, mForL, mWhile, mComp, mCompL, mYes, gN, gT, gsCons, gsNil, gSubD, mApp, mPar, mPar3, mAugI, mSl, mSo, mNo, iR1, iR2, iR3, iS, iEn, iL, iT, asB, asL, asT, asLT, asInt, oB, oAdd, oSub, oMulA, oMul, oDiv, oMod, oPow, oNeg, cI, oEq, oNe, oIx, asSeq, oInt, oAbs, oLen, oMax2, oMin2, oDivmod, oIsi, tyD, okCell, truthD, mFrz, Option.bind_some, Option.map_some, Option.bind_none, Option.map_none, cond_true, cond_false, List.map_cons, List.map_nil, List.cons_append, List.nil_append, List.getElem?_cons_zero, List.getElem?_cons_succ, List.set_cons_zero, List.set_cons_succ, List.length_cons, List.length_nil, List.replicate, e, hn, gl, sl, slI, frzD, hh, cx]
theorem lf_loop {h : Cells} {n0 : Option D} : ∀ (f : Nat) (p n : Int) (acc : List D), 2 ≤ p → p ≤ 10001 → 1 ≤ n → n ≤ 10000 → 2 ≤ f → 2 * n - p + 2 ≤ f → acc.length + f ≤ 100000 →
    ∃ n' p', mWhileL lfC lfB f ⟨[n0, some (.cell h.length), some (.int n), some (.int p)], h ++ [acc]⟩ = some (.nx, ⟨[n0, some (.cell h.length), some (.int n'), some (.int p')], h ++ [acc ++ (tr f p n).map D.int]⟩)
  | 0, p, n, acc, h1, h2, h3, h4, h5, h6, h7 => by omega
  | 1, p, n, acc, h1, h2, h3, h4, h5, h6, h7 => by omega
  | f + 2, p, n, acc, h1, h2, h3, h4, h5, h6, h7 => by
    have wp : wideM p p = true := wide64 (by omega) (by omega)
    have dp : wideD p = true := divS (by omega) (by omega)
    have dn : wideD n = true := divS (by omega) (by omega)
    by_cases hn1 : 1 < n
    · by_cases hc : p * p ≤ n
      · obtain ⟨d1, d2, d3⟩ := div_small h1 h3 hc
        have hc' : ¬ n < p * p := by omega
        by_cases hm : n % p = 0
        · obtain ⟨n', p', e⟩ := lf_loop (h := h) (n0 := n0) (f + 1) p (n / p) (acc ++ [.int p]) h1 h2 d1 (by omega) (by omega) (by omega) (by simp; omega)
          refine ⟨n', p', ?_⟩
          have et : tr (f + 2) p n = p :: tr (f + 1) p (n / p) := by rw [tr]; simp [hc, hm]
          have e' : mWhileL lfC lfB (f + 1) ⟨[n0, some (.cell h.length), some (.int (n / p)), some (.int p)], h ++ [acc ++ [.int p]]⟩ = some (.nx, ⟨[n0, some (.cell h.length), some (.int n'), some (.int p')], h ++ [acc ++ (tr (f + 2) p n).map D.int]⟩) := by rw [et]; simpa using e
          rw [← e', mWhileL]
          simp [lfC, lfB, mFun, line, mSeq, mAsg, mRet, mRetN, mDrop, mIfS, mTBin, mBin, mVar, mC, mCons, mNil, mTup, mLst, mLstC, mCB, mCall, mCallK, mIf, mAndV, mOrV, mNotV, mAnd, mOr, mNot, mTru, mUn, mChain, tB', mNx, mNev, mFor, mForL, mWhile, mComp, mCompL, mYes, gN, gT, gsCons, gsNil, gSubD, mApp, mPar, mPar3, mAugI, mSl, mSo, mNo, iR1, iR2, iR3, iS, iEn, iL, iT, asB, asL, asT, asLT, asInt, oB, oAdd, oSub, oMulA, oMul, oDiv, oMod, oPow, oNeg, cI, oEq, oNe, oIx, asSeq, oInt, oAbs, oLen, oMax2, oMin2, oDivmod, oIsi, tyD, okCell, truthD, mFrz, Option.bind_some, Option.map_some, Option.bind_none, Option.map_none, cond_true, cond_false, List.map_cons, List.map_nil, List.cons_append, List.nil_append, List.getElem?_cons_zero, List.getElem?_cons_succ, List.set_cons_zero, List.set_cons_succ, List.length_cons, List.length_nil, List.replicate, wp, dp, hn1, hc', hm, gl, sl, show (0:Int) < p by omega, show acc.length < 16777216 by omega]
        · obtain ⟨n', p', e⟩ := lf_loop (h := h) (n0 := n0) (f + 1) (p + 1) n acc (by omega) (by omega) h3 h4 (by omega) (by omega) (by omega)
          refine ⟨n', p', ?_⟩
          have et : tr (f + 2) p n = tr (f + 1) (p + 1) n := by rw [tr]; simp [hc, hm]
          rw [et, ← e, mWhileL]
          simp [lfC, lfB, mFun, line, mSeq, mAsg, mRet, mRetN, mDrop, mIfS, mTBin, mBin, mVar, mC, mCons, mNil, mTup, mLst, mLstC, mCB, mCall, mCallK, mIf, mAndV, mOrV, mNotV, mAnd, mOr, mNot, mTru, mUn, mChain, tB', mNx, mNev, mFor, mForL, mWhile, mComp, mCompL, mYes, gN, gT, gsCons, gsNil, gSubD, mApp, mPar, mPar3, mAugI, mSl, mSo, mNo, iR1, iR2, iR3, iS, iEn, iL, iT, asB, asL, asT, asLT, asInt, oB, oAdd, oSub, oMulA, oMul, oDiv, oMod, oPow, oNeg, cI, oEq, oNe, oIx, asSeq, oInt, oAbs, oLen, oMax2, oMin2, oDivmod, oIsi, tyD, okCell, truthD, mFrz, Option.bind_some, Option.map_some, Option.bind_none, Option.map_none, cond_true, cond_false, List.map_cons, List.map_nil, List.cons_append, List.nil_append, List.getElem?_cons_zero, List.getElem?_cons_succ, List.set_cons_zero, List.set_cons_succ, List.length_cons, List.length_nil, List.replicate, wp, dp, hn1, hc', hm, gl, sl, show (0:Int) < p by omega]
      · have hc' : n < p * p := by omega
        refine ⟨1, n, ?_⟩
        have et : tr (f + 2) p n = [n] := by rw [tr]; simp [hc, hn1]
        rw [et, mWhileL]
        have self : n / n = 1 := Int.ediv_self (by omega)
        simp [lfC, lfB, mFun, line, mSeq, mAsg, mRet, mRetN, mDrop, mIfS, mTBin, mBin, mVar, mC, mCons, mNil, mTup, mLst, mLstC, mCB, mCall, mCallK, mIf, mAndV, mOrV, mNotV, mAnd, mOr, mNot, mTru, mUn, mChain, tB', mNx, mNev, mFor, mForL, mWhile, mComp, mCompL, mYes, gN, gT, gsCons, gsNil, gSubD, mApp, mPar, mPar3, mAugI, mSl, mSo, mNo, iR1, iR2, iR3, iS, iEn, iL, iT, asB, asL, asT, asLT, asInt, oB, oAdd, oSub, oMulA, oMul, oDiv, oMod, oPow, oNeg, cI, oEq, oNe, oIx, asSeq, oInt, oAbs, oLen, oMax2, oMin2, oDivmod, oIsi, tyD, okCell, truthD, mFrz, Option.bind_some, Option.map_some, Option.bind_none, Option.map_none, cond_true, cond_false, List.map_cons, List.map_nil, List.cons_append, List.nil_append, List.getElem?_cons_zero, List.getElem?_cons_succ, List.set_cons_zero, List.set_cons_succ, List.length_cons, List.length_nil, List.replicate, wp, dn, hn1, hc', gl, sl, self, show (0:Int) < n by omega, show acc.length < 16777216 by omega, mWhileL]
    · refine ⟨n, p, ?_⟩
      have hc : ¬ p * p ≤ n := by
        have := Int.mul_le_mul_of_nonneg_left h1 (show 0 ≤ p by omega)
        omega
      have et : tr (f + 2) p n = [] := by rw [tr]; simp [hc, hn1]
      rw [et, mWhileL]
      simp [lfC, lfB, mFun, line, mSeq, mAsg, mRet, mRetN, mDrop, mIfS, mTBin, mBin, mVar, mC, mCons, mNil, mTup, mLst, mLstC, mCB, mCall, mCallK, mIf, mAndV, mOrV, mNotV, mAnd, mOr, mNot, mTru, mUn, mChain, tB', mNx, mNev, mFor, mForL, mWhile, mComp, mCompL, mYes, gN, gT, gsCons, gsNil, gSubD, mApp, mPar, mPar3, mAugI, mSl, mSo, mNo, iR1, iR2, iR3, iS, iEn, iL, iT, asB, asL, asT, asLT, asInt, oB, oAdd, oSub, oMulA, oMul, oDiv, oMod, oPow, oNeg, cI, oEq, oNe, oIx, asSeq, oInt, oAbs, oLen, oMax2, oMin2, oDivmod, oIsi, tyD, okCell, truthD, mFrz, Option.bind_some, Option.map_some, Option.bind_none, Option.map_none, cond_true, cond_false, List.map_cons, List.map_nil, List.cons_append, List.nil_append, List.getElem?_cons_zero, List.getElem?_cons_succ, List.set_cons_zero, List.set_cons_succ, List.length_cons, List.length_nil, List.replicate, hn1]
theorem law_factors_ok {n : Int} {h : Cells} (hc : ∀ ds ∈ h, cleans ds = true) (h1 : 1 ≤ n) (h2 : n ≤ 10000) : F__law_factors [.int n] h = some (.lst ((tr (2 * n.natAbs + 2) 2 n).map D.int), h) := by
  obtain ⟨n', p', e⟩ := lf_loop (h := h) (n0 := some (.int n)) (2 * n.natAbs + 2) 2 n [] (by omega) (by omega) h1 h2 (by omega) (by omega) (by simp; omega)
  have hh : h.all cleans = true := List.all_eq_true.mpr hc
  have cx := ints_clean (tr (2 * n.natAbs + 2) 2 n)
  unfold F__law_factors
  rw [b_lf_eq]
  simp only [List.nil_append] at e
  generalize lfC = C at e ⊢
  generalize lfB = B at e ⊢
  simp [mFun, line, mSeq, mAsg, mRet, mRetN, mDrop, mIfS, mTBin, mBin, mVar, mC, mCons, mNil, mTup, mLst, mLstC, mCB, mCall, mCallK, mIf, mAndV, mOrV, mNotV, mAnd, mOr, mNot, mTru, mUn, mChain, tB', mNx, mNev, mFor, mForL, mWhile, mComp, mCompL, mYes, gN, gT, gsCons, gsNil, gSubD, mApp, mPar, mPar3, mAugI, mSl, mSo, mNo, iR1, iR2, iR3, iS, iEn, iL, iT, asB, asL, asT, asLT, asInt, oB, oAdd, oSub, oMulA, oMul, oDiv, oMod, oPow, oNeg, cI, oEq, oNe, oIx, asSeq, oInt, oAbs, oLen, oMax2, oMin2, oDivmod, oIsi, tyD, okCell, truthD, mFrz, Option.bind_some, Option.map_some, Option.bind_none, Option.map_none, cond_true, cond_false, List.map_cons, List.map_nil, List.cons_append, List.nil_append, List.getElem?_cons_zero, List.getElem?_cons_succ, List.set_cons_zero, List.set_cons_succ, List.length_cons, List.length_nil, List.replicate, e, gl, sl, slI, frzD, hh, cx]
end Law

set_option Elab.async false
set_option linter.all false
set_option maxRecDepth 100000
set_option maxHeartbeats 4000000
namespace Law
open PySem L2 Zm
/-! ### squares modulo a prime, as a mask; powers -/
noncomputable def maskN (q : Nat) (n : Nat) : Nat := Nat.rec (motive := fun _ => Nat) 0 (fun c ih => Nat.lor (Nat.pow 2 (Nat.mod (Nat.mul c c) q)) ih) n
theorem maskN_bit {q r : Nat} : ∀ n : Nat, (maskN q n).testBit r = true ↔ ∃ b, b < n ∧ b * b % q = r
  | 0 => by
    show (0 : Nat).testBit r = true ↔ _
    rw [Nat.zero_testBit]
    exact ⟨fun h => (by cases h), fun ⟨b, h, _⟩ => (by omega)⟩
  | n + 1 => by
    show ((2 ^ (n * n % q)) ||| (maskN q n)).testBit r = true ↔ _
    rw [Nat.testBit_or, Bool.or_eq_true, maskN_bit n, Nat.testBit_two_pow]
    simp only [decide_eq_true_eq]
    constructor
    · rintro (z | ⟨b, b1, z⟩)
      · exact ⟨n, by omega, z⟩
      · exact ⟨b, by omega, z⟩
    · rintro ⟨b, b1, z⟩
      by_cases hb : b = n
      · subst hb; exact .inl z
      · exact .inr ⟨b, by omega, z⟩
noncomputable def mask (q : Nat) : Nat := maskN q (Nat.add (Nat.div (Nat.sub q 1) 2) 1)
theorem mask_bit {q r : Nat} (hr : r ≠ 0) : (mask q).testBit r = true ↔ ∃ b, 1 ≤ b ∧ b < 1 + (q - 1) / 2 ∧ b * b % q = r := by
  unfold mask
  rw [maskN_bit]
  show (∃ b, b < (q - 1) / 2 + 1 ∧ b * b % q = r) ↔ _
  constructor
  · rintro ⟨b, b1, z⟩
    refine ⟨b, ?_, by omega, z⟩
    rcases b with _ | b
    · simp at z; omega
    · omega
  · rintro ⟨b, _, b1, z⟩
    exact ⟨b, by omega, z⟩
def pmod : Nat → Nat → Nat → Nat → Nat → Nat
  | 0, _, r, _, _ => r
  | f + 1, e, r, s, q => bif Nat.beq e 0 then r else pmod f (Nat.div e 2) (bif Nat.beq (Nat.mod e 2) 1 then Nat.mod (Nat.mul r s) q else r) (Nat.mod (Nat.mul s s) q) q
theorem pmod_pow {q : Nat} : ∀ (k e r s : Nat), e < 2 ^ k → pmod k e r s q % q = r * s ^ e % q
  | 0, e, r, s, h => by
    obtain rfl : e = 0 := by simpa using h
    simp [pmod]
  | k + 1, e, r, s, h => by
    have hp : 2 ^ (k + 1) = 2 * 2 ^ k := by rw [Nat.pow_succ]; omega
    unfold pmod
    cases e0 : Nat.beq e 0 with
    | true =>
      obtain rfl := Nat.eq_of_beq_eq_true e0
      simp
    | false =>
      simp only [cond_false]
      rw [pmod_pow k (Nat.div e 2) _ _ (show e / 2 < 2 ^ k by omega)]
      have sq : (Nat.mod (Nat.mul s s) q) ^ (Nat.div e 2) % q = s ^ (2 * (e / 2)) % q := by
        show (s * s % q) ^ (e / 2) % q = _
        rw [← Nat.pow_mod, ← Nat.pow_two, ← Nat.pow_mul]
      rw [Nat.mul_mod, sq, ← Nat.mul_mod]
      cases eo : Nat.beq (Nat.mod e 2) 1 with
      | true =>
        have ho : e % 2 = 1 := Nat.eq_of_beq_eq_true eo
        simp only [cond_true]
        show r * s % q * s ^ (2 * (e / 2)) % q = _
        rw [Nat.mod_mul_mod, Nat.mul_assoc, ← Nat.pow_succ']
        congr 3
        omega
      | false =>
        have ho : e % 2 ≠ 1 := fun z => by rw [show Nat.mod e 2 = 1 from z] at eo; cases eo
        simp only [cond_false]
        congr 3
        omega
theorem pmod_lt {q : Nat} (hq : 0 < q) : ∀ (k e r s : Nat), r < q → pmod k e r s q < q
  | 0, e, r, s, h => h
  | k + 1, e, r, s, h => by
    unfold pmod
    cases Nat.beq e 0 with
    | true => exact h
    | false =>
      simp only [cond_false]
      refine pmod_lt hq k _ _ _ ?_
      cases Nat.beq (Nat.mod e 2) 1 with
      | true => exact Nat.mod_lt _ hq
      | false => exact h
theorem pmod_is {q e s : Nat} (hq : 2 ≤ q) (he : e < 2 ^ 14) : pmod 14 e 1 s q = s ^ e % q := by
  have := pmod_pow (q := q) 14 e 1 s he
  rw [Nat.one_mul, Nat.mod_eq_of_lt (pmod_lt (by omega) 14 e 1 s (by omega))] at this
  exact this
def pr : Nat → Nat → Nat → Bool
  | 0, _, _ => true
  | f + 1, d, q => bif Nat.ble (Nat.mul d d) q then (bif Nat.beq (Nat.mod q d) 0 then false else pr f (Nat.add d 1) q) else true
theorem pr_of {q : Nat} (h : ∀ d, 2 ≤ d → d * d ≤ q → q % d ≠ 0) : ∀ (f d : Nat), 2 ≤ d → pr f d q = true
  | 0, _, _ => rfl
  | f + 1, d, hd => by
    unfold pr
    by_cases hq : d * d ≤ q
    · have e1 : Nat.ble (Nat.mul d d) q = true := Nat.ble_eq_true_of_le hq
      have e2 : Nat.beq (Nat.mod q d) 0 = false := by
        cases e : Nat.beq (Nat.mod q d) 0 with
        | false => rfl
        | true => exact absurd (Nat.eq_of_beq_eq_true e) (h d hd hq)
      rw [e1, e2]
      exact pr_of h f (d + 1) (by omega)
    · have e1 : Nat.ble (Nat.mul d d) q = false := by
        cases e : Nat.ble (Nat.mul d d) q with
        | false => rfl
        | true => exact absurd (Nat.le_of_ble_eq_true e) hq
      rw [e1]; rfl
def bitB (M r : Nat) : Bool := Nat.beq (Nat.land 1 (Nat.shiftRight M r)) 1
theorem bitB_eq (M r : Nat) : bitB M r = M.testBit r := by
  unfold bitB Nat.testBit
  have h : Nat.land 1 (Nat.shiftRight M r) = (M >>> r) % 2 := by
    show 1 &&& (M >>> r) = _
    rw [Nat.and_comm]; exact Nat.and_one_is_mod _
  have h2 : (1 &&& (M >>> r)) = (M >>> r) % 2 := h
  rw [h, h2]
  rcases Nat.mod_two_eq_zero_or_one (M >>> r) with e | e <;> rw [e] <;> rfl
def chkD (q M m : Nat) : Bool :=
  bif Nat.beq (Nat.mod (Nat.sub q (Nat.mod m q)) q) 0 then true else bif Nat.beq (Nat.mod (Nat.pow (Nat.mod (Nat.sub q (Nat.mod m q)) q) (Nat.div (Nat.sub q 1) 2)) q) 1 then bitB M (Nat.mod (Nat.sub q (Nat.mod m q)) q) else !(bitB M (Nat.mod (Nat.sub q (Nat.mod m q)) q))
def allM : List Nat := (List.range 398).filterMap fun (i : Nat) => if okD (-((i : Int) + 3)) then some (i + 3) else none
def litM : List Nat := [3, 4, 7, 8, 11, 12, 15, 16, 19, 20, 23, 24, 27, 28, 31, 32, 35, 36, 39, 40, 43, 44, 47, 48, 51, 52, 55, 56, 59, 60, 63, 64, 67, 68, 71, 72, 75, 76, 79, 80, 83, 84, 87, 88, 91, 92, 95, 96, 99, 100, 103, 104, 107, 108, 111, 112, 115, 116, 119, 120, 123, 124, 127, 128, 131, 132, 135, 136, 139, 140, 143, 144, 147, 148, 151, 152, 155, 156, 159, 160, 163, 164, 167, 168, 171, 172, 175, 176, 179, 180, 183, 184, 187, 188, 191, 192, 195, 196, 199, 200, 203, 204, 207, 208, 211, 212, 215, 216, 219, 220, 223, 224, 227, 228, 231, 232, 235, 236, 239, 240, 243, 244, 247, 248, 251, 252, 255, 256, 259, 260, 263, 264, 267, 268, 271, 272, 275, 276, 279, 280, 283, 284, 287, 288, 291, 292, 295, 296, 299, 300, 303, 304, 307, 308, 311, 312, 315, 316, 319, 320, 323, 324, 327, 328, 331, 332, 335, 336, 339, 340, 343, 344, 347, 348, 351, 352, 355, 356, 359, 360, 363, 364, 367, 368, 371, 372, 375, 376, 379, 380, 383, 384, 387, 388, 391, 392, 395, 396, 399, 400]
theorem same_M : allM = litM := by decide +kernel
def chkL (q M : Nat) : List Nat → Bool
  | [] => true
  | m :: r => bif chkD q M m then chkL q M r else false
noncomputable def chkQ (q : Nat) : Bool := bif Nat.ble q 2 then true else bif pr 100 2 q then chkL q (mask q) litM else true
noncomputable def chkR : Nat → Nat → Bool
  | 0, _ => true
  | n + 1, lo => bif chkQ lo then chkR n (lo + 1) else false
theorem chkR_at : ∀ (n lo q : Nat), chkR n lo = true → lo ≤ q → q < lo + n → chkQ q = true
  | 0, lo, q, _, h1, h2 => by omega
  | n + 1, lo, q, h, h1, h2 => by
    unfold chkR at h
    cases e : chkQ lo with
    | false => rw [e] at h; cases h
    | true =>
      rw [e] at h
      by_cases z : q = lo
      · subst z; exact e
      · exact chkR_at n (lo + 1) q h (by omega) (by omega)
theorem chkL_at {q M : Nat} : ∀ (l : List Nat), chkL q M l = true → ∀ m ∈ l, chkD q M m = true
  | [], _, m, h => by cases h
  | a :: r, h, m, hm => by
    unfold chkL at h
    cases e : chkD q M a with
    | false => rw [e] at h; cases h
    | true =>
      rw [e] at h
      rcases List.mem_cons.mp hm with z | z
      · subst z; exact e
      · exact chkL_at r h m z
end Law

set_option Elab.async false
set_option maxRecDepth 100000
namespace Law
theorem chk_0 : chkR 500 0 = true := by decide +kernel
theorem chk_1 : chkR 500 500 = true := by decide +kernel
theorem chk_2 : chkR 500 1000 = true := by decide +kernel
theorem chk_3 : chkR 500 1500 = true := by decide +kernel
theorem chk_4 : chkR 500 2000 = true := by decide +kernel
theorem chk_5 : chkR 500 2500 = true := by decide +kernel
theorem chk_6 : chkR 500 3000 = true := by decide +kernel
theorem chk_7 : chkR 500 3500 = true := by decide +kernel
theorem chk_8 : chkR 500 4000 = true := by decide +kernel
theorem chk_9 : chkR 500 4500 = true := by decide +kernel
theorem chk_10 : chkR 500 5000 = true := by decide +kernel
theorem chk_11 : chkR 500 5500 = true := by decide +kernel
theorem chk_12 : chkR 500 6000 = true := by decide +kernel
theorem chk_13 : chkR 500 6500 = true := by decide +kernel
theorem chk_14 : chkR 500 7000 = true := by decide +kernel
theorem chk_15 : chkR 500 7500 = true := by decide +kernel
theorem chk_16 : chkR 500 8000 = true := by decide +kernel
theorem chk_17 : chkR 500 8500 = true := by decide +kernel
theorem chk_18 : chkR 500 9000 = true := by decide +kernel
theorem chk_19 : chkR 501 9500 = true := by decide +kernel
theorem chk_all (q : Nat) (h : q ≤ 10000) : chkQ q = true := by
  have c : (0 ≤ q ∧ q < 500) ∨ (500 ≤ q ∧ q < 1000) ∨ (1000 ≤ q ∧ q < 1500) ∨ (1500 ≤ q ∧ q < 2000) ∨ (2000 ≤ q ∧ q < 2500) ∨ (2500 ≤ q ∧ q < 3000) ∨ (3000 ≤ q ∧ q < 3500) ∨ (3500 ≤ q ∧ q < 4000) ∨ (4000 ≤ q ∧ q < 4500) ∨ (4500 ≤ q ∧ q < 5000) ∨ (5000 ≤ q ∧ q < 5500) ∨ (5500 ≤ q ∧ q < 6000) ∨ (6000 ≤ q ∧ q < 6500) ∨ (6500 ≤ q ∧ q < 7000) ∨ (7000 ≤ q ∧ q < 7500) ∨ (7500 ≤ q ∧ q < 8000) ∨ (8000 ≤ q ∧ q < 8500) ∨ (8500 ≤ q ∧ q < 9000) ∨ (9000 ≤ q ∧ q < 9500) ∨ (9500 ≤ q ∧ q < 10001) := by omega
  rcases c with ⟨a, b⟩ | ⟨a, b⟩ | ⟨a, b⟩ | ⟨a, b⟩ | ⟨a, b⟩ | ⟨a, b⟩ | ⟨a, b⟩ | ⟨a, b⟩ | ⟨a, b⟩ | ⟨a, b⟩ | ⟨a, b⟩ | ⟨a, b⟩ | ⟨a, b⟩ | ⟨a, b⟩ | ⟨a, b⟩ | ⟨a, b⟩ | ⟨a, b⟩ | ⟨a, b⟩ | ⟨a, b⟩ | ⟨a, b⟩
  · exact chkR_at _ _ q chk_0 a b
  · exact chkR_at _ _ q chk_1 a b
  · exact chkR_at _ _ q chk_2 a b
  · exact chkR_at _ _ q chk_3 a b
  · exact chkR_at _ _ q chk_4 a b
  · exact chkR_at _ _ q chk_5 a b
  · exact chkR_at _ _ q chk_6 a b
  · exact chkR_at _ _ q chk_7 a b
  · exact chkR_at _ _ q chk_8 a b
  · exact chkR_at _ _ q chk_9 a b
  · exact chkR_at _ _ q chk_10 a b
  · exact chkR_at _ _ q chk_11 a b
  · exact chkR_at _ _ q chk_12 a b
  · exact chkR_at _ _ q chk_13 a b
  · exact chkR_at _ _ q chk_14 a b
  · exact chkR_at _ _ q chk_15 a b
  · exact chkR_at _ _ q chk_16 a b
  · exact chkR_at _ _ q chk_17 a b
  · exact chkR_at _ _ q chk_18 a b
  · exact chkR_at _ _ q chk_19 a b
end Law

set_option Elab.async false
set_option linter.all false
set_option maxRecDepth 100000
set_option maxHeartbeats 4000000
namespace Law
open PySem L2 Zm
/-- no divisor that its square lets -/
def Pl (q : Int) : Prop := 2 ≤ q ∧ q ≤ 10000 ∧ ∀ d : Int, 2 ≤ d → d * d ≤ q → q % d ≠ 0
theorem sq_lt {d p : Int} (hd : 2 ≤ d) (hp : 2 ≤ p) (h : d * d < p * p) : d < p := by
  by_cases z : d < p
  · exact z
  · have := Int.mul_le_mul (show p ≤ d by omega) (show p ≤ d by omega) (by omega) (by omega)
    omega
theorem tr_pl : ∀ (f : Nat) (p n : Int), 2 ≤ p → 1 ≤ n → n ≤ 10000 → (∀ d, 2 ≤ d → d < p → n % d ≠ 0) → ∀ q ∈ tr f p n, Pl q
  | 0, p, n, h1, h2, h3, hd, q, hq => by cases hq
  | f + 1, p, n, h1, h2, h3, hd, q, hq => by
    unfold tr at hq
    by_cases hc : p * p ≤ n
    · obtain ⟨d1, d2, d3⟩ := div_small h1 h2 hc
      rw [if_pos hc] at hq
      by_cases hm : n % p = 0
      · rw [if_pos hm] at hq
        have hn : n = p * (n / p) := by have := Int.mul_ediv_add_emod n p; omega
        rcases List.mem_cons.mp hq with z | z
        · subst z
          refine ⟨h1, by omega, fun d e1 e2 e3 => ?_⟩
          have hlt : d < q := by
            have := Int.mul_le_mul_of_nonneg_left e1 (show 0 ≤ d by omega)
            omega
          refine hd d e1 hlt ?_
          rw [hn, Int.mul_emod, e3]; simp
        · refine tr_pl f p (n / p) h1 d1 (by omega) (fun d e1 e2 e3 => hd d e1 e2 ?_) q z
          rw [hn, Int.mul_emod, e3]; simp
      · rw [if_neg hm] at hq
        refine tr_pl f (p + 1) n (by omega) h2 h3 (fun d e1 e2 => ?_) q hq
        by_cases z : d = p
        · subst z; exact hm
        · exact hd d e1 (by omega)
    · rw [if_neg hc] at hq
      by_cases hn : 1 < n
      · rw [if_pos hn] at hq
        obtain rfl : q = n := by simpa using hq
        exact ⟨by omega, h3, fun d e1 e2 => hd d e1 (sq_lt e1 h1 (by omega))⟩
      · rw [if_neg hn] at hq; cases hq
theorem tr_prime {f : Nat} {n : Int} (h1 : 1 ≤ n) (h2 : n ≤ 10000) : ∀ q ∈ tr f 2 n, Pl q := tr_pl f 2 n (by omega) h1 h2 fun d e1 e2 => by omega
/-! the power -/
abbrev pmC : MT := (mTBin cGt (mVar 1) (mC (.int 0)))
abbrev pmB : MB := (mSeq (mIfS (mTBin oEq (mBin oMod (mVar 1) (mC (.int 2))) (mC (.int 1))) (mAsg (mBin oMod (mBin oMulA (mVar 3) (mVar 4)) (mVar 2)) (gN 3)) mNx)
    (mSeq (mAsg (mBin oMod (mBin oMulA (mVar 4) (mVar 4)) (mVar 2)) (gN 4))
    (mAsg (mBin oDiv (mVar 1) (mC (.int 2))) (gN 1))))
theorem b_pm_eq : b_power_modulo = (mSeq (mAsg (mBin oMod (mC (.int 1)) (mVar 2)) (gN 3))
    (mSeq (mAsg (mBin oMod (mVar 0) (mVar 2)) (gN 4))
    (mSeq (mWhile (fun ms => slI ms 1 + 1) pmC pmB)
    (mRet (mVar 3))))) := rfl
theorem c_div (e : Nat) : (e : Int) / 2 = ((e / 2 : Nat) : Int) := by omega
theorem c_mod (e : Nat) : (e : Int) % 2 = ((e % 2 : Nat) : Int) := by omega
theorem c_mm (r s q : Nat) : ((r : Int) * (s : Int)) % (q : Int) = ((r * s % q : Nat) : Int) := by simp
theorem pm_test {h : Cells} {b0 q r s : Option D} {e : Int} : pmC ⟨[b0, some (.int e), q, r, s], h⟩ = some (decide (0 < e), h) := by
  simp [pmC, mFun, line, mSeq, mAsg, mRet, mRetN, mDrop, mIfS, mTBin, mBin, mVar, mC, mCons, mNil, mTup, mLst, mLstC, mCB, mCall, mCallK, mIf, mAndV, mOrV, mNotV, mAnd, mOr, mNot, mTru, mUn, mChain, tB', mNx, mNev, mFor, mForL, mWhile, mComp, mCompL, mYes, gN, gT, gsCons, gsNil, gSubD, mApp, mPar, mPar3, mAugI, mSl, mSo, mNo, iR1, iR2, iR3, iS, iEn, iL, iT, asB, asL, asT, asLT, asInt, oB, oAdd, oSub, oMulA, oMul, oDiv, oMod, oPow, oNeg, cI, oEq, oNe, oIx, asSeq, oInt, oAbs, oLen, oMax2, oMin2, oDivmod, oIsi, tyD, okCell, truthD, mFrz, Option.bind_some, Option.map_some, Option.bind_none, Option.map_none, cond_true, cond_false, List.map_cons, List.map_nil, List.cons_append, List.nil_append, List.getElem?_cons_zero, List.getElem?_cons_succ, List.set_cons_zero, List.set_cons_succ, List.length_cons, List.length_nil, List.replicate ]
theorem pm_odd {h : Cells} {b0 : Option D} {e q r s : Int} (ho : e % 2 = 1) (hq : 0 < q) (wr : wideM r s = true) (ws : wideM s s = true) :
    pmB ⟨[b0, some (.int e), some (.int q), some (.int r), some (.int s)], h⟩ = some (.nx, ⟨[b0, some (.int (e / 2)), some (.int q), some (.int (r * s % q)), some (.int (s * s % q))], h⟩) := by
  have w2 : wideD 2 = true := divS (by decide) (by decide)
  simp [pmB, mFun, line, mSeq, mAsg, mRet, mRetN, mDrop, mIfS, mTBin, mBin, mVar, mC, mCons, mNil, mTup, mLst, mLstC, mCB, mCall, mCallK, mIf, mAndV, mOrV, mNotV, mAnd, mOr, mNot, mTru, mUn, mChain, tB', mNx, mNev, mFor, mForL, mWhile, mComp, mCompL, mYes, gN, gT, gsCons, gsNil, gSubD, mApp, mPar, mPar3, mAugI, mSl, mSo, mNo, iR1, iR2, iR3, iS, iEn, iL, iT, asB, asL, asT, asLT, asInt, oB, oAdd, oSub, oMulA, oMul, oDiv, oMod, oPow, oNeg, cI, oEq, oNe, oIx, asSeq, oInt, oAbs, oLen, oMax2, oMin2, oDivmod, oIsi, tyD, okCell, truthD, mFrz, Option.bind_some, Option.map_some, Option.bind_none, Option.map_none, cond_true, cond_false, List.map_cons, List.map_nil, List.cons_append, List.nil_append, List.getElem?_cons_zero, List.getElem?_cons_succ, List.set_cons_zero, List.set_cons_succ, List.length_cons, List.length_nil, List.replicate , wr, ws, w2, hq, ho]
theorem pm_even {h : Cells} {b0 : Option D} {e q r s : Int} (ho : e % 2 = 0) (hq : 0 < q) (ws : wideM s s = true) :
    pmB ⟨[b0, some (.int e), some (.int q), some (.int r), some (.int s)], h⟩ = some (.nx, ⟨[b0, some (.int (e / 2)), some (.int q), some (.int r), some (.int (s * s % q))], h⟩) := by
  have w2 : wideD 2 = true := divS (by decide) (by decide)
  simp [pmB, mFun, line, mSeq, mAsg, mRet, mRetN, mDrop, mIfS, mTBin, mBin, mVar, mC, mCons, mNil, mTup, mLst, mLstC, mCB, mCall, mCallK, mIf, mAndV, mOrV, mNotV, mAnd, mOr, mNot, mTru, mUn, mChain, tB', mNx, mNev, mFor, mForL, mWhile, mComp, mCompL, mYes, gN, gT, gsCons, gsNil, gSubD, mApp, mPar, mPar3, mAugI, mSl, mSo, mNo, iR1, iR2, iR3, iS, iEn, iL, iT, asB, asL, asT, asLT, asInt, oB, oAdd, oSub, oMulA, oMul, oDiv, oMod, oPow, oNeg, cI, oEq, oNe, oIx, asSeq, oInt, oAbs, oLen, oMax2, oMin2, oDivmod, oIsi, tyD, okCell, truthD, mFrz, Option.bind_some, Option.map_some, Option.bind_none, Option.map_none, cond_true, cond_false, List.map_cons, List.map_nil, List.cons_append, List.nil_append, List.getElem?_cons_zero, List.getElem?_cons_succ, List.set_cons_zero, List.set_cons_succ, List.length_cons, List.length_nil, List.replicate , ws, w2, hq, ho]
theorem pm_loop {h : Cells} {b0 : Option D} {q : Nat} (hq : 2 ≤ q) (hq2 : q ≤ 10000) : ∀ (k f e r s : Nat), e < 2 ^ k → e < f → r < q → s < q →
    ∃ s' e', mWhileL pmC pmB f ⟨[b0, some (.int e), some (.int q), some (.int r), some (.int s)], h⟩ = some (.nx, ⟨[b0, some e', some (.int q), some (.int (pmod k e r s q)), some s'], h⟩)
  | 0, f, e, r, s, h1, h2, h3, h4 => by
    obtain rfl : e = 0 := by simpa using h1
    cases f with
    | zero => omega
    | succ f =>
      refine ⟨.int s, .int 0, ?_⟩
      rw [mWhileL, pm_test]; rfl
  | k + 1, f, e, r, s, h1, h2, h3, h4 => by
    cases f with
    | zero => omega
    | succ f =>
      have hp : 2 ^ (k + 1) = 2 * 2 ^ k := by rw [Nat.pow_succ]; omega
      have wr : wideM (r : Int) (s : Int) = true := wide64 (by omega) (by omega)
      have ws : wideM (s : Int) (s : Int) = true := wide64 (by omega) (by omega)
      have hq0 : (0 : Int) < (q : Int) := by omega
      by_cases he : e = 0
      · subst he
        refine ⟨.int s, .int 0, ?_⟩
        rw [mWhileL, pm_test]
        rfl
      · have he0 : decide ((0 : Int) < (e : Int)) = true := decide_eq_true (by omega)
        have b0e : Nat.beq e 0 = false := by
          cases e with
          | zero => exact absurd rfl he
          | succ e => rfl
        by_cases ho : e % 2 = 1
        · obtain ⟨s', e', g⟩ := pm_loop (h := h) (b0 := b0) hq hq2 k f (e / 2) (r * s % q) (s * s % q) (by omega) (by omega) (Nat.mod_lt _ (by omega)) (Nat.mod_lt _ (by omega))
          refine ⟨s', e', ?_⟩
          have hpm : pmod (k + 1) e r s q = pmod k (e / 2) (r * s % q) (s * s % q) q := by
            rw [pmod, b0e]
            have : Nat.beq (Nat.mod e 2) 1 = true := by rw [show Nat.mod e 2 = 1 from ho]; rfl
            rw [this]; rfl
          rw [hpm, ← g, mWhileL, pm_test, he0]
          have := pm_odd (h := h) (b0 := b0) (e := e) (q := q) (r := r) (s := s) (by omega) hq0 wr ws
          rw [c_div, c_mm, c_mm] at this
          simp only [Option.bind_some, this, cond_true]
        · obtain ⟨s', e', g⟩ := pm_loop (h := h) (b0 := b0) hq hq2 k f (e / 2) r (s * s % q) (by omega) (by omega) h3 (Nat.mod_lt _ (by omega))
          refine ⟨s', e', ?_⟩
          have hpm : pmod (k + 1) e r s q = pmod k (e / 2) r (s * s % q) q := by
            rw [pmod, b0e]
            have : Nat.beq (Nat.mod e 2) 1 = false := by rw [show Nat.mod e 2 = 0 by show e % 2 = 0; omega]; rfl
            rw [this]; rfl
          rw [hpm, ← g, mWhileL, pm_test, he0]
          have := pm_even (h := h) (b0 := b0) (e := e) (q := q) (r := r) (s := s) (by omega) hq0 ws
          rw [c_div, c_mm] at this
          simp only [Option.bind_some, this, cond_true]
theorem power_ok {h : Cells} {n : Int} {e q : Nat} (hq : 2 ≤ q) (hq2 : q ≤ 10000) (he : e < 16384) : F_power_modulo [.int n, .int e, .int q] h = some (.int (pmod 14 e 1 (n % q).toNat q), h) := by
  have hq0 : (0 : Int) < (q : Int) := by omega
  have hr : ((n % (q : Int)).toNat : Int) = n % (q : Int) := Int.toNat_of_nonneg (Int.emod_nonneg _ (by omega))
  have hr2 := Int.emod_lt_of_pos n hq0
  obtain ⟨s', e', g⟩ := pm_loop (h := h) (b0 := some (.int n)) hq hq2 14 (e + 1) e 1 (n % (q : Int)).toNat he (by omega) (by omega) (by omega)
  rw [hr] at g
  have one : (1 : Int) % (q : Int) = 1 := Int.emod_eq_of_lt (by omega) (by omega)
  have hq1 : decide ((0 : Int) < (q : Int)) = true := decide_eq_true hq0
  unfold F_power_modulo
  rw [b_pm_eq]
  generalize pmC = C at g ⊢
  generalize pmB = B at g ⊢
  have g' : mWhileL C B (e + 1) ⟨[some (.int n), some (.int e), some (.int q), some (.int 1), some (.int (n % (q : Int)))], h⟩ = some (.nx, ⟨[some (.int n), some e', some (.int q), some (.int (pmod 14 e 1 (n % (q : Int)).toNat q)), some s'], h⟩) := g
  generalize pmod 14 e 1 (n % (q : Int)).toNat q = R at g' ⊢
  clear hr hr2 g
  generalize (q : Int) = q' at *
  simp [mFun, line, mSeq, mAsg, mRet, mRetN, mDrop, mIfS, mTBin, mBin, mVar, mC, mCons, mNil, mTup, mLst, mLstC, mCB, mCall, mCallK, mIf, mAndV, mOrV, mNotV, mAnd, mOr, mNot, mTru, mUn, mChain, tB', mNx, mNev, mFor, mForL, mWhile, mComp, mCompL, mYes, gN, gT, gsCons, gsNil, gSubD, mApp, mPar, mPar3, mAugI, mSl, mSo, mNo, iR1, iR2, iR3, iS, iEn, iL, iT, asB, asL, asT, asLT, asInt, oB, oAdd, oSub, oMulA, oMul, oDiv, oMod, oPow, oNeg, cI, oEq, oNe, oIx, asSeq, oInt, oAbs, oLen, oMax2, oMin2, oDivmod, oIsi, tyD, okCell, truthD, mFrz, Option.bind_some, Option.map_some, Option.bind_none, Option.map_none, cond_true, cond_false, List.map_cons, List.map_nil, List.cons_append, List.nil_append, List.getElem?_cons_zero, List.getElem?_cons_succ, List.set_cons_zero, List.set_cons_succ, List.length_cons, List.length_nil, List.replicate , g', one, slI, hq0]
/-! the symbol at a prime -/
def sv (n q : Int) : Int := if n % q = 0 then 0 else if q = 2 then (if n % 8 = 1 then 1 else -1) else if pmod 14 ((q.toNat - 1) / 2) 1 (n % q).toNat q.toNat = 1 then 1 else -1
theorem symp_ok {h : Cells} {n q : Int} (h2 : 2 ≤ q) (h3 : q ≤ 10000) : F_symbol_at_prime [.int n, .int q] h = some (.int (sv n q), h) := by
  have hq0 : 0 < q := by omega
  have w2 : wideD 2 = true := divS (by decide) (by decide)
  have pw := power_ok (h := h) (n := n) (e := (q.toNat - 1) / 2) (q := q.toNat) (by omega) (by omega) (by omega)
  have e1 : ((q.toNat : Nat) : Int) = q := Int.toNat_of_nonneg (by omega)
  have e2 : (((q.toNat - 1) / 2 : Nat) : Int) = (q - 1) / 2 := by omega
  rw [e1, e2] at pw
  unfold sv
  generalize pmod 14 ((q.toNat - 1) / 2) 1 (n % q).toNat q.toNat = R at pw ⊢
  by_cases z : n % q = 0
  · simp [F_symbol_at_prime, b_symbol_at_prime, mFun, line, mSeq, mAsg, mRet, mRetN, mDrop, mIfS, mTBin, mBin, mVar, mC, mCons, mNil, mTup, mLst, mLstC, mCB, mCall, mCallK, mIf, mAndV, mOrV, mNotV, mAnd, mOr, mNot, mTru, mUn, mChain, tB', mNx, mNev, mFor, mForL, mWhile, mComp, mCompL, mYes, gN, gT, gsCons, gsNil, gSubD, mApp, mPar, mPar3, mAugI, mSl, mSo, mNo, iR1, iR2, iR3, iS, iEn, iL, iT, asB, asL, asT, asLT, asInt, oB, oAdd, oSub, oMulA, oMul, oDiv, oMod, oPow, oNeg, cI, oEq, oNe, oIx, asSeq, oInt, oAbs, oLen, oMax2, oMin2, oDivmod, oIsi, tyD, okCell, truthD, mFrz, Option.bind_some, Option.map_some, Option.bind_none, Option.map_none, cond_true, cond_false, List.map_cons, List.map_nil, List.cons_append, List.nil_append, List.getElem?_cons_zero, List.getElem?_cons_succ, List.set_cons_zero, List.set_cons_succ, List.length_cons, List.length_nil, List.replicate , hq0, z]
  · by_cases y : q = 2
    · subst y
      by_cases x : n % 8 = 1
      · simp [F_symbol_at_prime, b_symbol_at_prime, mFun, line, mSeq, mAsg, mRet, mRetN, mDrop, mIfS, mTBin, mBin, mVar, mC, mCons, mNil, mTup, mLst, mLstC, mCB, mCall, mCallK, mIf, mAndV, mOrV, mNotV, mAnd, mOr, mNot, mTru, mUn, mChain, tB', mNx, mNev, mFor, mForL, mWhile, mComp, mCompL, mYes, gN, gT, gsCons, gsNil, gSubD, mApp, mPar, mPar3, mAugI, mSl, mSo, mNo, iR1, iR2, iR3, iS, iEn, iL, iT, asB, asL, asT, asLT, asInt, oB, oAdd, oSub, oMulA, oMul, oDiv, oMod, oPow, oNeg, cI, oEq, oNe, oIx, asSeq, oInt, oAbs, oLen, oMax2, oMin2, oDivmod, oIsi, tyD, okCell, truthD, mFrz, Option.bind_some, Option.map_some, Option.bind_none, Option.map_none, cond_true, cond_false, List.map_cons, List.map_nil, List.cons_append, List.nil_append, List.getElem?_cons_zero, List.getElem?_cons_succ, List.set_cons_zero, List.set_cons_succ, List.length_cons, List.length_nil, List.replicate , z, x]
      · simp [F_symbol_at_prime, b_symbol_at_prime, mFun, line, mSeq, mAsg, mRet, mRetN, mDrop, mIfS, mTBin, mBin, mVar, mC, mCons, mNil, mTup, mLst, mLstC, mCB, mCall, mCallK, mIf, mAndV, mOrV, mNotV, mAnd, mOr, mNot, mTru, mUn, mChain, tB', mNx, mNev, mFor, mForL, mWhile, mComp, mCompL, mYes, gN, gT, gsCons, gsNil, gSubD, mApp, mPar, mPar3, mAugI, mSl, mSo, mNo, iR1, iR2, iR3, iS, iEn, iL, iT, asB, asL, asT, asLT, asInt, oB, oAdd, oSub, oMulA, oMul, oDiv, oMod, oPow, oNeg, cI, oEq, oNe, oIx, asSeq, oInt, oAbs, oLen, oMax2, oMin2, oDivmod, oIsi, tyD, okCell, truthD, mFrz, Option.bind_some, Option.map_some, Option.bind_none, Option.map_none, cond_true, cond_false, List.map_cons, List.map_nil, List.cons_append, List.nil_append, List.getElem?_cons_zero, List.getElem?_cons_succ, List.set_cons_zero, List.set_cons_succ, List.length_cons, List.length_nil, List.replicate , z, x]
    · by_cases x : R = 1
      · simp [F_symbol_at_prime, b_symbol_at_prime, mFun, line, mSeq, mAsg, mRet, mRetN, mDrop, mIfS, mTBin, mBin, mVar, mC, mCons, mNil, mTup, mLst, mLstC, mCB, mCall, mCallK, mIf, mAndV, mOrV, mNotV, mAnd, mOr, mNot, mTru, mUn, mChain, tB', mNx, mNev, mFor, mForL, mWhile, mComp, mCompL, mYes, gN, gT, gsCons, gsNil, gSubD, mApp, mPar, mPar3, mAugI, mSl, mSo, mNo, iR1, iR2, iR3, iS, iEn, iL, iT, asB, asL, asT, asLT, asInt, oB, oAdd, oSub, oMulA, oMul, oDiv, oMod, oPow, oNeg, cI, oEq, oNe, oIx, asSeq, oInt, oAbs, oLen, oMax2, oMin2, oDivmod, oIsi, tyD, okCell, truthD, mFrz, Option.bind_some, Option.map_some, Option.bind_none, Option.map_none, cond_true, cond_false, List.map_cons, List.map_nil, List.cons_append, List.nil_append, List.getElem?_cons_zero, List.getElem?_cons_succ, List.set_cons_zero, List.set_cons_succ, List.length_cons, List.length_nil, List.replicate , hq0, z, y, w2, pw, x]
      · have x' : ¬ ((R : Nat) : Int) = 1 := by omega
        simp [F_symbol_at_prime, b_symbol_at_prime, mFun, line, mSeq, mAsg, mRet, mRetN, mDrop, mIfS, mTBin, mBin, mVar, mC, mCons, mNil, mTup, mLst, mLstC, mCB, mCall, mCallK, mIf, mAndV, mOrV, mNotV, mAnd, mOr, mNot, mTru, mUn, mChain, tB', mNx, mNev, mFor, mForL, mWhile, mComp, mCompL, mYes, gN, gT, gsCons, gsNil, gSubD, mApp, mPar, mPar3, mAugI, mSl, mSo, mNo, iR1, iR2, iR3, iS, iEn, iL, iT, asB, asL, asT, asLT, asInt, oB, oAdd, oSub, oMulA, oMul, oDiv, oMod, oPow, oNeg, cI, oEq, oNe, oIx, asSeq, oInt, oAbs, oLen, oMax2, oMin2, oDivmod, oIsi, tyD, okCell, truthD, mFrz, Option.bind_some, Option.map_some, Option.bind_none, Option.map_none, cond_true, cond_false, List.map_cons, List.map_nil, List.cons_append, List.nil_append, List.getElem?_cons_zero, List.getElem?_cons_succ, List.set_cons_zero, List.set_cons_succ, List.length_cons, List.length_nil, List.replicate , hq0, z, y, w2, pw, x, x']
/-- a comprehension whose parts change nothing -/
theorem comp_filter {g : MG} {t : MT} {e : ME} {w : List (Option D)} {h : Cells} {b : D → Bool} {v : D → D} : ∀ (ds : List D), (∀ d ∈ ds, ∃ m1, g d ⟨w, h⟩ = some m1 ∧ t m1 = some (b d, h) ∧ (b d = true → e ⟨m1.s, h⟩ = some (v d, h))) →
    mCompL g t e w ds h = some ((ds.filter b).map v, h)
  | [], _ => rfl
  | d :: ds, hh => by
    obtain ⟨m1, h1, h2, h3⟩ := hh d List.mem_cons_self
    have ih := comp_filter (g := g) (t := t) (e := e) (w := w) (h := h) (b := b) (v := v) ds fun x hx => hh x (List.mem_cons_of_mem _ hx)
    simp only [mCompL, h1, Option.bind_some, h2]
    cases hb : b d with
    | true => simp [h3 hb, ih, hb]
    | false => simp [ih, hb]
end Law

set_option Elab.async false
set_option linter.all false
set_option maxRecDepth 100000
set_option maxHeartbeats 4000000
namespace Law
open PySem L2 Zm
/-! the law's symbol at a prime: all squares -/
theorem py_ints (c : Nat → Option PyData) : ∀ xs : List Int, pyCs c (xs.map D.int) = some (xs.map PyData.int)
  | [] => rfl
  | x :: r => by simp [pyCs, pyC, py_ints c r]
theorem lay_ints : ∀ xs : List Int, PyData.canLayAll0 (xs.map PyData.int) = true
  | [] => rfl
  | x :: r => by simp [PyData.canLayAll0, PyData.canLay0, lay_ints r]
theorem dep_ints : ∀ xs : List Int, PyData.depthAll (xs.map PyData.int) ≤ 2
  | [] => by simp [PyData.depthAll]
  | x :: r => by have := dep_ints r; simp [PyData.depthAll, PyData.depth]; omega
theorem py_lst (h : Cells) (xs : List Int) : py h (.lst (xs.map D.int)) = some (.list (xs.map PyData.int)) := by
  show pyC (cellP h) _ = _
  simp [pyC, py_ints]
theorem sh_lst (xs : List Int) : SeqAt.shaped (.list (xs.map PyData.int)) = true := by
  have := dep_ints xs
  simp [SeqAt.shaped, PyData.canLay0, PyData.depth, lay_ints]
  omega
theorem ne_nil (h : Cells) (xs : List Int) : oNe h (.lst (xs.map D.int)) (.lst []) = some (!xs.isEmpty) := by
  have e1 := py_lst h xs
  have e2 := py_lst h []
  have s1 := sh_lst xs
  have s2 := sh_lst []
  simp only [List.map_nil] at e2 s2
  unfold oNe
  show cEqP true h _ _ = _
  unfold cEqP
  rw [e1, e2]
  simp only [Option.bind_some, s1, s2, Bool.and_true, cond_true]
  cases xs <;> simp [PyData.eqv, PyData.eqvAll]

theorem q_mod4 {q x y d : Int} (hq : q % 2 = 1) (h1 : d = q * x) (h2 : d = 4 * y) : ∃ z, d = 4 * q * z := by
  have hx : x % 4 = 0 := by
    have e : (q * x) % 4 = 0 := by rw [← h1, h2]; omega
    rw [Int.mul_emod] at e
    have a : q % 4 = 1 ∨ q % 4 = 3 := by omega
    have b : x % 4 = 0 ∨ x % 4 = 1 ∨ x % 4 = 2 ∨ x % 4 = 3 := by omega
    rcases a with a | a <;> rcases b with b | b | b | b <;> rw [a, b] at e <;> first | exact b | exact absurd e (by decide)
  refine ⟨x / 4, ?_⟩
  have e : x = 4 * (x / 4) := by omega
  rw [h1]
  rw [e]
  have : 4 * (x / 4) / 4 = x / 4 := by omega
  rw [this, Int.mul_comm 4 q, Int.mul_assoc]
theorem sq_mod4 (b : Int) : (b % 2 = 0 → b * b % 4 = 0) ∧ (b % 2 = 1 → b * b % 4 = 1) := by
  have hb : b % 4 = 0 ∨ b % 4 = 1 ∨ b % 4 = 2 ∨ b % 4 = 3 := by omega
  have e := Int.mul_emod b b 4
  constructor <;> intro h <;> rcases hb with a | a | a | a <;> rw [a] at e <;> first | omega | (rw [e]; rfl)
/-- squares up to 4 q, and those up to half of q -/
theorem squares_iff {n : Int} {q : Nat} (hq : 3 ≤ q) (odd : q % 2 = 1) (hn : n % 4 = 0 ∨ n % 4 = 1) (hr : n % (q : Int) ≠ 0) :
    (∃ b : Int, 0 ≤ b ∧ b < 2 * q ∧ (b * b - n) % (4 * q) = 0) ↔ ∃ c : Nat, 1 ≤ c ∧ c < 1 + (q - 1) / 2 ∧ c * c % q = (n % (q : Int)).toNat := by
  have q0 : (0 : Int) < q := by omega
  have r0 := Int.emod_nonneg n (show (q : Int) ≠ 0 by omega)
  constructor
  · rintro ⟨b, b1, b2, b3⟩
    have hd : (q : Int) ∣ b * b - n := Int.dvd_trans ⟨4, by rw [Int.mul_comm]⟩ (Int.dvd_of_emod_eq_zero b3)
    have hb : b * b % q = n % q := Int.emod_eq_emod_iff_emod_sub_eq_zero.mpr (Int.emod_eq_zero_of_dvd hd)
    obtain ⟨c, hc⟩ : ∃ c : Nat, (c : Int) = b % q := ⟨(b % q).toNat, Int.toNat_of_nonneg (Int.emod_nonneg _ (by omega))⟩
    have c1 : (c : Int) < q := by rw [hc]; exact Int.emod_lt_of_pos _ q0
    have c2 : (c : Int) * c % q = n % q := by rw [hc, ← hb, Int.mul_emod b b]
    have c0 : c ≠ 0 := by
      rintro rfl
      simp at c2
      omega
    by_cases hl : c < 1 + (q - 1) / 2
    · refine ⟨c, by omega, hl, ?_⟩
      have : ((c * c % q : Nat) : Int) = n % q := by simpa using c2
      omega
    · refine ⟨q - c, by omega, by omega, ?_⟩
      have e : ((q - c : Nat) : Int) = (q : Int) - c := by omega
      have : (((q - c) * (q - c) % q : Nat) : Int) = n % q := by
        rw [← c2]
        simp only [Int.natCast_emod, Int.natCast_mul, e]
        have : ((q : Int) - c) * (q - c) = c * c + q * (q - 2 * c) := by
          rw [Int.sub_mul, Int.mul_sub, Int.mul_sub, Int.mul_sub]
          have : (q : Int) * (2 * c) = q * c + c * q := by rw [Int.mul_comm (c : Int) q, ← Int.two_mul, ← Int.mul_assoc, Int.mul_comm (q : Int) 2, Int.mul_assoc]
          omega
        rw [this, Int.add_mul_emod_self_left]
      omega
  · rintro ⟨c, c1, c2, c3⟩
    have hc : ((c : Int) * c - n) % q = 0 := by
      apply Int.emod_eq_emod_iff_emod_sub_eq_zero.mp
      have : ((c * c % q : Nat) : Int) = n % q := by omega
      simpa using this
    have key : ∀ b : Int, 0 ≤ b → b < 2 * q → b % 2 = n % 2 → (b * b - n) % q = 0 → ∃ b : Int, 0 ≤ b ∧ b < 2 * q ∧ (b * b - n) % (4 * q) = 0 := by
      intro b b1 b2 b3 b4
      refine ⟨b, b1, b2, ?_⟩
      obtain ⟨x, hx⟩ := Int.dvd_of_emod_eq_zero b4
      have h4 : (b * b - n) % 4 = 0 := by
        have s := sq_mod4 b
        rcases hn with z | z
        · have := s.1 (by omega); omega
        · have := s.2 (by omega); omega
      obtain ⟨z, hz⟩ := q_mod4 (q := q) (d := b * b - n) (by omega) hx (show b * b - n = 4 * ((b * b - n) / 4) by omega)
      rw [hz]
      exact Int.mul_emod_right _ _
    by_cases hp : (c : Int) % 2 = n % 2
    · exact key c (by omega) (by omega) hp hc
    · refine key (c + q) (by omega) (by omega) (by omega) ?_
      have : ((c : Int) + q) * (c + q) - n = (c * c - n) + q * (2 * c + q) := by
        rw [Int.add_mul, Int.mul_add, Int.mul_add, Int.mul_add]
        have : (q : Int) * (2 * c) = q * c + c * q := by rw [Int.mul_comm (c : Int) q, ← Int.two_mul, ← Int.mul_assoc, Int.mul_comm (q : Int) 2, Int.mul_assoc]
        omega
      rw [this, Int.add_mul_emod_self_left]
      exact hc

theorem comp_ints {g : MG} {t : MT} {e : ME} {w : List (Option D)} {h : Cells} {b : Int → Bool} : ∀ (xs : List Int), (∀ x ∈ xs, ∃ m1, g (.int x) ⟨w, h⟩ = some m1 ∧ t m1 = some (b x, h) ∧ e ⟨m1.s, h⟩ = some (.int x, h)) →
    mCompL g t e w (xs.map D.int) h = some ((xs.filter b).map D.int, h)
  | [], _ => rfl
  | x :: xs, hh => by
    obtain ⟨m1, h1, h2, h3⟩ := hh x List.mem_cons_self
    have ih := comp_ints (g := g) (t := t) (e := e) (w := w) (h := h) (b := b) xs fun y hy => hh y (List.mem_cons_of_mem _ hy)
    simp only [List.map_cons, mCompL, h1, Option.bind_some, h2]
    cases hb : b x with
    | true => simp [h3, ih, hb]
    | false => simp [ih, hb]
def upto (n : Nat) : List Int := (List.range n).map fun (i : Nat) => (i : Int)
theorem intsD_upto (n : Nat) : intsD 0 n = (upto n).map D.int := by
  simp [intsD, upto]
theorem mem_upto {n : Nat} {x : Int} : x ∈ upto n ↔ 0 ≤ x ∧ x < n := by
  unfold upto
  simp only [List.mem_map, List.mem_range]
  exact ⟨fun ⟨i, h1, h2⟩ => by omega, fun h => ⟨x.toNat, by omega, by omega⟩⟩
def roots (n q : Int) : List Int := (upto (2 * q).toNat).filter fun x => decide ((x * x - n) % (4 * q) = 0)
abbrev lsC : ME := (mComp (iR1 (mCons (mBin oMulA (mC (.int 2)) (mVar 1)) mNil)) (gN 3) (mTBin oEq (mBin oMod (mCB oInt (mCons (mBin oSub (mBin oMulA (mVar 3) (mVar 3)) (mVar 0)) mNil)) (mBin oMulA (mC (.int 4)) (mVar 1))) (mC (.int 0))) (mVar 3) [3])
theorem b_ls_eq : b__law_symbol_at = (mSeq (mIfS (mTBin oEq (mBin oMod (mCB oInt (mCons (mVar 0) mNil)) (mVar 1)) (mC (.int 0))) (mRet (mC (.int 0))) mNx)
    (mSeq (mAsg lsC (gN 2))
    (mRet (mIf (mTBin oNe (mVar 2) (mLst mNil)) (mC (.int 1)) (mUn oNeg (mC (.int 1))))))) := rfl
theorem lsC_ok {h : Cells} {n q : Int} {a b : Option D} (hn : okD n) (h2 : 2 ≤ q) (h3 : q ≤ 10000) : lsC ⟨[some (.int n), some (.int q), a, b], h⟩ = some (.lst ((roots n q).map D.int), h) := by
  have wq : wideM 2 q = true := wide64 (by omega) (by omega)
  have w4 : wideM 4 q = true := wide64 (by omega) (by omega)
  have big : big62 (2 * q) = true := by
    have : (2 * q).natAbs < 2 ^ 62 := by
      have : (2 * q).natAbs ≤ 20000 := by omega
      exact Nat.lt_of_le_of_lt this (by decide)
    first
      | exact decide_eq_true this
      | (simp only [big62]; exact decide_eq_true this)
      | (unfold big62; simp; omega)
  have hq4 : decide (0 < 4 * q) = true := decide_eq_true (by omega)
  have key : ∀ w : List (Option D), w = [some (.int n), some (.int q), a, none] → mCompL (gN 3) ((mTBin oEq (mBin oMod (mCB oInt (mCons (mBin oSub (mBin oMulA (mVar 3) (mVar 3)) (mVar 0)) mNil)) (mBin oMulA (mC (.int 4)) (mVar 1))) (mC (.int 0)))) (mVar 3) w ((upto (2 * q).toNat).map D.int) h = some ((roots n q).map D.int, h) := by
    rintro w rfl
    refine comp_ints (b := fun x => decide ((x * x - n) % (4 * q) = 0)) _ fun x hx => ?_
    obtain ⟨x0, x1⟩ := mem_upto.mp hx
    have wx : wideM x x = true := wide64 (by omega) (by omega)
    refine ⟨_, rfl, ?_, ?_⟩
    · simp [mFun, line, mSeq, mAsg, mRet, mRetN, mDrop, mIfS, mTBin, mBin, mVar, mC, mCons, mNil, mTup, mLst, mLstC, mCB, mCall, mCallK, mIf, mAndV, mOrV, mNotV, mAnd, mOr, mNot, mTru, mUn, mChain, tB', mNx, mNev, mFor, mForL, mWhile, mComp, mCompL, mYes, gN, gT, gsCons, gsNil, gSubD, mApp, mPar, mPar3, mAugI, mSl, mSo, mNo, iR1, iR2, iR3, iS, iEn, iL, iT, asB, asL, asT, asLT, asInt, oB, oAdd, oSub, oMulA, oMul, oDiv, oMod, oPow, oNeg, cI, oEq, oNe, oIx, asSeq, oInt, oAbs, oLen, oMax2, oMin2, oDivmod, oIsi, tyD, okCell, truthD, mFrz, Option.bind_some, Option.map_some, Option.bind_none, Option.map_none, cond_true, cond_false, List.map_cons, List.map_nil, List.cons_append, List.nil_append, List.getElem?_cons_zero, List.getElem?_cons_succ, List.set_cons_zero, List.set_cons_succ, List.length_cons, List.length_nil, List.replicate , wx, w4, hq4]
    · simp [mFun, line, mSeq, mAsg, mRet, mRetN, mDrop, mIfS, mTBin, mBin, mVar, mC, mCons, mNil, mTup, mLst, mLstC, mCB, mCall, mCallK, mIf, mAndV, mOrV, mNotV, mAnd, mOr, mNot, mTru, mUn, mChain, tB', mNx, mNev, mFor, mForL, mWhile, mComp, mCompL, mYes, gN, gT, gsCons, gsNil, gSubD, mApp, mPar, mPar3, mAugI, mSl, mSo, mNo, iR1, iR2, iR3, iS, iEn, iL, iT, asB, asL, asT, asLT, asInt, oB, oAdd, oSub, oMulA, oMul, oDiv, oMod, oPow, oNeg, cI, oEq, oNe, oIx, asSeq, oInt, oAbs, oLen, oMax2, oMin2, oDivmod, oIsi, tyD, okCell, truthD, mFrz, Option.bind_some, Option.map_some, Option.bind_none, Option.map_none, cond_true, cond_false, List.map_cons, List.map_nil, List.cons_append, List.nil_append, List.getElem?_cons_zero, List.getElem?_cons_succ, List.set_cons_zero, List.set_cons_succ, List.length_cons, List.length_nil, List.replicate ]
  have hl : (roots n q).length ≤ 20000 := by
    refine Nat.le_trans (List.length_filter_le _ _) ?_
    simp [upto]
    omega
  have hl2 : (roots n q).length ≤ 16777216 := by omega
  have key' := key _ rfl
  generalize roots n q = R at *
  simp [lsC, mComp, iR1, mCons, mNil, mBin, oMulA, oMul, mC, mVar, wq, big, intsD_upto, wipeD, key', line, hl2]

theorem sv2_all (h : Cells) : allD.map (fun n => F__law_symbol_at [.int n, .int 2] h) = allD.map (fun n => some (.int (sv n 2), h)) := by kernel_rfl
theorem at2 {n : Int} {h : Cells} (hn : okD n) : F__law_symbol_at [.int n, .int 2] h = some (.int (sv n 2), h) := map_at (sv2_all h) n (mem_allD hn)
theorem roots_iff {n q : Int} : (roots n q).isEmpty = false ↔ ∃ b : Int, 0 ≤ b ∧ b < 2 * q ∧ (b * b - n) % (4 * q) = 0 := by
  constructor
  · intro h
    cases e : roots n q with
    | nil => rw [e] at h; cases h
    | cons x r =>
      have : x ∈ roots n q := by rw [e]; exact List.mem_cons_self
      obtain ⟨m, p⟩ := List.mem_filter.mp this
      obtain ⟨x0, x1⟩ := mem_upto.mp m
      exact ⟨x, x0, by omega, of_decide_eq_true p⟩
  · rintro ⟨b, b1, b2, b3⟩
    have : b ∈ roots n q := List.mem_filter.mpr ⟨mem_upto.mpr ⟨b1, by omega⟩, decide_eq_true b3⟩
    cases e : roots n q with
    | nil => rw [e] at this; cases this
    | cons x r => rfl
theorem mem_allM {n : Int} (hn : okD n) : (-n).toNat ∈ allM := by
  unfold allM
  rw [List.mem_filterMap]
  refine ⟨(-n).toNat - 3, by rw [List.mem_range]; have := hn.1; have := hn.2.1; omega, ?_⟩
  have e : -((((-n).toNat - 3 : Nat) : Int) + 3) = n := by have := hn.2.1; omega
  rw [e, if_pos hn]
  have := hn.2.1
  congr 1
  omega
theorem at_ok {n q : Int} {h : Cells} (all : ∀ q, q ≤ 10000 → chkQ q = true) (hn : okD n) (hq : Pl q) : F__law_symbol_at [.int n, .int q] h = some (.int (sv n q), h) := by
  by_cases q2 : q = 2
  · subst q2; exact at2 hn
  obtain ⟨p1, p2, p3⟩ := hq
  obtain ⟨Q, rfl⟩ : ∃ Q : Nat, q = Q := ⟨q.toNat, by omega⟩
  have odd : Q % 2 = 1 := by
    by_cases z : 4 ≤ Q
    · have := p3 2 (by omega) (by omega); omega
    · omega
  have c := lsC_ok (h := h) (a := none) (b := none) hn p1 p2
  have hq0 : 0 < Q := by omega
  have nn := ne_nil h (roots n Q)
  by_cases z : n % (Q : Int) = 0
  · have s0 : sv n Q = 0 := by unfold sv; rw [if_pos z]
    rw [s0]
    unfold F__law_symbol_at
    rw [b_ls_eq]
    generalize lsC = C at c ⊢
    simp [mFun, line, mSeq, mAsg, mRet, mRetN, mDrop, mIfS, mTBin, mBin, mVar, mC, mCons, mNil, mTup, mLst, mLstC, mCB, mCall, mCallK, mIf, mAndV, mOrV, mNotV, mAnd, mOr, mNot, mTru, mUn, mChain, tB', mNx, mNev, mFor, mForL, mWhile, mComp, mCompL, mYes, gN, gT, gsCons, gsNil, gSubD, mApp, mPar, mPar3, mAugI, mSl, mSo, mNo, iR1, iR2, iR3, iS, iEn, iL, iT, asB, asL, asT, asLT, asInt, oB, oAdd, oSub, oMulA, oMul, oDiv, oMod, oPow, oNeg, cI, oEq, oNe, oIx, asSeq, oInt, oAbs, oLen, oMax2, oMin2, oDivmod, oIsi, tyD, okCell, truthD, mFrz, Option.bind_some, Option.map_some, Option.bind_none, Option.map_none, cond_true, cond_false, List.map_cons, List.map_nil, List.cons_append, List.nil_append, List.getElem?_cons_zero, List.getElem?_cons_succ, List.set_cons_zero, List.set_cons_succ, List.length_cons, List.length_nil, List.replicate , hq0, z]
  · have sw : sv n Q = if (roots n Q).isEmpty = false then 1 else -1 := by
      have r0 := Int.emod_nonneg n (show (Q : Int) ≠ 0 by omega)
      have r1 := Int.emod_lt_of_pos n (show (0 : Int) < (Q : Int) by omega)
      have hM := chkL_at litM (by
        have := all Q (by omega)
        unfold chkQ at this
        have e1 : Nat.ble Q 2 = false := by
          cases e : Nat.ble Q 2 with
          | false => rfl
          | true => have := Nat.le_of_ble_eq_true e; omega
        have hpr : ∀ d : Nat, 2 ≤ d → d * d ≤ Q → Q % d ≠ 0 := by
          intro d d1 d2 d3
          have a1 : ((d * d : Nat) : Int) ≤ (Q : Int) := Int.ofNat_le.mpr d2
          have a2 : ((Q % d : Nat) : Int) = 0 := by rw [d3]; rfl
          exact p3 d (by omega) (by simpa using a1) (by simpa using a2)
        have e2 : pr 100 2 Q = true := pr_of hpr 100 2 (by omega)
        rw [e1, e2] at this
        exact this) _ (same_M ▸ mem_allM hn)
      have hrr : Nat.mod (Nat.sub Q (Nat.mod (-n).toNat Q)) Q = (n % (Q : Int)).toNat := by
        show (Q - (-n).toNat % Q) % Q = _
        have hm : (((-n).toNat % Q : Nat) : Int) = (-n) % (Q : Int) := by
          rw [Int.natCast_emod, Int.toNat_of_nonneg (by have := hn.2.1; omega)]
        have hlt : (-n).toNat % Q < Q := Nat.mod_lt _ (by omega)
        have e : (((Q - (-n).toNat % Q) % Q : Nat) : Int) = n % (Q : Int) := by
          rw [Int.natCast_emod, Int.natCast_sub (by omega), hm]
          apply Int.emod_eq_emod_iff_emod_sub_eq_zero.mpr
          have := Int.mul_ediv_add_emod (-n) (Q : Int)
          rw [show (Q : Int) - -n % (Q : Int) - n = (Q : Int) * (1 + -n / (Q : Int)) by rw [Int.mul_add]; omega]
          exact Int.mul_emod_right _ _
        omega
      unfold chkD at hM
      rw [hrr] at hM
      have rn : Nat.beq (n % (Q : Int)).toNat 0 = false := by
        cases e : Nat.beq (n % (Q : Int)).toNat 0 with
        | false => rfl
        | true => have := Nat.eq_of_beq_eq_true e; omega
      rw [rn] at hM
      simp only [cond_false] at hM
      have bits := mask_bit (q := Q) (r := (n % (Q : Int)).toNat) (by omega)
      have si := squares_iff (n := n) (q := Q) (by omega) odd (by rcases hn.2.2 with y | y <;> simp [y]) z
      have ri := roots_iff (n := n) (q := Q)
      rw [si, ← bits, ← bitB_eq] at ri
      unfold sv
      rw [if_neg z, if_neg q2]
      have eQ : (Q : Int).toNat = Q := by simp
      rw [eQ]
      have pe := pmod_is (q := Q) (e := (Q - 1) / 2) (s := (n % (Q : Int)).toNat) (by omega) (by omega)
      by_cases x : pmod 14 ((Q - 1) / 2) 1 (n % (Q : Int)).toNat Q = 1
      · have e : Nat.beq (Nat.mod (Nat.pow (n % (Q : Int)).toNat (Nat.div (Nat.sub Q 1) 2)) Q) 1 = true := by
          rw [pe] at x
          rw [show Nat.mod (Nat.pow (n % (Q : Int)).toNat (Nat.div (Nat.sub Q 1) 2)) Q = 1 from x]; rfl
        rw [e] at hM
        rw [if_pos x, if_pos (ri.mpr hM)]
      · have e : Nat.beq (Nat.mod (Nat.pow (n % (Q : Int)).toNat (Nat.div (Nat.sub Q 1) 2)) Q) 1 = false := by
          rw [pe] at x
          cases e : Nat.beq (Nat.mod (Nat.pow (n % (Q : Int)).toNat (Nat.div (Nat.sub Q 1) 2)) Q) 1 with
          | false => rfl
          | true => exact absurd (Nat.eq_of_beq_eq_true e) x
        rw [e] at hM
        rw [if_neg x, if_neg]
        intro hh
        have := ri.mp hh
        have h2 : (!bitB (mask Q) (n % (Q : Int)).toNat) = true := hM
        rw [this] at h2
        cases h2
    rw [sw]
    unfold F__law_symbol_at
    rw [b_ls_eq]
    generalize lsC = C at c ⊢
    generalize roots n Q = R at c nn ⊢
    cases hR : R.isEmpty with
    | true =>
      rw [hR] at nn
      simp [mFun, line, mSeq, mAsg, mRet, mRetN, mDrop, mIfS, mTBin, mBin, mVar, mC, mCons, mNil, mTup, mLst, mLstC, mCB, mCall, mCallK, mIf, mAndV, mOrV, mNotV, mAnd, mOr, mNot, mTru, mUn, mChain, tB', mNx, mNev, mFor, mForL, mWhile, mComp, mCompL, mYes, gN, gT, gsCons, gsNil, gSubD, mApp, mPar, mPar3, mAugI, mSl, mSo, mNo, iR1, iR2, iR3, iS, iEn, iL, iT, asB, asL, asT, asLT, asInt, oB, oAdd, oSub, oMulA, oMul, oDiv, oMod, oPow, oNeg, cI, oEq, oIx, asSeq, oInt, oAbs, oLen, oMax2, oMin2, oDivmod, oIsi, tyD, okCell, truthD, mFrz, Option.bind_some, Option.map_some, Option.bind_none, Option.map_none, cond_true, cond_false, List.map_cons, List.map_nil, List.cons_append, List.nil_append, List.getElem?_cons_zero, List.getElem?_cons_succ, List.set_cons_zero, List.set_cons_succ, List.length_cons, List.length_nil, List.replicate , hq0, z, c, nn]
    | false =>
      rw [hR] at nn
      simp [mFun, line, mSeq, mAsg, mRet, mRetN, mDrop, mIfS, mTBin, mBin, mVar, mC, mCons, mNil, mTup, mLst, mLstC, mCB, mCall, mCallK, mIf, mAndV, mOrV, mNotV, mAnd, mOr, mNot, mTru, mUn, mChain, tB', mNx, mNev, mFor, mForL, mWhile, mComp, mCompL, mYes, gN, gT, gsCons, gsNil, gSubD, mApp, mPar, mPar3, mAugI, mSl, mSo, mNo, iR1, iR2, iR3, iS, iEn, iL, iT, asB, asL, asT, asLT, asInt, oB, oAdd, oSub, oMulA, oMul, oDiv, oMod, oPow, oNeg, cI, oEq, oIx, asSeq, oInt, oAbs, oLen, oMax2, oMin2, oDivmod, oIsi, tyD, okCell, truthD, mFrz, Option.bind_some, Option.map_some, Option.bind_none, Option.map_none, cond_true, cond_false, List.map_cons, List.map_nil, List.cons_append, List.nil_append, List.getElem?_cons_zero, List.getElem?_cons_succ, List.set_cons_zero, List.set_cons_succ, List.length_cons, List.length_nil, List.replicate , hq0, z, c, nn]
end Law

set_option Elab.async false
set_option linter.all false
set_option maxRecDepth 100000
set_option maxHeartbeats 4000000
namespace Law
open PySem L2 Zm
/-! the symbol: products over primes -/
def Pf (f : Int → Int) : List Int → Int
  | [] => 1
  | q :: r => f q * Pf f r
theorem Pf_app (f : Int → Int) : ∀ a b : List Int, Pf f (a ++ b) = Pf f a * Pf f b
  | [], b => by simp [Pf]
  | q :: r, b => by simp [Pf, Pf_app f r b, Int.mul_assoc]
theorem euclidN {p a b : Nat} (h2 : 2 ≤ p) (hp : ∀ d, 2 ≤ d → d * d ≤ p → ¬ d ∣ p) (h : p ∣ a * b) : p ∣ a ∨ p ∣ b := by
  have hg := Nat.gcd_dvd_left p a
  have hga := Nat.gcd_dvd_right p a
  by_cases g1 : Nat.gcd p a = 1
  · exact .inr (Nat.Coprime.dvd_of_dvd_mul_left g1 h)
  · refine .inl ?_
    generalize Nat.gcd p a = g at *
    obtain ⟨k, hk⟩ := hg
    have g0 : g ≠ 0 := by rintro rfl; simp at hk; omega
    have k0 : k ≠ 0 := by rintro rfl; simp at hk; omega
    have k1 : k = 1 := by
      by_cases k2 : k = 1
      · exact k2
      · exfalso
        by_cases le : g ≤ k
        · exact hp g (by omega) (by rw [hk]; exact Nat.mul_le_mul_left _ le) ⟨k, hk⟩
        · exact hp k (by omega) (by rw [hk]; exact Nat.mul_le_mul_right _ (by omega)) ⟨g, by rw [hk, Nat.mul_comm]⟩
    rw [k1, Nat.mul_one] at hk
    rw [hk]; exact hga
theorem Pl.nat {p : Int} (h : Pl p) : 2 ≤ p.toNat ∧ ∀ d, 2 ≤ d → d * d ≤ p.toNat → ¬ d ∣ p.toNat := by
  refine ⟨by have := h.1; omega, fun d d1 d2 d3 => ?_⟩
  have e : ((p.toNat : Nat) : Int) = p := Int.toNat_of_nonneg (by have := h.1; omega)
  refine h.2.2 d (by omega) ?_ ?_
  · rw [← e]; exact_mod_cast d2
  · rw [← e]; exact Int.emod_eq_zero_of_dvd (Int.ofNat_dvd.mpr d3)
theorem euclid {p a b : Int} (hp : Pl p) (h : p ∣ a * b) : p ∣ a ∨ p ∣ b := by
  obtain ⟨h2, hd⟩ := hp.nat
  have e : ((p.toNat : Nat) : Int) = p := Int.toNat_of_nonneg (by have := hp.1; omega)
  have h' : p.toNat ∣ a.natAbs * b.natAbs := by
    have := Int.natAbs_dvd_natAbs.mpr h
    rw [Int.natAbs_mul] at this
    have e2 : p.natAbs = p.toNat := by have := hp.1; omega
    rwa [e2] at this
  rcases euclidN h2 hd h' with z | z
  · exact .inl (by rw [← e]; exact Int.ofNat_dvd_left.mpr z)
  · exact .inr (by rw [← e]; exact Int.ofNat_dvd_left.mpr z)
theorem Pl.eq {p q : Int} (hp : Pl p) (hq : Pl q) (h : p ∣ q) : p = q := by
  obtain ⟨k, hk⟩ := h
  have k0 : 0 < k := by
    by_cases z : 0 < k
    · exact z
    · have := Int.mul_le_mul_of_nonneg_left (show k ≤ 0 by omega) (show 0 ≤ p by have := hp.1; omega)
      have := hq.1
      omega
  by_cases k1 : k = 1
  · rw [hk, k1, Int.mul_one]
  · exfalso
    have := hp.1
    by_cases le : p ≤ k
    · exact hq.2.2 p hp.1 (by rw [hk]; exact Int.mul_le_mul_of_nonneg_left le (by omega)) (by rw [hk]; exact Int.mul_emod_right _ _)
    · exact hq.2.2 k (by omega) (by rw [hk]; exact Int.mul_le_mul_of_nonneg_right (by omega) (by omega)) (by rw [hk]; exact Int.mul_emod_left _ _)
theorem mem_of_dvd {p : Int} (hp : Pl p) : ∀ l : List Int, (∀ q ∈ l, Pl q) → p ∣ Pf (fun x => x) l → p ∈ l
  | [], _, h => by
    exfalso
    have := Int.le_of_dvd (by decide) (show p ∣ 1 from h)
    have := hp.1
    omega
  | q :: r, hl, h => by
    rcases euclid hp (show p ∣ q * Pf (fun x => x) r from h) with z | z
    · rw [hp.eq (hl q List.mem_cons_self) z]; exact List.mem_cons_self
    · exact List.mem_cons_of_mem _ (mem_of_dvd hp r (fun x hx => hl x (List.mem_cons_of_mem _ hx)) z)
theorem Pf_erase (f : Int → Int) {p : Int} : ∀ l : List Int, p ∈ l → Pf f l = f p * Pf f (l.erase p)
  | [], h => by cases h
  | q :: r, h => by
    by_cases z : q = p
    · subst z; simp [Pf]
    · have hr : p ∈ r := by
        rcases List.mem_cons.mp h with y | y
        · exact absurd y.symm z
        · exact y
      have : (q :: r).erase p = q :: r.erase p := by
        rw [List.erase_cons_tail]; simpa using z
      rw [this]
      simp only [Pf]
      rw [Pf_erase f r hr, ← Int.mul_assoc, ← Int.mul_assoc, Int.mul_comm (f q)]
theorem Pf_pos : ∀ l : List Int, (∀ q ∈ l, Pl q) → 0 < Pf (fun x => x) l
  | [], _ => by simp [Pf]
  | q :: r, h => by
    have a := (h q List.mem_cons_self).1
    have b := Pf_pos r fun x hx => h x (List.mem_cons_of_mem _ hx)
    show 0 < q * Pf (fun x => x) r
    exact Int.mul_pos (by omega) b
theorem uniq (f : Int → Int) : ∀ l1 l2 : List Int, (∀ q ∈ l1, Pl q) → (∀ q ∈ l2, Pl q) → Pf (fun x => x) l1 = Pf (fun x => x) l2 → Pf f l1 = Pf f l2
  | [], [], _, _, _ => rfl
  | [], q :: r, _, h2, e => by
    exfalso
    have a := (h2 q List.mem_cons_self).1
    have b := Pf_pos r fun x hx => h2 x (List.mem_cons_of_mem _ hx)
    have := Int.mul_le_mul_of_nonneg_left (show 1 ≤ Pf (fun x => x) r by omega) (show 0 ≤ q by omega)
    have e' : 1 = q * Pf (fun x => x) r := e
    omega
  | p :: t, l2, h1, h2, e => by
    have hp := h1 p List.mem_cons_self
    have hm := mem_of_dvd hp l2 h2 (by rw [← e]; exact ⟨_, rfl⟩)
    have e1 := Pf_erase (fun x => x) l2 hm
    rw [Pf_erase f l2 hm]
    simp only [Pf] at e ⊢
    rw [uniq f t (l2.erase p) (fun x hx => h1 x (List.mem_cons_of_mem _ hx)) (fun x hx => h2 x (List.mem_of_mem_erase hx)) (Int.eq_of_mul_eq_mul_left (show p ≠ 0 by have := hp.1; omega) (by rw [e, e1]))]
theorem tr_prod : ∀ (f : Nat) (p n : Int), 2 ≤ p → 1 ≤ n → 2 * n - p + 2 ≤ f → 2 ≤ f → Pf (fun x => x) (tr f p n) = n
  | 0, p, n, h1, h2, h3, h4 => by omega
  | f + 1, p, n, h1, h2, h3, h4 => by
    unfold tr
    by_cases hc : p * p ≤ n
    · obtain ⟨d1, d2, d3⟩ := div_small h1 h2 hc
      have d4 : p ≤ n / p := (Int.le_ediv_iff_mul_le (by omega)).mpr hc
      rw [if_pos hc]
      by_cases hm : n % p = 0
      · rw [if_pos hm]
        simp only [Pf]
        rw [tr_prod f p (n / p) h1 d1 (by omega) (by omega)]
        have := Int.mul_ediv_add_emod n p; omega
      · rw [if_neg hm]
        exact tr_prod f (p + 1) n (by omega) h2 (by omega) (by omega)
    · rw [if_neg hc]
      by_cases hn : 1 < n
      · rw [if_pos hn]; simp [Pf]
      · rw [if_neg hn]; simp [Pf]; omega
def Sy (n m : Int) : Int := Pf (sv n) (tr (2 * m.natAbs + 2) 2 m)
theorem Sy_mul {n a b : Int} (ha : 1 ≤ a) (hb : 1 ≤ b) (hab : a * b ≤ 10000) (ha2 : a ≤ 10000) (hb2 : b ≤ 10000) : Sy n (a * b) = Sy n a * Sy n b := by
  have h1 : 1 ≤ a * b := Int.mul_pos ha hb
  unfold Sy
  rw [← Pf_app]
  refine uniq _ _ _ (tr_prime h1 hab) ?_ ?_
  · intro q hq
    rcases List.mem_append.mp hq with z | z
    · exact tr_prime ha ha2 q z
    · exact tr_prime hb hb2 q z
  · rw [Pf_app, tr_prod _ 2 (a * b) (by omega) h1 (by omega) (by omega), tr_prod _ 2 a (by omega) ha (by omega) (by omega), tr_prod _ 2 b (by omega) hb (by omega) (by omega)]
def unit (x : Int) : Prop := x = 0 ∨ x = 1 ∨ x = -1
theorem sv_unit (n q : Int) : unit (sv n q) := by
  unfold sv unit
  split
  · exact .inl rfl
  · split
    · split
      · exact .inr (.inl rfl)
      · exact .inr (.inr rfl)
    · split
      · exact .inr (.inl rfl)
      · exact .inr (.inr rfl)
theorem unit_mul {x y : Int} (h1 : unit x) (h2 : unit y) : unit (x * y) := by
  rcases h1 with rfl | rfl | rfl <;> rcases h2 with rfl | rfl | rfl <;> simp [unit]
theorem Pf_unit (n : Int) : ∀ l, unit (Pf (sv n) l)
  | [] => .inr (.inl rfl)
  | q :: r => unit_mul (sv_unit n q) (Pf_unit n r)
theorem Sy_unit (n m : Int) : unit (Sy n m) := Pf_unit n _
theorem unit_wide {x y : Int} (h1 : unit x) (h2 : unit y) : wideM x y = true := wide64 (by rcases h1 with rfl | rfl | rfl <;> decide) (by rcases h2 with rfl | rfl | rfl <;> decide)
abbrev syB : MB := (mAsg (mBin oMulA (mVar 2) (mCall 2 F_symbol_at_prime (mCons (mVar 0) (mCons (mVar 3) mNil)))) (gN 2))
theorem b_sy_eq : b_symbol = (mSeq (mDrop (mCall 1 F_check_discriminant (mCons (mVar 0) mNil)))
    (mSeq (mIfS (mNot (mTru (mCall 3 F_is_whole_between (mCons (mVar 1) (mCons (mC (.int 1)) (mCons (mC (.int 10000)) mNil)))))) mNev mNx)
    (mSeq (mAsg (mC (.int 1)) (gN 2))
    (mSeq (mFor (iS (mCall 1 F_prime_parts (mCons (mVar 1) mNil))) (gN 3) syB)
    (mRet (mVar 2)))))) := rfl
abbrev lyB : MB := (mAsg (mBin oMulA (mVar 2) (mCall 2 F__law_symbol_at (mCons (mVar 0) (mCons (mVar 3) mNil)))) (gN 2))
theorem b_ly_eq : b__law_symbol = (mSeq (mAsg (mC (.int 1)) (gN 2))
    (mSeq (mFor (iS (mCall 1 F__law_factors (mCons (mVar 1) mNil))) (gN 3) lyB)
    (mRet (mVar 2)))) := rfl
theorem prod_loop {B : MB} {n : Int} {m : Option D} {h : Cells} (step : ∀ q, Pl q → ∀ acc x, unit acc → B ⟨[some (.int n), m, some (.int acc), some (.int q)], h⟩ = some (.nx, ⟨[some (.int n), m, some (.int (acc * sv n q)), x], h⟩) ∨ B ⟨[some (.int n), m, some (.int acc), some (.int q)], h⟩ = some (.nx, ⟨[some (.int n), m, some (.int (acc * sv n q)), some (.int q)], h⟩)) :
    ∀ (l : List Int), (∀ q ∈ l, Pl q) → ∀ (acc : Int) (x : Option D), unit acc → ∃ x', mForL (gN 3) B (l.map D.int) ⟨[some (.int n), m, some (.int acc), x], h⟩ = some (.nx, ⟨[some (.int n), m, some (.int (acc * Pf (sv n) l)), x'], h⟩)
  | [], _, acc, x, _ => ⟨x, by simp [mForL, Pf]⟩
  | q :: r, hl, acc, x, ha => by
    obtain ⟨x', e⟩ := prod_loop step r (fun y hy => hl y (List.mem_cons_of_mem _ hy)) (acc * sv n q) (some (.int q)) (unit_mul ha (sv_unit n q))
    refine ⟨x', ?_⟩
    simp only [List.map_cons, mForL]
    have : B ⟨[some (.int n), m, some (.int acc), some (.int q)], h⟩ = some (.nx, ⟨[some (.int n), m, some (.int (acc * sv n q)), some (.int q)], h⟩) := by
      rcases step q (hl q List.mem_cons_self) acc (some (.int q)) ha with z | z <;> exact z
    show (B ⟨[some (.int n), m, some (.int acc), some (.int q)], h⟩).bind _ = _
    rw [this]
    simp only [Option.bind_some, e, Pf, Int.mul_assoc]
theorem symbol_ok {n m : Int} {h : Cells} (hc : ∀ ds ∈ h, cleans ds = true) (hn : okD n) (h1 : 1 ≤ m) (h2 : m ≤ 10000) : F_symbol [.int n, .int m] h = some (.int (Sy n m), h) := by
  have c := check_ok h hn
  have b := between_ok h m 1 10000
  have p := prime_parts_ok hc h1 h2
  obtain ⟨x', e⟩ := prod_loop (B := syB) (n := n) (m := some (.int m)) (h := h) (by
    intro q hq acc x ha
    refine .inr ?_
    have s := symp_ok (h := h) (n := n) hq.1 hq.2.1
    have w := unit_wide ha (sv_unit n q)
    simp [syB, mFun, line, mSeq, mAsg, mRet, mRetN, mDrop, mIfS, mTBin, mBin, mVar, mC, mCons, mNil, mTup, mLst, mLstC, mCB, mCall, mCallK, mIf, mAndV, mOrV, mNotV, mAnd, mOr, mNot, mTru, mUn, mChain, tB', mNx, mNev, mFor, mForL, mWhile, mComp, mCompL, mYes, gN, gT, gsCons, gsNil, gSubD, mApp, mPar, mPar3, mAugI, mSl, mSo, mNo, iR1, iR2, iR3, iS, iEn, iL, iT, asB, asL, asT, asLT, asInt, oB, oAdd, oSub, oMulA, oMul, oDiv, oMod, oPow, oNeg, cI, oEq, oNe, oIx, asSeq, oInt, oAbs, oLen, oMax2, oMin2, oDivmod, oIsi, tyD, okCell, truthD, mFrz, Option.bind_some, Option.map_some, Option.bind_none, Option.map_none, cond_true, cond_false, List.map_cons, List.map_nil, List.cons_append, List.nil_append, List.getElem?_cons_zero, List.getElem?_cons_succ, List.set_cons_zero, List.set_cons_succ, List.length_cons, List.length_nil, List.replicate , s, w]) (tr (2 * m.natAbs + 2) 2 m) (tr_prime h1 h2) 1 none (.inr (.inl rfl))
  rw [Int.one_mul] at e
  have e' : mForL (gN 3) syB ((tr (2 * m.natAbs + 2) 2 m).map D.int) ⟨[some (.int n), some (.int m), some (.int 1), none], h⟩ = some (.nx, ⟨[some (.int n), some (.int m), some (.int (Sy n m)), x'], h⟩) := e
  have b' : decide (1 ≤ m ∧ m ≤ 10000) = true := decide_eq_true ⟨h1, h2⟩
  rw [b'] at b
  unfold F_symbol
  rw [b_sy_eq]
  generalize syB = B at e' ⊢
  generalize tr (2 * m.natAbs + 2) 2 m = L at e' p
  generalize Sy n m = S at e' ⊢
  have fl : ∀ g B ds (ms : MS), mForL g B ds ms = mForL g B ds ms := fun _ _ _ _ => rfl
  simp [mFun, line, mSeq, mAsg, mRet, mRetN, mDrop, mIfS, mTBin, mBin, mVar, mC, mCons, mNil, mTup, mLst, mLstC, mCB, mCall, mCallK, mIf, mAndV, mOrV, mNotV, mAnd, mOr, mNot, mTru, mUn, mChain, tB', mNx, mNev, mFor, mWhile, mComp, mCompL, mYes, gN, gT, gsCons, gsNil, gSubD, mApp, mPar, mPar3, mAugI, mSl, mSo, mNo, iR1, iR2, iR3, iS, iEn, iL, iT, asB, asL, asT, asLT, asInt, oB, oAdd, oSub, oMulA, oMul, oDiv, oMod, oPow, oNeg, cI, oEq, oNe, oIx, asSeq, oInt, oAbs, oLen, oMax2, oMin2, oDivmod, oIsi, tyD, okCell, truthD, mFrz, Option.bind_some, Option.map_some, Option.bind_none, Option.map_none, cond_true, cond_false, List.map_cons, List.map_nil, List.cons_append, List.nil_append, List.getElem?_cons_zero, List.getElem?_cons_succ, List.set_cons_zero, List.set_cons_succ, List.length_cons, List.length_nil, List.replicate , c, b, p, e']
theorem lsymbol_ok {n m : Int} {h : Cells} (all : ∀ q, q ≤ 10000 → chkQ q = true) (hc : ∀ ds ∈ h, cleans ds = true) (hn : okD n) (h1 : 1 ≤ m) (h2 : m ≤ 10000) : F__law_symbol [.int n, .int m] h = some (.int (Sy n m), h) := by
  have p := law_factors_ok hc h1 h2
  obtain ⟨x', e⟩ := prod_loop (B := lyB) (n := n) (m := some (.int m)) (h := h) (by
    intro q hq acc x ha
    refine .inr ?_
    have s := at_ok (h := h) (n := n) all hn hq
    have w := unit_wide ha (sv_unit n q)
    simp [lyB, mFun, line, mSeq, mAsg, mRet, mRetN, mDrop, mIfS, mTBin, mBin, mVar, mC, mCons, mNil, mTup, mLst, mLstC, mCB, mCall, mCallK, mIf, mAndV, mOrV, mNotV, mAnd, mOr, mNot, mTru, mUn, mChain, tB', mNx, mNev, mFor, mForL, mWhile, mComp, mCompL, mYes, gN, gT, gsCons, gsNil, gSubD, mApp, mPar, mPar3, mAugI, mSl, mSo, mNo, iR1, iR2, iR3, iS, iEn, iL, iT, asB, asL, asT, asLT, asInt, oB, oAdd, oSub, oMulA, oMul, oDiv, oMod, oPow, oNeg, cI, oEq, oNe, oIx, asSeq, oInt, oAbs, oLen, oMax2, oMin2, oDivmod, oIsi, tyD, okCell, truthD, mFrz, Option.bind_some, Option.map_some, Option.bind_none, Option.map_none, cond_true, cond_false, List.map_cons, List.map_nil, List.cons_append, List.nil_append, List.getElem?_cons_zero, List.getElem?_cons_succ, List.set_cons_zero, List.set_cons_succ, List.length_cons, List.length_nil, List.replicate , s, w]) (tr (2 * m.natAbs + 2) 2 m) (tr_prime h1 h2) 1 none (.inr (.inl rfl))
  rw [Int.one_mul] at e
  have e' : mForL (gN 3) lyB ((tr (2 * m.natAbs + 2) 2 m).map D.int) ⟨[some (.int n), some (.int m), some (.int 1), none], h⟩ = some (.nx, ⟨[some (.int n), some (.int m), some (.int (Sy n m)), x'], h⟩) := e
  unfold F__law_symbol
  rw [b_ly_eq]
  generalize lyB = B at e' ⊢
  generalize tr (2 * m.natAbs + 2) 2 m = L at e' p
  generalize Sy n m = S at e' ⊢
  simp [mFun, line, mSeq, mAsg, mRet, mRetN, mDrop, mIfS, mTBin, mBin, mVar, mC, mCons, mNil, mTup, mLst, mLstC, mCB, mCall, mCallK, mIf, mAndV, mOrV, mNotV, mAnd, mOr, mNot, mTru, mUn, mChain, tB', mNx, mNev, mFor, mWhile, mComp, mCompL, mYes, gN, gT, gsCons, gsNil, gSubD, mApp, mPar, mPar3, mAugI, mSl, mSo, mNo, iR1, iR2, iR3, iS, iEn, iL, iT, asB, asL, asT, asLT, asInt, oB, oAdd, oSub, oMulA, oMul, oDiv, oMod, oPow, oNeg, cI, oEq, oNe, oIx, asSeq, oInt, oAbs, oLen, oMax2, oMin2, oDivmod, oIsi, tyD, okCell, truthD, mFrz, Option.bind_some, Option.map_some, Option.bind_none, Option.map_none, cond_true, cond_false, List.map_cons, List.map_nil, List.cons_append, List.nil_append, List.getElem?_cons_zero, List.getElem?_cons_succ, List.set_cons_zero, List.set_cons_succ, List.length_cons, List.length_nil, List.replicate , p, e']
end Law

set_option Elab.async false
set_option linter.all false
set_option maxRecDepth 100000
set_option maxHeartbeats 4000000
namespace Law
open PySem L2 Zm
/-! the law's rounds -/
theorem repr_bl (h : Cells) : ∀ b : Bool, oRepr h [.bl b] = some (.str (if b then "True" else "False"))
  | true => by kernel_rfl
  | false => by kernel_rfl
theorem repr_sy (h : Cells) {x : Int} (hx : unit x) : ∃ s : Str, oRepr h [.lst [.int x, .int x]] = some (.str s) := by
  rcases hx with rfl | rfl | rfl
  · exact ⟨"[0, 0]", by kernel_rfl⟩
  · exact ⟨"[1, 1]", by kernel_rfl⟩
  · exact ⟨"[-1, -1]", by kernel_rfl⟩
def paP (n : Int) : PyData := .list [.tuple [.int (pa n).1, .int (pa n).2], .tuple [.int (pa n).1, .int (pa n).2]]
theorem pa_sh : ∀ n ∈ allD, shOk (paP n) = true := by decide +kernel
theorem repr_pa (h : Cells) {n : Int} (hn : okD n) : ∃ s : Str, oRepr h [.lst [.tup [.int (pa n).1, .int (pa n).2], .tup [.int (pa n).1, .int (pa n).2]]] = some (.str s) := by
  have e := pa_sh n (mem_allD hn)
  refine ⟨(paP n).shown, ?_⟩
  have e2 : py h (.lst [.tup [.int (pa n).1, .int (pa n).2], .tup [.int (pa n).1, .int (pa n).2]]) = some (paP n) := rfl
  unfold oRepr
  show (py h _).bind _ = _
  rw [e2]
  show (bif shOk (paP n) then some (D.str (paP n).shown) else none) = _
  rw [e]; rfl
abbrev thB : MB := (mSeq (mAsg (mIf (mTBin oEq (mBin oMod (mCB oInt (mCons (mVar 4) mNil)) (mC (.int 2))) (mC (.int 0))) (mCall 1 F_is_discriminant (mCons (mVar 5) mNil)) (mCallK 1 (permK [0]) F_is_discriminant mNil (mCons (mVar 5) mNil))) (gN 6))
    (mIfS (mTBin oNe (mCB oRepr (mCons (mVar 6) mNil)) (mCB oRepr (mCons (mCall 1 F__law_is_discriminant (mCons (mVar 5) mNil)) mNil))) (mRet (mC (.bl false))) mNx))
abbrev s1 : MB := (mAsg (mCall 2 F__law_one (mCons (mVar 0) (mCons (mTup (mCons (mC (.int 1)) (mCons (mC (.int 2)) (mCons (mC (.int 4)) (mCons (mC (.int 8)) (mCons (mBin oAdd (mC (.int 1)) (mCall 2 F__law_draw (mCons (mVar 0) (mCons (mC (.int 200)) mNil)))) (mCons (mBin oAdd (mC (.int 1)) (mCall 2 F__law_draw (mCons (mVar 0) (mCons (mC (.int 40)) mNil)))) mNil))))))) mNil))) (gN 8))
abbrev s2 : MB := (mAsg (mIf (mTBin oEq (mCall 2 F__law_draw (mCons (mVar 0) (mCons (mC (.int 20)) mNil))) (mC (.int 0))) (mBin oAdd (mC (.int 1)) (mCall 2 F__law_draw (mCons (mVar 0) (mCons (mC (.int 10000)) mNil)))) (mVar 8)) (gN 8))
abbrev s3 : MB := (mSeq (mAsg (mCall 2 F__law_symbol (mCons (mVar 2) (mCons (mVar 8) mNil))) (gN 9))
    (mSeq (mIfS (mTBin oNe (mCB oRepr (mCons (mLst (mCons (mCall 2 F_symbol (mCons (mVar 2) (mCons (mVar 8) mNil))) (mCons (mCallK 2 (permK [1, 0]) F_symbol mNil (mCons (mVar 8) (mCons (mVar 2) mNil))) mNil))) mNil)) (mCB oRepr (mCons (mLst (mCons (mVar 9) (mCons (mVar 9) mNil))) mNil))) (mRet (mC (.bl false))) mNx)
    (mSeq (mAsg (mBin oAdd (mC (.int 1)) (mCall 2 F__law_draw (mCons (mVar 0) (mCons (mC (.int 40)) mNil)))) (gN 10))
    (mIfS (mAnd (mTBin cLt (mVar 8) (mC (.int 250))) (mTBin oNe (mCall 2 F_symbol (mCons (mVar 2) (mCons (mBin oMulA (mVar 8) (mVar 10)) mNil))) (mBin oMulA (mVar 9) (mCall 2 F__law_symbol (mCons (mVar 2) (mCons (mVar 10) mNil)))))) (mRet (mC (.bl false))) mNx))))
abbrev stB : MB := (mSeq s1 (mSeq s2 s3))
abbrev o1 : MB := (mAsg (mCall 1 F__law_disc (mCons (mVar 0) mNil)) (gN 2))
abbrev o2 : MB := (mAsg (mLst (mCons (mVar 2) (mCons (mBin oAdd (mVar 2) (mC (.int 1))) (mCons (mBin oSub (mVar 2) (mC (.int 1))) (mCons (mBin oAdd (mVar 2) (mC (.int 2))) (mCons (mBin oSub (mC (.int 0)) (mVar 2)) (mCons (mCB oStr (mCons (mVar 2) mNil)) (mCons (mTup (mCons (mVar 2) mNil)) (mCons (mUn oNeg (mC (.int 400))) (mCons (mUn oNeg (mC (.int 401))) (mCons (mUn oNeg (mC (.int 403))) (mCons (mUn oNeg (mC (.int 404))) (mCons (mC (.int 0)) mNil))))))))))))) (gN 3))
abbrev o3 : MB := (mAsg (mBin oAdd (mVar 3) (mLst (mCons (mUn oNeg (mC (.int 3))) (mCons (mUn oNeg (mC (.int 4))) (mCons (mUn oNeg (mC (.int 2))) (mCons (mC (.int 1)) (mCons (mC (.int 5)) (mCons (mC (.bl true)) (mCons (mBin oMulA (mUn oNeg (mC (.int 4))) (mBin oPow (mC (.int 10)) (mC (.int 9)))) (mCons (mCall 1 F__law_odd_thing (mCons (mVar 0) mNil)) (mCons (mC .non) (mCons (mBin oSub (mCall 2 F__law_draw (mCons (mVar 0) (mCons (mC (.int 500)) mNil))) (mC (.int 450))) mNil)))))))))))) (gN 3))
abbrev o4 : MB := (mFor (iEn (mCons (mVar 3) mNil)) (gT 2 (gsCons (gN 4) (gsCons (gN 5) gsNil))) thB)
abbrev o5 : MB := (mIfS (mTBin oNe (mCB oRepr (mCons (mLst (mCons (mCall 1 F_parts_of (mCons (mVar 2) mNil)) (mCons (mCallK 1 (permK [0]) F_parts_of mNil (mCons (mVar 2) mNil)) mNil))) mNil)) (mCB oRepr (mCons (mBin oMulA (mLst (mCons (mCall 1 F__law_parts (mCons (mVar 2) mNil)) mNil)) (mC (.int 2))) mNil))) (mRet (mC (.bl false))) mNx)
abbrev o6 : MB := (mFor (iR1 (mCons (mC (.int 6)) mNil)) (gN 7) stB)
abbrev ouB : MB := (mSeq o1 (mSeq o2 (mSeq o3 (mSeq o4 (mSeq o5 o6)))))
theorem b_lr_eq : b__law_right = (mSeq (mFor (iR1 (mCons (mC (.int 3)) mNil)) (gN 1) ouB)
    (mRet (mC (.bl true)))) := rfl
theorem th_step {a0 a1 a2 a3 a6 a7 a8 a9 a10 : Option D} {h : Cells} (i : Int) {d : D} (hp : plain d = true) : ∃ a6', thB ⟨[a0, a1, a2, a3, some (.int i), some d, a6, a7, a8, a9, a10], h⟩ = some (.nx, ⟨[a0, a1, a2, a3, some (.int i), some d, a6', a7, a8, a9, a10], h⟩) := by
  have e1 := disc_is h hp
  have e2 := ldisc_is h hp
  have r := repr_bl h (dOk d)
  generalize (if dOk d then "True" else "False") = s at r
  generalize dOk d = b at *
  refine ⟨some (.bl b), ?_⟩
  by_cases z : i % 2 = 0
  · simp [thB, mFun, line, mSeq, mAsg, mRet, mRetN, mDrop, mIfS, mTBin, mBin, mVar, mC, mCons, mNil, mTup, mLst, mLstC, mCB, mCall, mCallK, mIf, mAndV, mOrV, mNotV, mAnd, mOr, mNot, mTru, mUn, mChain, tB', mNx, mNev, mFor, mWhile, mComp, mCompL, mYes, gN, gT, gsCons, gsNil, gSubD, mApp, mPar, mPar3, mAugI, mSl, mSo, mNo, iR1, iR2, iR3, iS, iEn, iL, iT, asB, asL, asT, asLT, asInt, oB, oAdd, oSub, oMulA, oMul, oDiv, oMod, oPow, oNeg, cI, oEq, oNe, oIx, asSeq, oInt, oAbs, oLen, oMax2, oMin2, oDivmod, oIsi, tyD, okCell, truthD, mFrz, Option.bind_some, Option.map_some, Option.bind_none, Option.map_none, cond_true, cond_false, List.map_cons, List.map_nil, List.cons_append, List.nil_append, List.getElem?_cons_zero, List.getElem?_cons_succ, List.set_cons_zero, List.set_cons_succ, List.length_cons, List.length_nil, List.replicate , e1, e2, r, z]
  · simp [thB, mFun, line, mSeq, mAsg, mRet, mRetN, mDrop, mIfS, mTBin, mBin, mVar, mC, mCons, mNil, mTup, mLst, mLstC, mCB, mCall, mCallK, mIf, mAndV, mOrV, mNotV, mAnd, mOr, mNot, mTru, mUn, mChain, tB', mNx, mNev, mFor, mWhile, mComp, mCompL, mYes, gN, gT, gsCons, gsNil, gSubD, mApp, mPar, mPar3, mAugI, mSl, mSo, mNo, iR1, iR2, iR3, iS, iEn, iL, iT, asB, asL, asT, asLT, asInt, oB, oAdd, oSub, oMulA, oMul, oDiv, oMod, oPow, oNeg, cI, oEq, oNe, oIx, asSeq, oInt, oAbs, oLen, oMax2, oMin2, oDivmod, oIsi, tyD, okCell, truthD, mFrz, Option.bind_some, Option.map_some, Option.bind_none, Option.map_none, cond_true, cond_false, List.map_cons, List.map_nil, List.cons_append, List.nil_append, List.getElem?_cons_zero, List.getElem?_cons_succ, List.set_cons_zero, List.set_cons_succ, List.length_cons, List.length_nil, List.replicate , e1, e2, r, z, permK, permL]
theorem th_loop {a0 a1 a2 a3 a7 a8 a9 a10 : Option D} {h : Cells} : ∀ (ds : List D), (∀ d ∈ ds, plain d = true) → ∀ (k : Nat) (a4 a5 a6 : Option D), ∃ a4' a5' a6', mForL (gT 2 (gsCons (gN 4) (gsCons (gN 5) gsNil))) thB (enumD k ds) ⟨[a0, a1, a2, a3, a4, a5, a6, a7, a8, a9, a10], h⟩ = some (.nx, ⟨[a0, a1, a2, a3, a4', a5', a6', a7, a8, a9, a10], h⟩)
  | [], _, k, a4, a5, a6 => ⟨a4, a5, a6, rfl⟩
  | d :: ds, hd, k, a4, a5, a6 => by
    obtain ⟨a6', e⟩ := th_step (a0 := a0) (a1 := a1) (a2 := a2) (a3 := a3) (a6 := a6) (a7 := a7) (a8 := a8) (a9 := a9) (a10 := a10) (h := h) k (hd d List.mem_cons_self)
    obtain ⟨b4, b5, b6, e2⟩ := th_loop (a0 := a0) (a1 := a1) (a2 := a2) (a3 := a3) (a7 := a7) (a8 := a8) (a9 := a9) (a10 := a10) (h := h) ds (fun x hx => hd x (List.mem_cons_of_mem _ hx)) (k + 1) (some (.int k)) (some d) a6'
    refine ⟨b4, b5, b6, ?_⟩
    rw [← e2]
    show (thB ⟨[a0, a1, a2, a3, some (.int k), some d, a6, a7, a8, a9, a10], h⟩).bind _ = _
    rw [e]; rfl
end Law

set_option Elab.async false
set_option linter.all false
set_option maxRecDepth 100000
set_option maxHeartbeats 4000000
namespace Law
open PySem L2 Zm
theorem s1_ok {a1 a2 a3 a4 a5 a6 a7 a8 a9 a10 : Option D} {h : Cells} {i n : Nat} (w : W h i n) (hn : n ≤ 999000) : ∃ m h', s1 ⟨[some (.cell i), a1, a2, a3, a4, a5, a6, a7, a8, a9, a10], h⟩ = some (.nx, ⟨[some (.cell i), a1, a2, a3, a4, a5, a6, a7, some (.int m), a9, a10], h'⟩) ∧ 1 ≤ m ∧ m ≤ 10000 ∧ W h' i (n + 3) ∧ h'.length = h.length := by
  obtain ⟨x, h1, e1, x0, x1, w1, l1⟩ := draw_ok w 200 (by omega) (by decide) (by decide)
  obtain ⟨y, h2, e2, y0, y1, w2, l2⟩ := draw_ok w1 40 (by omega) (by decide) (by decide)
  obtain ⟨z, h3, e3, hz, w3, l3⟩ := one_ok w2 (d := .tup [.int 1, .int 2, .int 4, .int 8, .int (1 + x), .int (1 + y)]) (ds := [.int 1, .int 2, .int 4, .int 8, .int (1 + x), .int (1 + y)]) rfl (fun _ z => by cases z) (by omega) (by simp) (by simp)
  obtain ⟨m, rfl, m1, m2⟩ : ∃ m : Int, z = .int m ∧ 1 ≤ m ∧ m ≤ 10000 := by
    simp only [List.mem_cons, List.not_mem_nil, or_false] at hz
    rcases hz with rfl | rfl | rfl | rfl | rfl | rfl <;> exact ⟨_, rfl, by omega, by omega⟩
  refine ⟨m, h3, ?_, m1, m2, w3, by omega⟩
  simp [s1, mFun, line, mSeq, mAsg, mRet, mRetN, mDrop, mIfS, mTBin, mBin, mVar, mC, mCons, mNil, mTup, mLst, mLstC, mCB, mCall, mCallK, mIf, mAndV, mOrV, mNotV, mAnd, mOr, mNot, mTru, mUn, mChain, tB', mNx, mNev, mFor, mForL, mWhile, mComp, mCompL, mYes, gN, gT, gsCons, gsNil, gSubD, mApp, mPar, mPar3, mAugI, mSl, mSo, mNo, iR1, iR2, iR3, iS, iEn, iL, iT, asB, asL, asT, asLT, asInt, oB, oAdd, oSub, oMulA, oMul, oDiv, oMod, oPow, oNeg, cI, oEq, oNe, oIx, asSeq, oInt, oAbs, oLen, oMax2, oMin2, oDivmod, oIsi, tyD, okCell, truthD, mFrz, Option.bind_some, Option.map_some, Option.bind_none, Option.map_none, cond_true, cond_false, List.map_cons, List.map_nil, List.cons_append, List.nil_append, List.getElem?_cons_zero, List.getElem?_cons_succ, List.set_cons_zero, List.set_cons_succ, List.length_cons, List.length_nil, List.replicate , e1, e2, e3]
theorem s2_ok {a1 a2 a3 a4 a5 a6 a7 a9 a10 : Option D} {h : Cells} {i n : Nat} {m : Int} (w : W h i n) (hn : n ≤ 999000) (m1 : 1 ≤ m) (m2 : m ≤ 10000) : ∃ m' h', s2 ⟨[some (.cell i), a1, a2, a3, a4, a5, a6, a7, some (.int m), a9, a10], h⟩ = some (.nx, ⟨[some (.cell i), a1, a2, a3, a4, a5, a6, a7, some (.int m'), a9, a10], h'⟩) ∧ 1 ≤ m' ∧ m' ≤ 10000 ∧ W h' i (n + 2) ∧ h'.length = h.length := by
  obtain ⟨x, h1, e1, x0, x1, w1, l1⟩ := draw_ok w 20 (by omega) (by decide) (by decide)
  obtain ⟨y, h2, e2, y0, y1, w2, l2⟩ := draw_ok w1 10000 (by omega) (by decide) (by decide)
  by_cases z : x = 0
  · subst z
    refine ⟨1 + y, h2, ?_, by omega, by omega, w2, by omega⟩
    simp [s2, mFun, line, mSeq, mAsg, mRet, mRetN, mDrop, mIfS, mTBin, mBin, mVar, mC, mCons, mNil, mTup, mLst, mLstC, mCB, mCall, mCallK, mIf, mAndV, mOrV, mNotV, mAnd, mOr, mNot, mTru, mUn, mChain, tB', mNx, mNev, mFor, mForL, mWhile, mComp, mCompL, mYes, gN, gT, gsCons, gsNil, gSubD, mApp, mPar, mPar3, mAugI, mSl, mSo, mNo, iR1, iR2, iR3, iS, iEn, iL, iT, asB, asL, asT, asLT, asInt, oB, oAdd, oSub, oMulA, oMul, oDiv, oMod, oPow, oNeg, cI, oEq, oNe, oIx, asSeq, oInt, oAbs, oLen, oMax2, oMin2, oDivmod, oIsi, tyD, okCell, truthD, mFrz, Option.bind_some, Option.map_some, Option.bind_none, Option.map_none, cond_true, cond_false, List.map_cons, List.map_nil, List.cons_append, List.nil_append, List.getElem?_cons_zero, List.getElem?_cons_succ, List.set_cons_zero, List.set_cons_succ, List.length_cons, List.length_nil, List.replicate , e1, e2]
  · refine ⟨m, h1, ?_, m1, m2, w1.mono (by omega), by omega⟩
    simp [s2, mFun, line, mSeq, mAsg, mRet, mRetN, mDrop, mIfS, mTBin, mBin, mVar, mC, mCons, mNil, mTup, mLst, mLstC, mCB, mCall, mCallK, mIf, mAndV, mOrV, mNotV, mAnd, mOr, mNot, mTru, mUn, mChain, tB', mNx, mNev, mFor, mForL, mWhile, mComp, mCompL, mYes, gN, gT, gsCons, gsNil, gSubD, mApp, mPar, mPar3, mAugI, mSl, mSo, mNo, iR1, iR2, iR3, iS, iEn, iL, iT, asB, asL, asT, asLT, asInt, oB, oAdd, oSub, oMulA, oMul, oDiv, oMod, oPow, oNeg, cI, oEq, oNe, oIx, asSeq, oInt, oAbs, oLen, oMax2, oMin2, oDivmod, oIsi, tyD, okCell, truthD, mFrz, Option.bind_some, Option.map_some, Option.bind_none, Option.map_none, cond_true, cond_false, List.map_cons, List.map_nil, List.cons_append, List.nil_append, List.getElem?_cons_zero, List.getElem?_cons_succ, List.set_cons_zero, List.set_cons_succ, List.length_cons, List.length_nil, List.replicate , e1, z]
theorem s3_ok {a1 a3 a4 a5 a6 a7 a9 a10 : Option D} {h : Cells} {i n : Nat} {dd m : Int} (all : ∀ q, q ≤ 10000 → chkQ q = true) (hD : okD dd) (w : W h i n) (hn : n ≤ 999000) (m1 : 1 ≤ m) (m2 : m ≤ 10000) : ∃ b9 b10 h', s3 ⟨[some (.cell i), a1, some (.int dd), a3, a4, a5, a6, a7, some (.int m), a9, a10], h⟩ = some (.nx, ⟨[some (.cell i), a1, some (.int dd), a3, a4, a5, a6, a7, some (.int m), b9, b10], h'⟩) ∧ W h' i (n + 1) ∧ h'.length = h.length := by
  have e1 := symbol_ok w.cl hD m1 m2
  have e2 := lsymbol_ok all w.cl hD m1 m2
  obtain ⟨s, er⟩ := repr_sy h (Sy_unit dd m)
  obtain ⟨x, h1, e3, x0, x1, w1, l1⟩ := draw_ok w 40 (by omega) (by decide) (by decide)
  refine ⟨some (.int (Sy dd m)), some (.int (1 + x)), h1, ?_, w1, l1⟩
  have e5 := lsymbol_ok (m := 1 + x) all w1.cl hD (by omega) (by omega)
  have w3 : wideM (Sy dd m) (Sy dd (1 + x)) = true := unit_wide (Sy_unit _ _) (Sy_unit _ _)
  have wm : wideM m (1 + x) = true := wide64 (by omega) (by omega)
  by_cases z : m < 250
  · have hmx : m * (1 + x) ≤ 10000 := by
      have := Int.mul_le_mul (show m ≤ 250 by omega) (show 1 + x ≤ 40 by omega) (by omega) (by omega)
      omega
    have hm1 : 1 ≤ m * (1 + x) := Int.mul_pos m1 (by omega)
    have e4 := symbol_ok (m := m * (1 + x)) w1.cl hD hm1 hmx
    rw [Sy_mul m1 (by omega) hmx m2 (by omega)] at e4
    generalize Sy dd m = A at *
    generalize Sy dd (1 + x) = B at *
    generalize hM : m * (1 + x) = M at *
    simp [s3, mFun, line, mSeq, mAsg, mRet, mRetN, mDrop, mIfS, mTBin, mBin, mVar, mC, mCons, mNil, mTup, mLst, mLstC, mCB, mCall, mCallK, mIf, mAndV, mOrV, mNotV, mAnd, mOr, mNot, mTru, mUn, mChain, tB', mNx, mNev, mFor, mWhile, mComp, mCompL, mYes, gN, gT, gsCons, gsNil, gSubD, mApp, mPar, mPar3, mAugI, mSl, mSo, mNo, iR1, iR2, iR3, iS, iEn, iL, iT, asB, asL, asT, asLT, asInt, oB, oAdd, oSub, oMulA, oMul, oDiv, oMod, oPow, oNeg, cI, oEq, oNe, oIx, asSeq, oInt, oAbs, oLen, oMax2, oMin2, oDivmod, oIsi, tyD, okCell, truthD, mFrz, Option.bind_some, Option.map_some, Option.bind_none, Option.map_none, cond_true, cond_false, List.map_cons, List.map_nil, List.cons_append, List.nil_append, List.getElem?_cons_zero, List.getElem?_cons_succ, List.set_cons_zero, List.set_cons_succ, List.length_cons, List.length_nil, List.replicate , e1, e2, er, e3, e4, e5, w3, wm, hM, z, permK, permL]
  · generalize Sy dd m = A at *
    simp [s3, mFun, line, mSeq, mAsg, mRet, mRetN, mDrop, mIfS, mTBin, mBin, mVar, mC, mCons, mNil, mTup, mLst, mLstC, mCB, mCall, mCallK, mIf, mAndV, mOrV, mNotV, mAnd, mOr, mNot, mTru, mUn, mChain, tB', mNx, mNev, mFor, mWhile, mComp, mCompL, mYes, gN, gT, gsCons, gsNil, gSubD, mApp, mPar, mPar3, mAugI, mSl, mSo, mNo, iR1, iR2, iR3, iS, iEn, iL, iT, asB, asL, asT, asLT, asInt, oB, oAdd, oSub, oMulA, oMul, oDiv, oMod, oPow, oNeg, cI, oEq, oNe, oIx, asSeq, oInt, oAbs, oLen, oMax2, oMin2, oDivmod, oIsi, tyD, okCell, truthD, mFrz, Option.bind_some, Option.map_some, Option.bind_none, Option.map_none, cond_true, cond_false, List.map_cons, List.map_nil, List.cons_append, List.nil_append, List.getElem?_cons_zero, List.getElem?_cons_succ, List.set_cons_zero, List.set_cons_succ, List.length_cons, List.length_nil, List.replicate , e1, e2, er, e3, z, permK, permL]
theorem st_loop {a1 a3 a4 a5 a6 : Option D} {i : Nat} {dd : Int} (all : ∀ q, q ≤ 10000 → chkQ q = true) (hD : okD dd) : ∀ (l : List D) (h : Cells) (n : Nat) (a7 a8 a9 a10 : Option D), W h i n → n + 10 * l.length ≤ 900000 → ∃ b7 b8 b9 b10 h', mForL (gN 7) stB l ⟨[some (.cell i), a1, some (.int dd), a3, a4, a5, a6, a7, a8, a9, a10], h⟩ = some (.nx, ⟨[some (.cell i), a1, some (.int dd), a3, a4, a5, a6, b7, b8, b9, b10], h'⟩) ∧ W h' i (n + 10 * l.length) ∧ h'.length = h.length
  | [], h, n, a7, a8, a9, a10, w, hn => ⟨a7, a8, a9, a10, h, rfl, w, rfl⟩
  | d :: l, h, n, a7, a8, a9, a10, w, hn => by
    simp only [List.length_cons] at hn
    obtain ⟨m, h1, e1, m1, m2, w1, l1⟩ := s1_ok (a1 := a1) (a2 := some (.int dd)) (a3 := a3) (a4 := a4) (a5 := a5) (a6 := a6) (a7 := some d) (a8 := a8) (a9 := a9) (a10 := a10) w (by omega)
    obtain ⟨m', h2, e2, m3, m4, w2, l2⟩ := s2_ok (a1 := a1) (a2 := some (.int dd)) (a3 := a3) (a4 := a4) (a5 := a5) (a6 := a6) (a7 := some d) (a9 := a9) (a10 := a10) w1 (by omega) m1 m2
    obtain ⟨b9, b10, h3, e3, w3, l3⟩ := s3_ok (a1 := a1) (a3 := a3) (a4 := a4) (a5 := a5) (a6 := a6) (a7 := some d) (a9 := a9) (a10 := a10) all hD w2 (by omega) m3 m4
    obtain ⟨c7, c8, c9, c10, h4, e4, w4, l4⟩ := st_loop (a1 := a1) (a3 := a3) (a4 := a4) (a5 := a5) (a6 := a6) (i := i) all hD l h3 (n + 10) (some d) (some (.int m')) b9 b10 (w3.mono (by omega)) (by omega)
    refine ⟨c7, c8, c9, c10, h4, ?_, w4.mono (by simp only [List.length_cons]; omega), by omega⟩
    rw [← e4]
    show ((mSeq s1 (mSeq s2 s3)) ⟨[some (.cell i), a1, some (.int dd), a3, a4, a5, a6, some d, a8, a9, a10], h⟩).bind _ = _
    have : (mSeq s1 (mSeq s2 s3)) ⟨[some (.cell i), a1, some (.int dd), a3, a4, a5, a6, some d, a8, a9, a10], h⟩ = some (.nx, ⟨[some (.cell i), a1, some (.int dd), a3, a4, a5, a6, some d, some (.int m'), b9, b10], h3⟩) := by
      generalize s1 = S1 at *
      generalize s2 = S2 at *
      generalize s3 = S3 at *
      simp only [mSeq, e1, e2, e3, Option.bind_some]
    rw [this]; rfl
end Law

set_option Elab.async false
set_option linter.all false
set_option maxRecDepth 100000
set_option maxHeartbeats 400000
namespace Law
open PySem L2 Zm
def things (dd : Int) (x : D) (y : Int) : List D := [.int dd, .int (dd + 1), .int (dd - 1), .int (dd + 2), .int (0 - dd), .str (toString dd), .tup [.int dd], .int (-400), .int (-401), .int (-403), .int (-404), .int 0, .int (-3), .int (-4), .int (-2), .int 1, .int 5, .bl true, .int (-4000000000), x, .non, .int (y - 450)]
theorem o23_ok {a1 a3 a4 a5 a6 a7 a8 a9 a10 : Option D} {h : Cells} {i n : Nat} {dd : Int} (hD : okD dd) (w : W h i n) (hn : n ≤ 999000) : ∃ x y h', (mSeq o2 o3) ⟨[some (.cell i), a1, some (.int dd), a3, a4, a5, a6, a7, a8, a9, a10], h⟩ = some (.nx, ⟨[some (.cell i), a1, some (.int dd), some (.lst (things dd x y)), a4, a5, a6, a7, a8, a9, a10], h'⟩) ∧ plain x = true ∧ W h' i (n + 2) ∧ h'.length = h.length := by
  obtain ⟨x, h1, e1, hx, w1, l1⟩ := odd_ok w (by omega)
  obtain ⟨y, h2, e2, y0, y1, w2, l2⟩ := draw_ok w1 500 (by omega) (by decide) (by decide)
  have hp : plain x = true := by
    simp only [oddL, List.mem_cons, List.not_mem_nil, or_false] at hx
    rcases hx with z | z | z | z | z | z | z | z | z | z | z | z | z | z | z | z | z <;> rw [z] <;> rfl
  have lg : dd.natAbs.log2 < 1920 := Nat.lt_trans (log_le (b := 16) (by have := hD.1; have := hD.2.1; omega) (by decide)) (by decide)
  refine ⟨x, y, h2, ?_, hp, w2, by omega⟩
  simp [o2, o3, mFun, line, mSeq, mAsg, mRet, mRetN, mDrop, mIfS, mTBin, mBin, mVar, mC, mCons, mNil, mTup, mLst, mLstC, mCB, mCall, mCallK, mIf, mAndV, mOrV, mNotV, mAnd, mOr, mNot, mTru, mUn, mChain, tB', mNx, mNev, mFor, mForL, mWhile, mComp, mCompL, mYes, gN, gT, gsCons, gsNil, gSubD, mApp, mPar, mPar3, mAugI, mSl, mSo, mNo, iR1, iR2, iR3, iS, iEn, iL, iT, asB, asL, asT, asLT, asInt, oB, oAdd, oSub, oMulA, oMul, oDiv, oMod, oPow, oNeg, cI, oEq, oNe, oIx, asSeq, oInt, oAbs, oLen, oMax2, oMin2, oDivmod, oIsi, tyD, okCell, truthD, mFrz, Option.bind_some, Option.map_some, Option.bind_none, Option.map_none, cond_true, cond_false, List.map_cons, List.map_nil, List.cons_append, List.nil_append, List.getElem?_cons_zero, List.getElem?_cons_succ, List.set_cons_zero, List.set_cons_succ, List.length_cons, List.length_nil, List.replicate , e1, e2, oStr, lg, things, wide64]
theorem things_plain {dd : Int} {x : D} {y : Int} (hx : plain x = true) : ∀ d ∈ things dd x y, plain d = true := by
  intro d hd
  simp only [things, List.mem_cons, List.not_mem_nil, or_false] at hd
  rcases hd with z | z | z | z | z | z | z | z | z | z | z | z | z | z | z | z | z | z | z | z | z | z <;> rw [z] <;> first | rfl | exact hx
theorem o5_ok {a1 a3 a4 a5 a6 a7 a8 a9 a10 : Option D} {h : Cells} {i : Nat} {dd : Int} (hD : okD dd) : o5 ⟨[some (.cell i), a1, some (.int dd), a3, a4, a5, a6, a7, a8, a9, a10], h⟩ = some (.nx, ⟨[some (.cell i), a1, some (.int dd), a3, a4, a5, a6, a7, a8, a9, a10], h⟩) := by
  have e1 := parts_ok h hD
  have e2 := lparts_ok h hD
  obtain ⟨s, er⟩ := repr_pa h hD
  generalize (pa dd).1 = A at *
  generalize (pa dd).2 = B at *
  simp [o5, mFun, line, mSeq, mAsg, mRet, mRetN, mDrop, mIfS, mTBin, mBin, mVar, mC, mCons, mNil, mTup, mLst, mLstC, mCB, mCall, mCallK, mIf, mAndV, mOrV, mNotV, mAnd, mOr, mNot, mTru, mUn, mChain, tB', mNx, mNev, mFor, mWhile, mComp, mCompL, mYes, gN, gT, gsCons, gsNil, gSubD, mApp, mPar, mPar3, mAugI, mSl, mSo, mNo, iR1, iR2, iR3, iS, iEn, iL, iT, asB, asL, asT, asLT, asInt, oB, oAdd, oSub, oMulA, oMul, oDiv, oMod, oPow, oNeg, cI, oEq, oNe, oIx, asSeq, oInt, oAbs, oLen, oMax2, oMin2, oDivmod, oIsi, tyD, okCell, truthD, mFrz, Option.bind_some, Option.map_some, Option.bind_none, Option.map_none, cond_true, cond_false, List.map_cons, List.map_nil, List.cons_append, List.nil_append, List.getElem?_cons_zero, List.getElem?_cons_succ, List.set_cons_zero, List.set_cons_succ, List.length_cons, List.length_nil, List.replicate , e1, e2, er, permK, permL]
theorem ou_ok {a1 a2 a3 a4 a5 a6 a7 a8 a9 a10 : Option D} {h : Cells} {i n : Nat} (all : ∀ q, q ≤ 10000 → chkQ q = true) (w : W h i n) (hn : n ≤ 800000) : ∃ b2 b3 b4 b5 b6 b7 b8 b9 b10 h', ouB ⟨[some (.cell i), a1, a2, a3, a4, a5, a6, a7, a8, a9, a10], h⟩ = some (.nx, ⟨[some (.cell i), a1, b2, b3, b4, b5, b6, b7, b8, b9, b10], h'⟩) ∧ W h' i (n + 100) ∧ h'.length = h.length := by
  obtain ⟨dd, h1, e1, hD, w1, l1⟩ := disc_ok w (by omega)
  have f1 : o1 ⟨[some (.cell i), a1, a2, a3, a4, a5, a6, a7, a8, a9, a10], h⟩ = some (.nx, ⟨[some (.cell i), a1, some (.int dd), a3, a4, a5, a6, a7, a8, a9, a10], h1⟩) := by
    simp [o1, mFun, line, mSeq, mAsg, mRet, mRetN, mDrop, mIfS, mTBin, mBin, mVar, mC, mCons, mNil, mTup, mLst, mLstC, mCB, mCall, mCallK, mIf, mAndV, mOrV, mNotV, mAnd, mOr, mNot, mTru, mUn, mChain, tB', mNx, mNev, mFor, mForL, mWhile, mComp, mCompL, mYes, gN, gT, gsCons, gsNil, gSubD, mApp, mPar, mPar3, mAugI, mSl, mSo, mNo, iR1, iR2, iR3, iS, iEn, iL, iT, asB, asL, asT, asLT, asInt, oB, oAdd, oSub, oMulA, oMul, oDiv, oMod, oPow, oNeg, cI, oEq, oNe, oIx, asSeq, oInt, oAbs, oLen, oMax2, oMin2, oDivmod, oIsi, tyD, okCell, truthD, mFrz, Option.bind_some, Option.map_some, Option.bind_none, Option.map_none, cond_true, cond_false, List.map_cons, List.map_nil, List.cons_append, List.nil_append, List.getElem?_cons_zero, List.getElem?_cons_succ, List.set_cons_zero, List.set_cons_succ, List.length_cons, List.length_nil, List.replicate , e1]
  obtain ⟨x, y, h2, e2, hx, w2, l2⟩ := o23_ok (a1 := a1) (a3 := a3) (a4 := a4) (a5 := a5) (a6 := a6) (a7 := a7) (a8 := a8) (a9 := a9) (a10 := a10) hD w1 (by omega)
  obtain ⟨b4, b5, b6, e4⟩ := th_loop (a0 := some (.cell i)) (a1 := a1) (a2 := some (.int dd)) (a3 := some (.lst (things dd x y))) (a7 := a7) (a8 := a8) (a9 := a9) (a10 := a10) (h := h2) (things dd x y) (things_plain hx) 0 a4 a5 a6
  have f4 : o4 ⟨[some (.cell i), a1, some (.int dd), some (.lst (things dd x y)), a4, a5, a6, a7, a8, a9, a10], h2⟩ = some (.nx, ⟨[some (.cell i), a1, some (.int dd), some (.lst (things dd x y)), b4, b5, b6, a7, a8, a9, a10], h2⟩) := e4
  have f5 := o5_ok (a1 := a1) (a3 := some (.lst (things dd x y))) (a4 := b4) (a5 := b5) (a6 := b6) (a7 := a7) (a8 := a8) (a9 := a9) (a10 := a10) (h := h2) (i := i) hD
  obtain ⟨c7, c8, c9, c10, h3, e6, w3, l3⟩ := st_loop (a1 := a1) (a3 := some (.lst (things dd x y))) (a4 := b4) (a5 := b5) (a6 := b6) (i := i) all hD (intsD 0 6) h2 (n + 3 + 2) a7 a8 a9 a10 w2 (by simp [intsD]; omega)
  have f6 : o6 ⟨[some (.cell i), a1, some (.int dd), some (.lst (things dd x y)), b4, b5, b6, a7, a8, a9, a10], h2⟩ = some (.nx, ⟨[some (.cell i), a1, some (.int dd), some (.lst (things dd x y)), b4, b5, b6, c7, c8, c9, c10], h3⟩) := e6
  refine ⟨some (.int dd), some (.lst (things dd x y)), b4, b5, b6, c7, c8, c9, c10, h3, ?_, w3.mono (by simp [intsD]), by omega⟩
  have g2 : ∀ R : MB, (mSeq o2 (mSeq o3 R)) ⟨[some (.cell i), a1, some (.int dd), a3, a4, a5, a6, a7, a8, a9, a10], h1⟩ = R ⟨[some (.cell i), a1, some (.int dd), some (.lst (things dd x y)), a4, a5, a6, a7, a8, a9, a10], h2⟩ := by
    intro R
    generalize o2 = O2 at e2 ⊢
    generalize o3 = O3 at e2 ⊢
    unfold mSeq at e2 ⊢
    cases z : O2 ⟨[some (.cell i), a1, some (.int dd), a3, a4, a5, a6, a7, a8, a9, a10], h1⟩ with
    | none => rw [z] at e2; cases e2
    | some t =>
      obtain ⟨o, ms⟩ := t
      rw [z] at e2
      cases o <;> simp only [Option.bind_some] at e2 ⊢ <;> first | (rw [e2]; done) | (rw [e2]; rfl) | (simp only [Option.some.injEq, Prod.mk.injEq] at e2; cases e2.1)
  show (mSeq o1 (mSeq o2 (mSeq o3 (mSeq o4 (mSeq o5 o6))))) _ = _
  have g1 : ∀ R : MB, (mSeq o1 R) ⟨[some (.cell i), a1, a2, a3, a4, a5, a6, a7, a8, a9, a10], h⟩ = R ⟨[some (.cell i), a1, some (.int dd), a3, a4, a5, a6, a7, a8, a9, a10], h1⟩ := by
    intro R
    generalize o1 = O1 at f1 ⊢
    unfold mSeq
    rw [f1]; rfl
  rw [g1, g2]
  generalize o4 = O4 at f4 ⊢
  generalize o5 = O5 at f5 ⊢
  generalize o6 = O6 at f6 ⊢
  unfold mSeq
  rw [f4]
  show (O5 _).bind _ = _
  rw [f5]
  exact f6
theorem ou_loop {i : Nat} (all : ∀ q, q ≤ 10000 → chkQ q = true) : ∀ (l : List D) (h : Cells) (n : Nat) (a1 a2 a3 a4 a5 a6 a7 a8 a9 a10 : Option D), W h i n → n + 100 * l.length ≤ 700000 → ∃ s h', mForL (gN 1) ouB l ⟨[some (.cell i), a1, a2, a3, a4, a5, a6, a7, a8, a9, a10], h⟩ = some (.nx, ⟨s, h'⟩) ∧ W h' i (n + 100 * l.length) ∧ h'.length = h.length
  | [], h, n, a1, a2, a3, a4, a5, a6, a7, a8, a9, a10, w, hn => ⟨_, h, rfl, w, rfl⟩
  | d :: l, h, n, a1, a2, a3, a4, a5, a6, a7, a8, a9, a10, w, hn => by
    simp only [List.length_cons] at hn
    obtain ⟨b2, b3, b4, b5, b6, b7, b8, b9, b10, h1, e1, w1, l1⟩ := ou_ok (a1 := some d) (a2 := a2) (a3 := a3) (a4 := a4) (a5 := a5) (a6 := a6) (a7 := a7) (a8 := a8) (a9 := a9) (a10 := a10) all w (by omega)
    obtain ⟨s, h2, e2, w2, l2⟩ := ou_loop all l h1 (n + 100) (some d) b2 b3 b4 b5 b6 b7 b8 b9 b10 w1 (by omega)
    refine ⟨s, h2, ?_, w2.mono (by simp only [List.length_cons]; omega), by omega⟩
    rw [← e2]
    show (ouB ⟨[some (.cell i), some d, a2, a3, a4, a5, a6, a7, a8, a9, a10], h⟩).bind _ = _
    rw [e1]; rfl
theorem right_ok {h : Cells} {i : Nat} (all : ∀ q, q ≤ 10000 → chkQ q = true) (w : W h i 0) : ∃ h', F__law_right [.cell i] h = some (.bl true, h') ∧ (∀ ds ∈ h', cleans ds = true) ∧ h'.length = h.length := by
  obtain ⟨s, h1, e, w1, l1⟩ := ou_loop all (intsD 0 3) h 0 none none none none none none none none none none w (by simp [intsD])
  refine ⟨h1, ?_, w1.cl, l1⟩
  have big : big62 3 = true := by decide
  unfold F__law_right
  rw [b_lr_eq]
  generalize ouB = O at e ⊢
  simp [mFun, line, mSeq, mFor, iR1, mCons, mNil, mC, big, e, mRet]
abbrev laE : ME := (mCall 1 F__law_right (mCons (mCall 2 F__law_well (mCons (mVar 0) (mCons (mVar 1) mNil))) mNil))
abbrev laC : ME := (mComp (iR1 (mCons (mCB oMax2 (mCons (mC (.int 2)) (mCons (mCB oMin2 (mCons (mCB oLen (mCons (mVar 0) mNil)) (mCons (mC (.int 3)) mNil))) mNil))) mNil)) (gN 1) mYes (mCall 1 F__law_right (mCons (mCall 2 F__law_well (mCons (mVar 0) (mCons (mVar 1) mNil))) mNil)) [1])
theorem b_la_eq : b_law = (mRet (mCB oAll (mCons laC mNil))) := rfl
theorem la_loop (ns : List Int) (hns : ns.length ≤ 63) (all : ∀ q, q ≤ 10000 → chkQ q = true) : ∀ (l : List Nat), (∀ x ∈ l, x ≤ 10) → ∀ (h : Cells), (∀ ds ∈ h, cleans ds = true) → ∃ h', mCompL (gN 1) mYes laE [some (.frl (ns.map D.int)), none] (l.map fun (x : Nat) => D.int x) h = some (l.map fun _ => D.bl true, h')
  | [], _, h, _ => ⟨h, rfl⟩
  | x :: l, hl, h, hc => by
    obtain ⟨a, m, e1, w⟩ := well_ok ns hns x (hl x List.mem_cons_self) h hc
    obtain ⟨h2, e2, c2, l2⟩ := right_ok all w
    obtain ⟨h3, e3⟩ := la_loop ns hns all l (fun y hy => hl y (List.mem_cons_of_mem _ hy)) h2 c2
    refine ⟨h3, ?_⟩
    have ee : laE ⟨[some (.frl (ns.map D.int)), some (.int x)], h⟩ = some (.bl true, h2) := by
      generalize ns.map D.int = L at *
      simp [laE, mFun, line, mSeq, mAsg, mRet, mRetN, mDrop, mIfS, mTBin, mBin, mVar, mC, mCons, mNil, mTup, mLst, mLstC, mCB, mCall, mCallK, mIf, mAndV, mOrV, mNotV, mAnd, mOr, mNot, mTru, mUn, mChain, tB', mNx, mNev, mFor, mForL, mWhile, mComp, mCompL, mYes, gN, gT, gsCons, gsNil, gSubD, mApp, mPar, mPar3, mAugI, mSl, mSo, mNo, iR1, iR2, iR3, iS, iEn, iL, iT, asB, asL, asT, asLT, asInt, oB, oAdd, oSub, oMulA, oMul, oDiv, oMod, oPow, oNeg, cI, oEq, oNe, oIx, asSeq, oInt, oAbs, oLen, oMax2, oMin2, oDivmod, oIsi, tyD, okCell, truthD, mFrz, Option.bind_some, Option.map_some, Option.bind_none, Option.map_none, cond_true, cond_false, List.map_cons, List.map_nil, List.cons_append, List.nil_append, List.getElem?_cons_zero, List.getElem?_cons_succ, List.set_cons_zero, List.set_cons_succ, List.length_cons, List.length_nil, List.replicate , e1, e2]
    generalize laE = E at *
    simp only [List.map_cons, mCompL, gN, mYes, Option.bind_some, cond_true, List.set_cons_zero, List.set_cons_succ, ee, e3, Option.map_some]
theorem mComp_eq {f : MI} {g : MG} {t : MT} {e : ME} {vs : List Nat} {ms : MS} {ds q : List D} {h1 h2 : Cells} (e1 : f ms = some (ds, h1)) (e2 : mCompL g t e (wipeD ms.s vs) ds h1 = some (q, h2)) (e3 : decide (q.length ≤ line) = true) : mComp f g t e vs ms = some (.lst q, h2) := by
  unfold mComp
  rw [e1]
  simp only [Option.bind_some]
  rw [e2]
  simp only [Option.bind_some]
  rw [e3]
  simp only [cond_true]
theorem iR1_eq {f : MA} {ms : MS} {j : Int} {h : Cells} (e1 : f ms = some ([.int j], h)) (e2 : big62 j = true) : iR1 f ms = some (intsD 0 j.toNat, h) := by
  unfold iR1
  rw [e1]
  simp only [Option.bind_some, e2, cond_true]
theorem la_ec {ns : List Int} {h' : Cells} {k : Nat} {M : Int} (hm2 : oMin2 [] [.int ns.length, .int 3] = some (.int M)) (hk2 : oMax2 [] [.int 2, .int M] = some (.int k)) (hk : k ≤ 3) (E : ME) (e : mCompL (gN 1) mYes E [some (.frl (ns.map D.int)), none] ((List.range k).map fun (x : Nat) => D.int x) [] = some ((List.range k).map fun _ => D.bl true, h')) : mComp (iR1 (mCons (mCB oMax2 (mCons (mC (.int 2)) (mCons (mCB oMin2 (mCons (mCB oLen (mCons (mVar 0) mNil)) (mCons (mC (.int 3)) mNil))) mNil))) mNil)) (gN 1) mYes E [1] ⟨[some (.frl (ns.map D.int)), none], []⟩ = some (.lst ((List.range k).map fun _ => D.bl true), h') := by
  have big : big62 (k : Int) = true := decide_eq_true (by omega)
  have ek : intsD 0 k = (List.range k).map fun (x : Nat) => D.int x := by simp [intsD]
  have tk : ((k : Int)).toNat = k := Int.toNat_natCast k
  have hlen : ((List.range k).map fun (_ : Nat) => D.bl true).length ≤ line := by
    rw [List.length_map, List.length_range]; show k ≤ 16777216; omega
  have ln : (ns.map D.int).length = ns.length := List.length_map _
  have e : mCompL (gN 1) mYes E [some (.frl (ns.map D.int)), none] (intsD 0 (k : Int).toNat) [] = some ((List.range k).map fun _ => D.bl true, h') := by rw [tk, ek]; exact e
  refine mComp_eq (h1 := []) (iR1_eq (j := (k : Int)) ?_ big) e (decide_eq_true hlen)
  generalize ns.map D.int = L at *
  simp only [mCons, mNil, mC, mCB, mVar, oLen, List.getElem?_cons_zero, Option.bind_some, Option.map_some, ln, hm2, hk2]
theorem la_all : ∀ l : List Nat, asBs (l.map fun _ => D.bl true) = some (l.map fun _ => true)
  | [] => rfl
  | x :: r => by
    have := la_all r
    simp [asBs, asB, this]
theorem la_fin {C : ME} {L : List D} {B : List D} {T : List Bool} {h' : Cells} (ec : C ⟨[some (.frl L), none], []⟩ = some (.lst B, h')) (ah : asBs B = some T) (at' : T.all id = true) : mFun 2 1 (mRet (mCB oAll (mCons C mNil))) [.frl L] [] = some (.bl true, h') := by
  simp [mFun, mRet, mCB, mCons, mNil, oAll, asL, ec, ah, at', line]
theorem minmax (n : Nat) : ∃ (M : Int) (k : Nat), oMin2 [] [.int n, .int 3] = some (.int M) ∧ oMax2 [] [.int 2, .int M] = some (.int k) ∧ k ≤ 3 := by
  refine ⟨if (3 : Int) < n then 3 else n, ?_⟩
  by_cases z : (3 : Int) < n
  · refine ⟨3, rfl, ?_, by omega⟩
    simp [oMax2, z]
  · by_cases y : (n : Int) > 2
    · refine ⟨n, rfl, ?_, by omega⟩
      simp only [oMax2, if_neg z, if_pos y]
    · refine ⟨2, rfl, ?_, by omega⟩
      simp only [oMax2, if_neg z, if_neg y]; rfl
theorem main : ∀ ns : List Int, ns.length ≤ 63 → ∃ h', F_law [.frl (ns.map D.int)] [] = some (.bl true, h') := by
  intro ns hns
  obtain ⟨M, k, hm2, hk2, hk⟩ := minmax ns.length
  obtain ⟨h', e⟩ := la_loop ns hns chk_all (List.range k) (fun x hx => by rw [List.mem_range] at hx; omega) [] (fun _ hd => by cases hd)
  exact ⟨h', la_fin (C := laC) (la_ec hm2 hk2 hk laE e) (la_all _) (by simp)⟩
end Law

set_option maxHeartbeats 400000
namespace Law
open PySem L2 Zm
theorem law_ok {P : Program} {w : World} {K : PySem.W.Frag} {mg : Str → Option Value} {base : Heap} (T : Top K mg) {f : Addr} {fd : FuncData} (F : Fun K "law" "law" s_law f fd) : FnG P w K mg base CX0 7 f fd ["script"] (spF K 1 F_law) := by
  have A := all (P := P) (w := w) (base := base) T
  exact ok_law T.B F A.d__law_right A.d__law_well
theorem all_mk {l : PySem.W.OpenLaw} {w : World} {K : PySem.W.Frag} {h : Heap} {mg : Str → Option Value} {fa : Addr} (X : K.In h) (G : h.Ns mainGlobals mg) (hfa : mg "law" = some (.ref fa))
    {f0 f1 f2 f3 f4 f5 f6 f7 f8 f9 f10 f11 f12 f13 f14 f15 f16 f17 f18 f19 f20 f21 f22 : Addr} {od0 an0 od1 an1 od2 an2 od3 an3 od4 an4 od5 an5 od6 an6 od7 an7 od8 an8 od9 an9 od10 an10 od11 an11 od12 an12 od13 an13 od14 an14 od15 an15 od16 an16 od17 an17 od18 an18 od19 an19 od20 an20 od21 an21 od22 an22 : Option Addr} {sl0 sl1 sl2 sl3 sl4 sl5 sl6 sl7 sl8 sl9 sl10 sl11 sl12 sl13 sl14 sl15 sl16 sl17 sl18 sl19 sl20 sl21 sl22 : Array (Option Value)}
    {oc0 kV0 dc0 pm0 cd0 ct0 oc1 kV1 dc1 pm1 cd1 ct1 oc2 kV2 dc2 pm2 cd2 ct2 oc3 kV3 dc3 pm3 cd3 ct3 oc4 kV4 dc4 pm4 cd4 ct4 oc5 kV5 dc5 pm5 cd5 ct5 oc6 kV6 dc6 pm6 cd6 ct6 oc7 kV7 dc7 pm7 cd7 ct7 oc8 kV8 dc8 pm8 cd8 ct8 oc9 kV9 dc9 pm9 cd9 ct9 oc10 kV10 dc10 pm10 cd10 ct10 oc11 kV11 dc11 pm11 cd11 ct11 oc12 kV12 dc12 pm12 cd12 ct12 oc13 kV13 dc13 pm13 cd13 ct13 oc14 kV14 dc14 pm14 cd14 ct14 oc15 kV15 dc15 pm15 cd15 ct15 oc16 kV16 dc16 pm16 cd16 ct16 oc17 kV17 dc17 pm17 cd17 ct17 oc18 kV18 dc18 pm18 cd18 ct18 oc19 kV19 dc19 pm19 cd19 ct19 oc20 kV20 dc20 pm20 cd20 ct20 oc21 kV21 dc21 pm21 cd21 ct21 oc22 kV22 dc22 pm22 cd22 ct22 : Value}
    (a0 : PySem.W.nsIn K mainGlobals "is_whole" = some (some (.ref f0))) (l0 : K.lookup f0 = some ⟨oc0, od0, .func (PySem.W.fnOf "is_whole" "is_whole" (defArgs s_is_whole) (defBody s_is_whole) (defScope s_is_whole) .none kV0 dc0 pm0 an0 cd0 ct0), sl0⟩) (c0 : PySem.W.codeIn K cd0 "is_whole" = true) (k0 : PySem.W.keepIn K (.ref f0) = true)
    (a1 : PySem.W.nsIn K mainGlobals "is_whole_between" = some (some (.ref f1))) (l1 : K.lookup f1 = some ⟨oc1, od1, .func (PySem.W.fnOf "is_whole_between" "is_whole_between" (defArgs s_is_whole_between) (defBody s_is_whole_between) (defScope s_is_whole_between) .none kV1 dc1 pm1 an1 cd1 ct1), sl1⟩) (c1 : PySem.W.codeIn K cd1 "is_whole_between" = true) (k1 : PySem.W.keepIn K (.ref f1) = true)
    (a2 : PySem.W.nsIn K mainGlobals "prime_parts" = some (some (.ref f2))) (l2 : K.lookup f2 = some ⟨oc2, od2, .func (PySem.W.fnOf "prime_parts" "prime_parts" (defArgs s_prime_parts) (defBody s_prime_parts) (defScope s_prime_parts) .none kV2 dc2 pm2 an2 cd2 ct2), sl2⟩) (c2 : PySem.W.codeIn K cd2 "prime_parts" = true) (k2 : PySem.W.keepIn K (.ref f2) = true)
    (a3 : PySem.W.nsIn K mainGlobals "power_modulo" = some (some (.ref f3))) (l3 : K.lookup f3 = some ⟨oc3, od3, .func (PySem.W.fnOf "power_modulo" "power_modulo" (defArgs s_power_modulo) (defBody s_power_modulo) (defScope s_power_modulo) .none kV3 dc3 pm3 an3 cd3 ct3), sl3⟩) (c3 : PySem.W.codeIn K cd3 "power_modulo" = true) (k3 : PySem.W.keepIn K (.ref f3) = true)
    (a4 : PySem.W.nsIn K mainGlobals "is_discriminant" = some (some (.ref f4))) (l4 : K.lookup f4 = some ⟨oc4, od4, .func (PySem.W.fnOf "is_discriminant" "is_discriminant" (defArgs s_is_discriminant) (defBody s_is_discriminant) (defScope s_is_discriminant) .none kV4 dc4 pm4 an4 cd4 ct4), sl4⟩) (c4 : PySem.W.codeIn K cd4 "is_discriminant" = true) (k4 : PySem.W.keepIn K (.ref f4) = true)
    (a5 : PySem.W.nsIn K mainGlobals "check_discriminant" = some (some (.ref f5))) (l5 : K.lookup f5 = some ⟨oc5, od5, .func (PySem.W.fnOf "check_discriminant" "check_discriminant" (defArgs s_check_discriminant) (defBody s_check_discriminant) (defScope s_check_discriminant) .none kV5 dc5 pm5 an5 cd5 ct5), sl5⟩) (c5 : PySem.W.codeIn K cd5 "check_discriminant" = true) (k5 : PySem.W.keepIn K (.ref f5) = true)
    (a6 : PySem.W.nsIn K mainGlobals "is_square_part" = some (some (.ref f6))) (l6 : K.lookup f6 = some ⟨oc6, od6, .func (PySem.W.fnOf "is_square_part" "is_square_part" (defArgs s_is_square_part) (defBody s_is_square_part) (defScope s_is_square_part) .none kV6 dc6 pm6 an6 cd6 ct6), sl6⟩) (c6 : PySem.W.codeIn K cd6 "is_square_part" = true) (k6 : PySem.W.keepIn K (.ref f6) = true)
    (a7 : PySem.W.nsIn K mainGlobals "parts_of" = some (some (.ref f7))) (l7 : K.lookup f7 = some ⟨oc7, od7, .func (PySem.W.fnOf "parts_of" "parts_of" (defArgs s_parts_of) (defBody s_parts_of) (defScope s_parts_of) .none kV7 dc7 pm7 an7 cd7 ct7), sl7⟩) (c7 : PySem.W.codeIn K cd7 "parts_of" = true) (k7 : PySem.W.keepIn K (.ref f7) = true)
    (a8 : PySem.W.nsIn K mainGlobals "symbol_at_prime" = some (some (.ref f8))) (l8 : K.lookup f8 = some ⟨oc8, od8, .func (PySem.W.fnOf "symbol_at_prime" "symbol_at_prime" (defArgs s_symbol_at_prime) (defBody s_symbol_at_prime) (defScope s_symbol_at_prime) .none kV8 dc8 pm8 an8 cd8 ct8), sl8⟩) (c8 : PySem.W.codeIn K cd8 "symbol_at_prime" = true) (k8 : PySem.W.keepIn K (.ref f8) = true)
    (a9 : PySem.W.nsIn K mainGlobals "symbol" = some (some (.ref f9))) (l9 : K.lookup f9 = some ⟨oc9, od9, .func (PySem.W.fnOf "symbol" "symbol" (defArgs s_symbol) (defBody s_symbol) (defScope s_symbol) .none kV9 dc9 pm9 an9 cd9 ct9), sl9⟩) (c9 : PySem.W.codeIn K cd9 "symbol" = true) (k9 : PySem.W.keepIn K (.ref f9) = true)
    (a10 : PySem.W.nsIn K mainGlobals "_law_well" = some (some (.ref f10))) (l10 : K.lookup f10 = some ⟨oc10, od10, .func (PySem.W.fnOf "_law_well" "_law_well" (defArgs s__law_well) (defBody s__law_well) (defScope s__law_well) .none kV10 dc10 pm10 an10 cd10 ct10), sl10⟩) (c10 : PySem.W.codeIn K cd10 "_law_well" = true) (k10 : PySem.W.keepIn K (.ref f10) = true)
    (a11 : PySem.W.nsIn K mainGlobals "_law_draw" = some (some (.ref f11))) (l11 : K.lookup f11 = some ⟨oc11, od11, .func (PySem.W.fnOf "_law_draw" "_law_draw" (defArgs s__law_draw) (defBody s__law_draw) (defScope s__law_draw) .none kV11 dc11 pm11 an11 cd11 ct11), sl11⟩) (c11 : PySem.W.codeIn K cd11 "_law_draw" = true) (k11 : PySem.W.keepIn K (.ref f11) = true)
    (a12 : PySem.W.nsIn K mainGlobals "_law_one" = some (some (.ref f12))) (l12 : K.lookup f12 = some ⟨oc12, od12, .func (PySem.W.fnOf "_law_one" "_law_one" (defArgs s__law_one) (defBody s__law_one) (defScope s__law_one) .none kV12 dc12 pm12 an12 cd12 ct12), sl12⟩) (c12 : PySem.W.codeIn K cd12 "_law_one" = true) (k12 : PySem.W.keepIn K (.ref f12) = true)
    (a13 : PySem.W.nsIn K mainGlobals "_law_is_whole" = some (some (.ref f13))) (l13 : K.lookup f13 = some ⟨oc13, od13, .func (PySem.W.fnOf "_law_is_whole" "_law_is_whole" (defArgs s__law_is_whole) (defBody s__law_is_whole) (defScope s__law_is_whole) .none kV13 dc13 pm13 an13 cd13 ct13), sl13⟩) (c13 : PySem.W.codeIn K cd13 "_law_is_whole" = true) (k13 : PySem.W.keepIn K (.ref f13) = true)
    (a14 : PySem.W.nsIn K mainGlobals "_law_odd_thing" = some (some (.ref f14))) (l14 : K.lookup f14 = some ⟨oc14, od14, .func (PySem.W.fnOf "_law_odd_thing" "_law_odd_thing" (defArgs s__law_odd_thing) (defBody s__law_odd_thing) (defScope s__law_odd_thing) .none kV14 dc14 pm14 an14 cd14 ct14), sl14⟩) (c14 : PySem.W.codeIn K cd14 "_law_odd_thing" = true) (k14 : PySem.W.keepIn K (.ref f14) = true)
    (a15 : PySem.W.nsIn K mainGlobals "_law_is_discriminant" = some (some (.ref f15))) (l15 : K.lookup f15 = some ⟨oc15, od15, .func (PySem.W.fnOf "_law_is_discriminant" "_law_is_discriminant" (defArgs s__law_is_discriminant) (defBody s__law_is_discriminant) (defScope s__law_is_discriminant) .none kV15 dc15 pm15 an15 cd15 ct15), sl15⟩) (c15 : PySem.W.codeIn K cd15 "_law_is_discriminant" = true) (k15 : PySem.W.keepIn K (.ref f15) = true)
    (a16 : PySem.W.nsIn K mainGlobals "_law_disc" = some (some (.ref f16))) (l16 : K.lookup f16 = some ⟨oc16, od16, .func (PySem.W.fnOf "_law_disc" "_law_disc" (defArgs s__law_disc) (defBody s__law_disc) (defScope s__law_disc) .none kV16 dc16 pm16 an16 cd16 ct16), sl16⟩) (c16 : PySem.W.codeIn K cd16 "_law_disc" = true) (k16 : PySem.W.keepIn K (.ref f16) = true)
    (a17 : PySem.W.nsIn K mainGlobals "_law_factors" = some (some (.ref f17))) (l17 : K.lookup f17 = some ⟨oc17, od17, .func (PySem.W.fnOf "_law_factors" "_law_factors" (defArgs s__law_factors) (defBody s__law_factors) (defScope s__law_factors) .none kV17 dc17 pm17 an17 cd17 ct17), sl17⟩) (c17 : PySem.W.codeIn K cd17 "_law_factors" = true) (k17 : PySem.W.keepIn K (.ref f17) = true)
    (a18 : PySem.W.nsIn K mainGlobals "_law_symbol_at" = some (some (.ref f18))) (l18 : K.lookup f18 = some ⟨oc18, od18, .func (PySem.W.fnOf "_law_symbol_at" "_law_symbol_at" (defArgs s__law_symbol_at) (defBody s__law_symbol_at) (defScope s__law_symbol_at) .none kV18 dc18 pm18 an18 cd18 ct18), sl18⟩) (c18 : PySem.W.codeIn K cd18 "_law_symbol_at" = true) (k18 : PySem.W.keepIn K (.ref f18) = true)
    (a19 : PySem.W.nsIn K mainGlobals "_law_symbol" = some (some (.ref f19))) (l19 : K.lookup f19 = some ⟨oc19, od19, .func (PySem.W.fnOf "_law_symbol" "_law_symbol" (defArgs s__law_symbol) (defBody s__law_symbol) (defScope s__law_symbol) .none kV19 dc19 pm19 an19 cd19 ct19), sl19⟩) (c19 : PySem.W.codeIn K cd19 "_law_symbol" = true) (k19 : PySem.W.keepIn K (.ref f19) = true)
    (a20 : PySem.W.nsIn K mainGlobals "_law_parts" = some (some (.ref f20))) (l20 : K.lookup f20 = some ⟨oc20, od20, .func (PySem.W.fnOf "_law_parts" "_law_parts" (defArgs s__law_parts) (defBody s__law_parts) (defScope s__law_parts) .none kV20 dc20 pm20 an20 cd20 ct20), sl20⟩) (c20 : PySem.W.codeIn K cd20 "_law_parts" = true) (k20 : PySem.W.keepIn K (.ref f20) = true)
    (a21 : PySem.W.nsIn K mainGlobals "_law_right" = some (some (.ref f21))) (l21 : K.lookup f21 = some ⟨oc21, od21, .func (PySem.W.fnOf "_law_right" "_law_right" (defArgs s__law_right) (defBody s__law_right) (defScope s__law_right) .none kV21 dc21 pm21 an21 cd21 ct21), sl21⟩) (c21 : PySem.W.codeIn K cd21 "_law_right" = true) (k21 : PySem.W.keepIn K (.ref f21) = true)
    (a22 : PySem.W.nsIn K mainGlobals "law" = some (some (.ref f22))) (l22 : K.lookup f22 = some ⟨oc22, od22, .func (PySem.W.fnOf "law" "law" (defArgs s_law) (defBody s_law) (defScope s_law) .none kV22 dc22 pm22 an22 cd22 ct22), sl22⟩) (c22 : PySem.W.codeIn K cd22 "law" = true) (k22 : PySem.W.keepIn K (.ref f22) = true)
    (z_abs : PySem.W.nsIn K mainGlobals "abs" = some none)
    (z_all : PySem.W.nsIn K mainGlobals "all" = some none)
    (z_bool : PySem.W.nsIn K mainGlobals "bool" = some none)
    (z_divmod : PySem.W.nsIn K mainGlobals "divmod" = some none)
    (z_enumerate : PySem.W.nsIn K mainGlobals "enumerate" = some none)
    (z_int : PySem.W.nsIn K mainGlobals "int" = some none)
    (z_isinstance : PySem.W.nsIn K mainGlobals "isinstance" = some none)
    (z_len : PySem.W.nsIn K mainGlobals "len" = some none)
    (z_max : PySem.W.nsIn K mainGlobals "max" = some none)
    (z_min : PySem.W.nsIn K mainGlobals "min" = some none)
    (z_range : PySem.W.nsIn K mainGlobals "range" = some none)
    (z_repr : PySem.W.nsIn K mainGlobals "repr" = some none)
    (z_str : PySem.W.nsIn K mainGlobals "str" = some none) :
    ∃ fd : FuncData, (∀ (s : Shared) (v : Value), BindsTo s fd ⟨[v], []⟩ [("script", v)]) ∧ ∀ base : Heap, K.In base → base.Ns mainGlobals mg → FnG l.prog w K mg base CX0 7 fa fd ["script"] (spF K 1 F_law) := by
  have e := hfa.symm.trans (PySem.W.mg_of X G a22)
  cases e
  have T : Top K mg := ⟨⟨PySem.W.mg_none_of X G z_abs, PySem.W.mg_none_of X G z_all, PySem.W.mg_none_of X G z_bool, PySem.W.mg_none_of X G z_divmod, PySem.W.mg_none_of X G z_enumerate, PySem.W.mg_none_of X G z_int, PySem.W.mg_none_of X G z_isinstance, PySem.W.mg_none_of X G z_len, PySem.W.mg_none_of X G z_max, PySem.W.mg_none_of X G z_min, PySem.W.mg_none_of X G z_range, PySem.W.mg_none_of X G z_repr, PySem.W.mg_none_of X G z_str⟩, ⟨_, _, fun_mk (st := s_is_whole) l0 c0 k0, PySem.W.mg_of X G a0⟩, ⟨_, _, fun_mk (st := s_is_whole_between) l1 c1 k1, PySem.W.mg_of X G a1⟩, ⟨_, _, fun_mk (st := s_prime_parts) l2 c2 k2, PySem.W.mg_of X G a2⟩, ⟨_, _, fun_mk (st := s_power_modulo) l3 c3 k3, PySem.W.mg_of X G a3⟩, ⟨_, _, fun_mk (st := s_is_discriminant) l4 c4 k4, PySem.W.mg_of X G a4⟩, ⟨_, _, fun_mk (st := s_check_discriminant) l5 c5 k5, PySem.W.mg_of X G a5⟩, ⟨_, _, fun_mk (st := s_is_square_part) l6 c6 k6, PySem.W.mg_of X G a6⟩, ⟨_, _, fun_mk (st := s_parts_of) l7 c7 k7, PySem.W.mg_of X G a7⟩, ⟨_, _, fun_mk (st := s_symbol_at_prime) l8 c8 k8, PySem.W.mg_of X G a8⟩, ⟨_, _, fun_mk (st := s_symbol) l9 c9 k9, PySem.W.mg_of X G a9⟩, ⟨_, _, fun_mk (st := s__law_well) l10 c10 k10, PySem.W.mg_of X G a10⟩, ⟨_, _, fun_mk (st := s__law_draw) l11 c11 k11, PySem.W.mg_of X G a11⟩, ⟨_, _, fun_mk (st := s__law_one) l12 c12 k12, PySem.W.mg_of X G a12⟩, ⟨_, _, fun_mk (st := s__law_is_whole) l13 c13 k13, PySem.W.mg_of X G a13⟩, ⟨_, _, fun_mk (st := s__law_odd_thing) l14 c14 k14, PySem.W.mg_of X G a14⟩, ⟨_, _, fun_mk (st := s__law_is_discriminant) l15 c15 k15, PySem.W.mg_of X G a15⟩, ⟨_, _, fun_mk (st := s__law_disc) l16 c16 k16, PySem.W.mg_of X G a16⟩, ⟨_, _, fun_mk (st := s__law_factors) l17 c17 k17, PySem.W.mg_of X G a17⟩, ⟨_, _, fun_mk (st := s__law_symbol_at) l18 c18 k18, PySem.W.mg_of X G a18⟩, ⟨_, _, fun_mk (st := s__law_symbol) l19 c19 k19, PySem.W.mg_of X G a19⟩, ⟨_, _, fun_mk (st := s__law_parts) l20 c20 k20, PySem.W.mg_of X G a20⟩, ⟨_, _, fun_mk (st := s__law_right) l21 c21 k21, PySem.W.mg_of X G a21⟩, ⟨_, _, fun_mk (st := s_law) l22 c22 k22, PySem.W.mg_of X G a22⟩⟩
  exact ⟨PySem.W.fnOf "law" "law" (defArgs s_law) (defBody s_law) (defScope s_law) .none kV22 dc22 pm22 an22 cd22 ct22, fun s v => .of_eq rfl, fun base _ _ => law_ok T (fun_mk (st := s_law) l22 c22 k22)⟩
theorem start_rel {K : PySem.W.Frag} {H : Hp} : Rel K ⟨[], []⟩ [] H := ⟨rfl, List.nodup_nil, fun a h => (by cases h), fun a h => (by cases h), fun i a ds e _ => (by simp at e)⟩
theorem start_ints {K : PySem.W.Frag} {ρ : Rho} {H : Hp} : ∀ ns : List Int, Dens K ρ H (ns.map V.int) (ns.map D.int)
  | [] => .nil
  | n :: r => .cons (.int n) (start_ints r)
theorem start_den {K : PySem.W.Frag} {H : Hp} {a : Addr} {ns : List Int} (h : SqL K H a (ns.map V.int)) : Den K ⟨[], []⟩ H (.ref a) (.frl (ns.map D.int)) := by
  rcases h with h | h
  · exact .frl h (fun z => by rcases z with z | z <;> cases z) (start_ints ns)
  · exact .frlK (fun H => .inr h) (start_ints ns)
theorem walk {l : PySem.W.OpenLaw} {q : Program} {loose : List Str} {XP : (Str → Option Value) → Heap → Prop} {YP : World → Heap → Prop} {d : DefRec} {K : Params → PySem.W.Frag} (hn : l.most = some 63) (hdf : d.params.defaults = [])
    (hY : ∀ (w : World) (h : Heap), YP w h → (K w.params).In h)
    (F : ∀ (w : World) (mg : Str → Option Value) (fa : Addr) (h : Heap), (K w.params).In h → h.Ns mainGlobals mg → mg d.name = some (.ref fa) →
      ∃ fd : FuncData, (∀ (s : Shared) (u : Value), BindsTo s fd ⟨[u], []⟩ [("script", u)]) ∧ ∀ base : Heap, (K w.params).In base → base.Ns mainGlobals mg → FnG l.prog w (K w.params) mg base CX0 7 fa fd ["script"] (spF (K w.params) 1 F_law))
    (main : ∀ ns : List Int, ns.length ≤ 63 → ∃ h', F_law [.frl (ns.map D.int)] [] = some (.bl true, h')) :
    PySem.W.WalkO q loose XP YP l.row.toRowW d [] (fun f vs => PySem.call f vs) := by
  refine walk_ofG (n := 63) (k := 7) (x := "script") (CX := fun _ => CX0) (sp := fun w => spF (K w.params) 1 F_law) hn (by decide) hdf ⟨⟨rfl, by decide, by decide⟩, rfl⟩ hY F (fun w H a ns hl _ hS => ?_) fun _ _ _ _ _ z => z
  obtain ⟨h', e⟩ := main ns hl
  exact ⟨⟨[], []⟩, [], [.frl (ns.map D.int)], .bl true, h', start_rel, .cons (start_den hS) .nil, rfl, e, fun v H' ρ' _ _ dn => den_bl dn⟩
end Law
open PySem PySem.W PyProof.Rows
set_option maxRecDepth 100000 in
set_option maxHeartbeats 0 in
theorem PySem.Challenge.cw_classprimes_k02_discriminants_parts_symb_holds : PySem.Challenge.rw_classprimes_k02_discriminants_parts_symb.Holds := by
  w_on; o_law; k_head; (case hw => w_witness2)
  k_fill
  refine Law.walk (l := PySem.Challenge.rw_classprimes_k02_discriminants_parts_symb) rfl rfl (fun w h Y => PySem.W.kIn_of Y) ?F Law.main
  case F =>
    intro w mg fa h KX G hmg
    refine' Law.all_mk KX G hmg ?a0 ?l0 ?c0 ?k0 ?a1 ?l1 ?c1 ?k1 ?a2 ?l2 ?c2 ?k2 ?a3 ?l3 ?c3 ?k3 ?a4 ?l4 ?c4 ?k4 ?a5 ?l5 ?c5 ?k5 ?a6 ?l6 ?c6 ?k6 ?a7 ?l7 ?c7 ?k7 ?a8 ?l8 ?c8 ?k8 ?a9 ?l9 ?c9 ?k9 ?a10 ?l10 ?c10 ?k10 ?a11 ?l11 ?c11 ?k11 ?a12 ?l12 ?c12 ?k12 ?a13 ?l13 ?c13 ?k13 ?a14 ?l14 ?c14 ?k14 ?a15 ?l15 ?c15 ?k15 ?a16 ?l16 ?c16 ?k16 ?a17 ?l17 ?c17 ?k17 ?a18 ?l18 ?c18 ?k18 ?a19 ?l19 ?c19 ?k19 ?a20 ?l20 ?c20 ?k20 ?a21 ?l21 ?c21 ?k21 ?a22 ?l22 ?c22 ?k22 ?z_abs ?z_all ?z_bool ?z_divmod ?z_enumerate ?z_int ?z_isinstance ?z_len ?z_max ?z_min ?z_range ?z_repr ?z_str
    (case a0 => k_is)
    (case l0 => k_is)
    (case c0 => k_is)
    (case k0 => k_is)
    (case a1 => k_is)
    (case l1 => k_is)
    (case c1 => k_is)
    (case k1 => k_is)
    (case a2 => k_is)
    (case l2 => k_is)
    (case c2 => k_is)
    (case k2 => k_is)
    (case a3 => k_is)
    (case l3 => k_is)
    (case c3 => k_is)
    (case k3 => k_is)
    (case a4 => k_is)
    (case l4 => k_is)
    (case c4 => k_is)
    (case k4 => k_is)
    (case a5 => k_is)
    (case l5 => k_is)
    (case c5 => k_is)
    (case k5 => k_is)
    (case a6 => k_is)
    (case l6 => k_is)
    (case c6 => k_is)
    (case k6 => k_is)
    (case a7 => k_is)
    (case l7 => k_is)
    (case c7 => k_is)
    (case k7 => k_is)
    (case a8 => k_is)
    (case l8 => k_is)
    (case c8 => k_is)
    (case k8 => k_is)
    (case a9 => k_is)
    (case l9 => k_is)
    (case c9 => k_is)
    (case k9 => k_is)
    (case a10 => k_is)
    (case l10 => k_is)
    (case c10 => k_is)
    (case k10 => k_is)
    (case a11 => k_is)
    (case l11 => k_is)
    (case c11 => k_is)
    (case k11 => k_is)
    (case a12 => k_is)
    (case l12 => k_is)
    (case c12 => k_is)
    (case k12 => k_is)
    (case a13 => k_is)
    (case l13 => k_is)
    (case c13 => k_is)
    (case k13 => k_is)
    (case a14 => k_is)
    (case l14 => k_is)
    (case c14 => k_is)
    (case k14 => k_is)
    (case a15 => k_is)
    (case l15 => k_is)
    (case c15 => k_is)
    (case k15 => k_is)
    (case a16 => k_is)
    (case l16 => k_is)
    (case c16 => k_is)
    (case k16 => k_is)
    (case a17 => k_is)
    (case l17 => k_is)
    (case c17 => k_is)
    (case k17 => k_is)
    (case a18 => k_is)
    (case l18 => k_is)
    (case c18 => k_is)
    (case k18 => k_is)
    (case a19 => k_is)
    (case l19 => k_is)
    (case c19 => k_is)
    (case k19 => k_is)
    (case a20 => k_is)
    (case l20 => k_is)
    (case c20 => k_is)
    (case k20 => k_is)
    (case a21 => k_is)
    (case l21 => k_is)
    (case c21 => k_is)
    (case k21 => k_is)
    (case a22 => k_is)
    (case l22 => k_is)
    (case c22 => k_is)
    (case k22 => k_is)
    (case z_abs => k_is)
    (case z_all => k_is)
    (case z_bool => k_is)
    (case z_divmod => k_is)
    (case z_enumerate => k_is)
    (case z_int => k_is)
    (case z_isinstance => k_is)
    (case z_len => k_is)
    (case z_max => k_is)
    (case z_min => k_is)
    (case z_range => k_is)
    (case z_repr => k_is)
    (case z_str => k_is)

