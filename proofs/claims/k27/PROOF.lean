import PyProof.Rows.All
import Wide.All
import OpenK.AllK
import Wide.FinOn
import HandS.ForMost
import HandS.Defaults
import HandS.Wide
import HandS.TupAny
import HandS.IsInst
import HandS.Style
import HandS.WideBits
import HandS.Gcd
import HandS.SortRule
import KE.KRevSl
import Flt.RightSqrt
import HandS.TryOnly
import HandS.SetFor
import HandS.Strs
import HandS.TupSets
import PyProof.Rows.StrOr
import PyProof.ReprBulk
import PyProof.Rows.StrJoinMade
import PySem.Challenge.RW_classprimes_k27_phi_by_own_sums_and_prod
set_option Elab.async false
set_option maxRecDepth 100000
/-! Zc: values as data, cells, what denotes them; readings by functions. -/
namespace Zm
open PySem L2

inductive D where
  | non | bl (b : Bool) | int (i : Int) | str (x : Str) | tup (xs : List D) | lst (xs : List D) | frl (xs : List D) | dic | cell (i : Nat) | ty (n : String) | rng (lo hi : Int) | hid (a : Addr)
  deriving Inhabited
abbrev Cells := List (List D)
/-- the cells, by their numbers; what is hidden (a list that a comprehension is making) -/
structure Rho where
  c : List Addr
  v : List Addr
instance : Membership Addr Rho := ⟨fun ρ a => a ∈ ρ.c ∨ a ∈ ρ.v⟩
theorem Rho.notIn {ρ : Rho} {a : Addr} (h : a ∉ ρ) : a ∉ ρ.c ∧ a ∉ ρ.v := ⟨fun z => h (.inl z), fun z => h (.inr z)⟩
theorem Rho.out {ρ : Rho} {a : Addr} (h1 : a ∉ ρ.c) (h2 : a ∉ ρ.v) : a ∉ ρ := fun z => z.elim h1 h2
structure MS where
  s : List (Option D)
  h : Cells

section
variable (K : PySem.W.Frag) (ρ : Rho) (H : Hp)
mutual
inductive Den : V → D → Prop
  | non : Den .non .non
  | bl (b) : Den (.bl b) (.bl b)
  | int (i) : Den (.int i) (.int i)
  | str (x) : Den (.str x) (.str x)
  | tup {a vs ds} : Rd H a (.tup vs) → a ∉ ρ → Dens vs ds → Den (.ref a) (.tup ds)
  | tupK {a vs ds} : (∀ H, SqT K H a vs) → Dens vs ds → Den (.ref a) (.tup ds)
  | lst {a vs ds} : H a = some (.lst vs) → a ∉ ρ → Dens vs ds → Den (.ref a) (.lst ds)
  | frl {a vs ds} : Rd H a (.lst vs) → a ∉ ρ → Dens vs ds → Den (.ref a) (.frl ds)
  | frlK {a vs ds} : (∀ H, SqL K H a vs) → Dens vs ds → Den (.ref a) (.frl ds)
  | ty (n) : Den (.ty n) (.ty n)
  | dic {a} : H a = some (.dK []) → a ∉ ρ → Den (.ref a) .dic
  | cell {a i} : ρ.c[i]? = some a → Den (.ref a) (.cell i)
  | rng {a lo hi} : H a = some (.rng lo hi) → a ∉ ρ → Den (.ref a) (.rng lo hi)
  | hid (a) : Den (.ref a) (.hid a)
inductive Dens : List V → List D → Prop
  | nil : Dens [] []
  | cons {v d vs ds} : Den v d → Dens vs ds → Dens (v :: vs) (d :: ds)
end
end

/-- what came after: what was there and is no cell stands; cells stay, more may come -/
structure Fut (ρ : Rho) (H : Hp) (ρ' : Rho) (H' : Hp) : Prop where
  keep : ∀ a o, a ∉ ρ.c → H a = some o → H' a = some o
  ext : ∃ more, ρ'.c = ρ.c ++ more
  sub : ∀ a ∈ ρ.v, a ∈ ρ'.v
  hid : ∀ a ∈ ρ'.v, a ∈ ρ.v ∨ (H a = none ∧ a ∉ ρ.c)
  fresh : ∀ a, a ∈ ρ'.c → a ∉ ρ.c → H a = none
theorem Fut.mk1 {ρ : Rho} {H H' : Hp} (h : ∀ a o, a ∉ ρ.c → H a = some o → H' a = some o) : Fut ρ H ρ H' := ⟨h, ⟨[], by simp⟩, fun _ h => h, fun _ h => .inl h, fun _ h n => absurd h n⟩
theorem Fut.refl (ρ : Rho) (H : Hp) : Fut ρ H ρ H := .mk1 fun _ _ _ h => h
theorem Fut.trans {ρ ρ1 ρ2 : Rho} {H H1 H2 : Hp} (a : Fut ρ H ρ1 H1) (b : Fut ρ1 H1 ρ2 H2) : Fut ρ H ρ2 H2 := by
  have back : ∀ x, x ∉ ρ.c → H1 x = none → H x = none := fun x n q => by
    cases e : H x with
    | none => rfl
    | some o => rw [a.keep x o n e] at q; cases q
  refine ⟨fun x o n e => ?_, ?_, fun x h => b.sub x (a.sub x h), fun x h => ?_, fun x h n => ?_⟩
  · refine b.keep x o (fun z => ?_) (a.keep x o n e)
    rw [a.fresh x z n] at e; cases e
  · obtain ⟨m, e1⟩ := a.ext
    obtain ⟨k, e2⟩ := b.ext
    exact ⟨m ++ k, by rw [e2, e1, List.append_assoc]⟩
  · rcases b.hid x h with z | z
    · exact a.hid x z
    · have n : x ∉ ρ.c := fun y => z.2 (by obtain ⟨m, e1⟩ := a.ext; rw [e1]; exact List.mem_append_left _ y)
      exact .inr ⟨back x n z.1, n⟩
  · by_cases z : x ∈ ρ1.c
    · exact a.fresh x z n
    · exact back x n (b.fresh x h z)

section
variable {K : PySem.W.Frag} {ρ ρ' : Rho} {H H' : Hp}
theorem Fut.rd (F : Fut ρ H ρ' H') {a : Addr} {u : HO} (n : a ∉ ρ) (h : Rd H a u) : Rd H' a u := by
  rcases h with h | ⟨o, h⟩
  · exact .inl (F.keep a _ (Rho.notIn n).1 h)
  · exact .inr ⟨o, F.keep a _ (Rho.notIn n).1 h⟩
theorem Fut.out (F : Fut ρ H ρ' H') {a : Addr} {u : HO} (n : a ∉ ρ) (h : Rd H a u) : a ∉ ρ' := by
  refine Rho.out (fun z => ?_) fun z => ?_
  · have q := F.fresh a z (Rho.notIn n).1
    rcases h with h | ⟨o, h⟩ <;> (rw [q] at h; cases h)
  · rcases F.hid a z with y | q
    · exact (Rho.notIn n).2 y
    · rcases h with h | ⟨o, h⟩ <;> (rw [q.1] at h; cases h)
theorem Fut.cellAt (F : Fut ρ H ρ' H') {a : Addr} {i : Nat} (h : ρ.c[i]? = some a) : ρ'.c[i]? = some a := by
  obtain ⟨m, e⟩ := F.ext
  obtain ⟨hl, _⟩ := List.getElem?_eq_some_iff.mp h
  rw [e, List.getElem?_append_left hl, h]
mutual
theorem Den.fut (F : Fut ρ H ρ' H') : ∀ {v : V} {d : D}, Den K ρ H v d → Den K ρ' H' v d
  | _, _, .non => .non
  | _, _, .bl b => .bl b
  | _, _, .int i => .int i
  | _, _, .str x => .str x
  | _, _, .tup h n ds => .tup (F.rd n h) (F.out n h) (Dens.fut F ds)
  | _, _, .tupK h ds => .tupK h (Dens.fut F ds)
  | _, _, .lst h n ds => .lst (F.keep _ _ (Rho.notIn n).1 h) (F.out n (.inl h)) (Dens.fut F ds)
  | _, _, .frl h n ds => .frl (F.rd n h) (F.out n h) (Dens.fut F ds)
  | _, _, .frlK h ds => .frlK h (Dens.fut F ds)
  | _, _, .ty n => .ty n
  | _, _, .dic h n => .dic (F.keep _ _ (Rho.notIn n).1 h) (F.out n (.inl h))
  | _, _, .rng h n => .rng (F.keep _ _ (Rho.notIn n).1 h) (F.out n (.inl h))
  | _, _, .hid a => .hid a
  | _, _, .cell h => .cell (F.cellAt h)
theorem Dens.fut (F : Fut ρ H ρ' H') : ∀ {vs : List V} {ds : List D}, Dens K ρ H vs ds → Dens K ρ' H' vs ds
  | _, _, .nil => .nil
  | _, _, .cons a b => .cons (Den.fut F a) (Dens.fut F b)
end
theorem Dens.length : ∀ {vs : List V} {ds : List D}, Dens K ρ H vs ds → vs.length = ds.length
  | _, _, .nil => rfl
  | _, _, .cons _ b => congrArg Nat.succ b.length
theorem Dens.get : ∀ {vs : List V} {ds : List D} {i : Nat} {d : D}, Dens K ρ H vs ds → ds[i]? = some d → ∃ v, vs[i]? = some v ∧ Den K ρ H v d
  | _, _, _, _, .nil, e => by simp at e
  | _, _, 0, _, .cons a _, e => by simp at e; subst e; exact ⟨_, rfl, a⟩
  | _, _, i + 1, _, .cons _ b, e => by
    obtain ⟨v, h1, h2⟩ := Dens.get (i := i) b (by simpa using e)
    exact ⟨v, by simpa using h1, h2⟩
theorem Dens.append : ∀ {vs ws : List V} {ds es : List D}, Dens K ρ H vs ds → Dens K ρ H ws es → Dens K ρ H (vs ++ ws) (ds ++ es)
  | _, _, _, _, .nil, s => s
  | _, _, _, _, .cons r t, s => .cons r (Dens.append t s)
theorem Dens.set {v : V} {d : D} (r : Den K ρ H v d) : ∀ {vs : List V} {ds : List D} (i : Nat), Dens K ρ H vs ds → Dens K ρ H (vs.set i v) (ds.set i d)
  | _, _, _, .nil => .nil
  | _, _, 0, .cons _ t => .cons r t
  | _, _, i + 1, .cons q t => .cons q (Dens.set r i t)
theorem Dens.take : ∀ {vs : List V} {ds : List D} (n : Nat), Dens K ρ H vs ds → Dens K ρ H (vs.take n) (ds.take n)
  | _, _, 0, _ => .nil
  | _, _, _ + 1, .nil => .nil
  | _, _, n + 1, .cons r t => .cons r (Dens.take n t)
theorem Dens.drop : ∀ {vs : List V} {ds : List D} (n : Nat), Dens K ρ H vs ds → Dens K ρ H (vs.drop n) (ds.drop n)
  | _, _, 0, r => r
  | _, _, _ + 1, .nil => .nil
  | _, _, n + 1, .cons _ t => Dens.drop n t
theorem Dens.reverse : ∀ {vs : List V} {ds : List D}, Dens K ρ H vs ds → Dens K ρ H vs.reverse ds.reverse
  | _, _, .nil => .nil
  | _, _, .cons r t => by simpa using Dens.append t.reverse (.cons r .nil)
end

/-- the cells stand -/
structure Rel (K : PySem.W.Frag) (ρ : Rho) (h : Cells) (H : Hp) : Prop where
  len : ρ.c.length = h.length
  nd : ρ.c.Nodup
  apart : ∀ a, a ∈ ρ.c → a ∉ ρ.v
  hidden : ∀ a ∈ ρ.v, ∃ o, H a = some o
  at_ : ∀ (i : Nat) a ds, ρ.c[i]? = some a → h[i]? = some ds → ∃ vs, H a = some (.lst vs) ∧ Dens K ρ H vs ds
def Slots (K : PySem.W.Frag) (ρ : Rho) (H : Hp) (l : List (Option D)) (σ : St) : Prop :=
  l.length = σ.length ∧ ∀ (i : Nat) d, l[i]? = some (some d) → ∃ v, σ[i]? = some (some v) ∧ Den K ρ H v d
theorem Slots.fut {K : PySem.W.Frag} {ρ ρ' : Rho} {H H' : Hp} {l : List (Option D)} {σ : St} (S : Slots K ρ H l σ) (F : Fut ρ H ρ' H') : Slots K ρ' H' l σ :=
  ⟨S.1, fun i d e => let ⟨v, h1, h2⟩ := S.2 i d e; ⟨v, h1, h2.fut F⟩⟩
theorem Slots.set {K : PySem.W.Frag} {ρ : Rho} {H : Hp} {l : List (Option D)} {σ : St} (S : Slots K ρ H l σ) (i : Nat) {v : V} {d : D} (r : Den K ρ H v d) : Slots K ρ H (l.set i (some d)) (σ.set i (some v)) := by
  refine ⟨by simp [S.1], fun j e h => ?_⟩
  by_cases hj : i = j
  · subst hj
    by_cases hl : i < l.length
    · rw [List.getElem?_set_self hl] at h
      cases h
      exact ⟨v, List.getElem?_set_self (by rw [← S.1]; exact hl), r⟩
    · rw [List.getElem?_eq_none (by simpa using Nat.le_of_not_lt hl)] at h; cases h
  · rw [List.getElem?_set_ne hj] at h
    obtain ⟨w, h1, h2⟩ := S.2 j e h
    exact ⟨w, by rw [List.getElem?_set_ne hj]; exact h1, h2⟩
theorem Slots.wipe {K : PySem.W.Frag} {ρ : Rho} {H : Hp} {l : List (Option D)} {σ : St} (S : Slots K ρ H l σ) : ∀ vs : List Nat, Slots K ρ H (vs.foldr (fun v l => l.set v none) l) (L2.wipe σ vs)
  | [] => S
  | v :: vs => by
    have T := S.wipe vs
    refine ⟨by simpa [L2.wipe] using T.1, fun j e h => ?_⟩
    simp only [List.foldr_cons] at h
    by_cases hj : v = j
    · subst hj
      by_cases hl : v < (vs.foldr (fun v l => l.set v none) l).length
      · rw [List.getElem?_set_self hl] at h; cases h
      · rw [List.getElem?_eq_none (by simpa using Nat.le_of_not_lt hl)] at h; cases h
    · rw [List.getElem?_set_ne hj] at h
      obtain ⟨w, h1, h2⟩ := T.2 j e h
      exact ⟨w, by show ((L2.wipe σ vs).set v none)[j]? = _; rw [List.getElem?_set_ne hj]; exact h1, h2⟩

abbrev ME := MS → Option (D × Cells)
abbrev MT := MS → Option (Bool × Cells)
abbrev MA := MS → Option (List D × Cells)
inductive Out where
  | nx | ret (d : D) | bk | ct
abbrev MB := MS → Option (Out × MS)
abbrev MG := D → MS → Option MS

section
variable (K : PySem.W.Frag)
def rdE (f : ME) : TE := fun σ H Q => ∃ ρ ms d h', Rel K ρ ms.h H ∧ Slots K ρ H ms.s σ ∧ f ms = some (d, h') ∧ ∀ v H' ρ', Fut ρ H ρ' H' → Rel K ρ' h' H' → Den K ρ' H' v d → Q v H'
def rdT (f : MT) : TT := fun σ H Q => ∃ ρ ms b h', Rel K ρ ms.h H ∧ Slots K ρ H ms.s σ ∧ f ms = some (b, h') ∧ ∀ H' ρ', Fut ρ H ρ' H' → Rel K ρ' h' H' → Q b H'
def rdA (f : MA) : TA := fun σ H Q => ∃ ρ ms ds h', Rel K ρ ms.h H ∧ Slots K ρ H ms.s σ ∧ f ms = some (ds, h') ∧ ∀ vs H' ρ', Fut ρ H ρ' H' → Rel K ρ' h' H' → Dens K ρ' H' vs ds → Q vs H'
def endsOf (ρ : Rho) (H : Hp) (D : Ends) (l : List (Option Zm.D)) : Out → Prop
  | .nx => ∀ σ', Slots K ρ H l σ' → D.nx σ' H
  | .ret d => ∀ v, Den K ρ H v d → D.rt v H
  | .bk => ∀ σ', Slots K ρ H l σ' → D.bk σ' H
  | .ct => ∀ σ', Slots K ρ H l σ' → D.ct σ' H
def rdB (f : MB) : TS := fun D σ H => ∃ ρ ms o ms', Rel K ρ ms.h H ∧ Slots K ρ H ms.s σ ∧ f ms = some (o, ms') ∧ ∀ H' ρ', Fut ρ H ρ' H' → Rel K ρ' ms'.h H' → endsOf K ρ' H' D ms'.s o
def rdG (g : MG) : TG := fun v σ H Q => ∃ ρ ms d ms', Rel K ρ ms.h H ∧ Slots K ρ H ms.s σ ∧ Den K ρ H v d ∧ g d ms = some ms' ∧ ∀ H' ρ' σ', Fut ρ H ρ' H' → Rel K ρ' ms'.h H' → Slots K ρ' H' ms'.s σ' → Q σ' H'
end
abbrev EV (X : Cx) (e : Expr) (f : ME) : Prop := PE X e (rdE X.K f)
abbrev TV (X : Cx) (e : Expr) (f : MT) : Prop := PT X e (rdT X.K f)
abbrev AV (X : Cx) (es : List Expr) (f : MA) : Prop := PA X es (rdA X.K f)
abbrev BV (X : Cx) (st : Stmt) (f : MB) : Prop := PS X st (rdB X.K f)
abbrev BVs (X : Cx) (st : List Stmt) (f : MB) : Prop := PSs X st (rdB X.K f)
abbrev GV (X : Cx) (e : Expr) (g : MG) : Prop := PG X e (rdG X.K g)

section
variable {X : Cx}
theorem pe_w {e : Expr} {t t' : TE} (h : PE X e t) (w : ∀ σ H Q, t' σ H Q → t σ H Q) : PE X e t' := ⟨fun pins s σ H Q I q => h.run pins s σ H Q I (w σ H Q q)⟩
theorem pt_w {e : Expr} {t t' : TT} (h : PT X e t) (w : ∀ σ H Q, t' σ H Q → t σ H Q) : PT X e t' := ⟨fun pins s σ H Q I q => h.run pins s σ H Q I (w σ H Q q)⟩
theorem pw_w {e : Expr} {t t' : TT} (h : PW X e t) (w : ∀ σ H Q, t' σ H Q → t σ H Q) : PW X e t' := ⟨fun wh pins s σ H Q I q => h.run wh pins s σ H Q I (w σ H Q q)⟩
theorem pa_w {e : List Expr} {t t' : TA} (h : PA X e t) (w : ∀ σ H Q, t' σ H Q → t σ H Q) : PA X e t' := ⟨fun pos pins s σ H Q I q => h.run pos pins s σ H Q I (w σ H Q q)⟩
theorem ps_w {e : Stmt} {t t' : TS} (h : PS X e t) (w : ∀ D σ H, t' D σ H → t D σ H) : PS X e t' := ⟨fun pins s σ H D I q => h.run pins s σ H D I (w D σ H q)⟩
theorem pss_w {e : List Stmt} {t t' : TS} (h : PSs X e t) (w : ∀ D σ H, t' D σ H → t D σ H) : PSs X e t' := ⟨fun pins s σ H D I q => h.run pins s σ H D I (w D σ H q)⟩
theorem pg_w {e : Expr} {t t' : TG} (h : PG X e t) (w : ∀ v σ H Q, t' v σ H Q → t v σ H Q) : PG X e t' := ⟨fun pins s σ H v u Q I r q => h.run pins s σ H v u Q I r (w v σ H Q q)⟩

/-! ### names and constants -/
def mVar (i : Nat) : ME := fun ms => match ms.s[i]? with
  | some (some d) => some (d, ms.h)
  | _ => none
def mC (d : D) : ME := fun ms => some (d, ms.h)
theorem rd_var {K : PySem.W.Frag} {i : Nat} {σ : St} {H : Hp} {Q : VK} (h : rdE K (mVar i) σ H Q) : tVar i σ H Q := by
  obtain ⟨ρ, ms, d, h', R, S, e, q⟩ := h
  unfold mVar at e
  split at e
  · rename_i d' hd
    cases e
    obtain ⟨v, h1, h2⟩ := S.2 i _ hd
    exact ⟨v, h1, q v H ρ (.refl ρ H) R h2⟩
  · cases e
theorem ev_var (i : Nat) {x : Str} {pos : Pos} (hN : X.N[i]? = some x := by rfl) (hv : Vis X.env.scope x := by first | exact Or.inl rfl | exact Or.inr (Or.inl rfl) | exact Or.inr (Or.inr rfl)) (hd : (x == ("__debug__" : Str)) = false := by decide)
    (hcd : (x == ("__classdict__" : Str)) = false := by decide) : EV X (.Name x pos) (mVar i) := pe_w (pe_var hN hv hd hcd) fun _ _ _ => rd_var
theorem rd_c {K : PySem.W.Frag} {d : D} {v : V} (hd : ∀ ρ H, Den K ρ H v d) {σ : St} {H : Hp} {Q : VK} (h : rdE K (mC d) σ H Q) : tC v σ H Q := by
  obtain ⟨ρ, ms, d', h', R, S, e, q⟩ := h
  cases e
  exact q v H ρ (.refl ρ H) R (hd ρ H)
theorem ev_int {i j pos} : EV X (.Constant (.int i) j pos) (mC (.int i)) := pe_w pe_int fun _ _ _ => rd_c fun _ _ => .int i
theorem ev_bl {i j pos} : EV X (.Constant (.bool i) j pos) (mC (.bl i)) := pe_w pe_bl fun _ _ _ => rd_c fun _ _ => .bl i
theorem ev_non {j pos} : EV X (.Constant .none j pos) (mC .non) := pe_w pe_non fun _ _ _ => rd_c fun _ _ => .non
theorem ev_str {x j pos} : EV X (.Constant (.str x) j pos) (mC (.str x)) := pe_w pe_str fun _ _ _ => rd_c fun _ _ => .str x

/-! ### two expressions in a row -/
theorem rd2 {K : PySem.W.Frag} {f g : ME} {o : Cells → D → D → Option D} {σ : St} {H : Hp} {R : V → V → Hp → Prop} {Q : VK}
    (h : rdE K (fun ms => do let (x, h1) ← f ms; let (y, h2) ← g { ms with h := h1 }; let d ← o h2 x y; some (d, h2)) σ H Q)
    (k : ∀ ρ h2 H2 x y dx dy d, Rel K ρ h2 H2 → Den K ρ H2 x dx → Den K ρ H2 y dy → o h2 dx dy = some d → (∀ v H' ρ', Fut ρ H2 ρ' H' → Rel K ρ' h2 H' → Den K ρ' H' v d → Q v H') → R x y H2) :
    rdE K f σ H fun x H1 => rdE K g σ H1 fun y H2 => R x y H2 := by
  obtain ⟨ρ, ms, d, h', R0, S, e, q⟩ := h
  cases e1 : f ms with
  | none => simp [e1] at e
  | some r =>
    obtain ⟨dx, h1⟩ := r
    cases e2 : g { ms with h := h1 } with
    | none => simp [e1, e2] at e
    | some r =>
      obtain ⟨dy, h2⟩ := r
      cases e3 : o h2 dx dy with
      | none => simp [e1, e2, e3] at e
      | some r =>
        simp [e1, e2, e3] at e
        obtain ⟨rfl, rfl⟩ := e
        refine ⟨ρ, ms, dx, h1, R0, S, e1, fun x H1 ρ1 F1 R1 dn1 => ?_⟩
        refine ⟨ρ1, { ms with h := h1 }, dy, h2, R1, S.fut F1, e2, fun y H2 ρ2 F2 R2 dn2 => ?_⟩
        exact k ρ2 h2 H2 x y dx dy r R2 (dn1.fut F2) dn2 e3 fun v H' ρ' F3 R3 dn3 => q v H' ρ' ((F1.trans F2).trans F3) R3 dn3
/-- an operation on values as a function of data -/
def Op2 (K : PySem.W.Frag) (r : R2) (o : Cells → D → D → Option D) : Prop :=
  ∀ ρ h H x y dx dy d (Q : VK), Rel K ρ h H → Den K ρ H x dx → Den K ρ H y dy → o h dx dy = some d → (∀ v H' ρ', Fut ρ H ρ' H' → Rel K ρ' h H' → Den K ρ' H' v d → Q v H') → r x y H Q
def mBin (o : Cells → D → D → Option D) (f g : ME) : ME := fun ms => do let (x, h1) ← f ms; let (y, h2) ← g { ms with h := h1 }; let d ← o h2 x y; some (d, h2)
theorem ev_bin {a b : Expr} {pos : Pos} {op : Operator} {r : R2} {o : Cells → D → D → Option D} {f g : ME} (ho : OpR X (binaryOp op) r) (p : Op2 X.K r o) (ha : EV X a f) (hb : EV X b g) : EV X (.BinOp a op b pos) (mBin o f g) :=
  pe_w (pe_op ho ha hb) fun _ _ _ h => rd2 h fun ρ h2 H2 x y dx dy d R a b e k => p ρ h2 H2 x y dx dy d _ R a b e k
theorem ev_cmp {a b : Expr} {pos : Pos} {op : CmpOp} {r : R2} {o : Cells → D → D → Option D} {f g : ME} (ho : OpR X (compareOp op) r) (p : Op2 X.K r o) (ha : EV X a f) (hb : EV X b g) (hm : behindInMarks op b = false) : EV X (.Compare a [op] [b] pos) (mBin o f g) :=
  pe_w (pe_cmpR ho ha hb hm) fun _ _ _ h => rd2 h fun ρ h2 H2 x y dx dy d R a b e k => p ρ h2 H2 x y dx dy d _ R a b e k
/-- a comparison as a test: o tells a bool -/
def mTBin (o : Cells → D → D → Option Bool) (f g : ME) : MT := fun ms => do let (x, h1) ← f ms; let (y, h2) ← g { ms with h := h1 }; let d ← o h2 x y; some (d, h2)
def oB (o : Cells → D → D → Option Bool) : Cells → D → D → Option D := fun h x y => (o h x y).map D.bl
theorem den_bl {K : PySem.W.Frag} {ρ : Rho} {H : Hp} {v : V} {b : Bool} (h : Den K ρ H v (.bl b)) : v = .bl b := by cases h; rfl
theorem den_int {K : PySem.W.Frag} {ρ : Rho} {H : Hp} {v : V} {b : Int} (h : Den K ρ H v (.int b)) : v = .int b := by cases h; rfl
theorem den_str {K : PySem.W.Frag} {ρ : Rho} {H : Hp} {v : V} {b : Str} (h : Den K ρ H v (.str b)) : v = .str b := by cases h; rfl
theorem den_non {K : PySem.W.Frag} {ρ : Rho} {H : Hp} {v : V} (h : Den K ρ H v .non) : v = .non := by cases h; rfl
theorem tv_cmp {a b : Expr} {pos : Pos} {op : CmpOp} {r : R2} {o : Cells → D → D → Option Bool} {f g : ME} (ho : OpR X (compareOp op) r) (p : Op2 X.K r (oB o)) (ha : EV X a f) (hb : EV X b g) (hm : behindInMarks op b = false) : TV X (.Compare a [op] [b] pos) (mTBin o f g) := by
  refine pt_w (pt_cmpR ho ha hb hm) fun σ H Q h => ?_
  obtain ⟨ρ, ms, d, h', R0, S, e, q⟩ := h
  refine rd2 (o := oB o) (Q := fun x H' => ∃ k, x = .bl k ∧ Q k H') ⟨ρ, ms, .bl d, h', R0, S, ?_, fun v H' ρ' F R dn => ⟨d, den_bl dn, q H' ρ' F R⟩⟩ fun ρ h2 H2 x y dx dy d R a b e k => p ρ h2 H2 x y dx dy d _ R a b e k
  unfold mTBin at e
  cases e1 : f ms with
  | none => simp [e1] at e
  | some r =>
    obtain ⟨dx, h1⟩ := r
    cases e2 : g { ms with h := h1 } with
    | none => simp [e1, e2] at e
    | some r =>
      obtain ⟨dy, h2⟩ := r
      cases e3 : o h2 dx dy with
      | none => simp [e1, e2, e3] at e
      | some r =>
        simp [e1, e2, e3] at e
        obtain ⟨rfl, rfl⟩ := e
        simp [e1, e2, oB, e3]
end
end Zm

set_option Elab.async false
set_option linter.all false
set_option maxRecDepth 100000
/-! Zg: defs that are called where no guard stands (so that repr of tuples and lists is known to go). -/
namespace Zm
open PySem PySem.Spec PyProof.Rows L2
structure RoomG (k : Nat) (A : Around) : Prop where
  r : Room k A
  g : A.guards = some []
theorem RoomG.deeper {k : Nat} {A : Around} (h : RoomG (k + 1) A) (env : Env) : RoomG k (A.deeper env) := ⟨h.r.deeper env, h.g⟩
theorem RoomG.mono {j k : Nat} {A : Around} (h : RoomG k A) (l : j ≤ k) : RoomG j A := ⟨h.r.mono l, h.g⟩
theorem RoomG.depth {k : Nat} {A : Around} (h : RoomG k A) : A.depth < recursionLimit := h.r.depth
theorem RoomG.hdv {k : Nat} {A : Around} (h : RoomG k A) : A.handled = none := h.r.hd
structure FnG (P : Program) (w : World) (K : PySem.W.Frag) (mg : Str → Option Value) (base : Heap) (CX : CXT) (k : Nat) (f : Addr) (fd : FuncData) (ps : List Str) (sp : Sp) : Prop where
  len : ∀ vz Hh Qq E, sp vz Hh Qq E → vz.length = ps.length
  run : ∀ (A : Around) (oute : List Env) (s : Shared) (Hh : Hp) (args : Args) (uz : List Value) (vz : List V) (Qq : VK) (E : XK), RoomG k A → Env0 P w K mg base A oute s Hh → BindsTo s fd args (ps.zip uz) → Vals vz uz → sp vz Hh Qq E →
    codeAny (model P w) A (.call (.ref f) args) (CR CX oute P w Hh s Qq E) s
theorem FnG.mono {P : Program} {w : World} {K : PySem.W.Frag} {mg : Str → Option Value} {base : Heap} {CX : CXT} {j k : Nat} {f : Addr} {fd : FuncData} {ps : List Str} {sp : Sp} (F : FnG P w K mg base CX j f fd ps sp) (h : j ≤ k) :
    FnG P w K mg base CX k f fd ps sp := ⟨F.len, fun A oute s Hh args uz vz Qq E hroom => F.run A oute s Hh args uz vz Qq E (hroom.mono h)⟩
section
variable {X : Cx} {CX : CXT} {k : Nat} {f C : Addr} {fd : FuncData} {ps ks : List Str} {sp : Sp} {dvs : List V} {ds : List Value} {E : XK} {x m : Str} {p pos apos : Pos} {e o : Expr} {ez : List Expr} {ta : TE} {t : TA}
variable {g : List Value → List Value → List Value} {gV : List V → List V → List V}
theorem run_fnG {pinz : List (Addr × Obj)} {σ : L2.St} {Hh : Hp} {s : Shared} {Qq : VK} {uz : List Value} {vz : List V} (Fg : FnG X.prog X.w X.K X.mg X.base CX k f fd ps sp) (hroom : RoomG k X.A) (hbi : Binds X.K fd ps ds) (hdv : Vals dvs ds) (hpas : Passes CX X E)
    (I : Inv X pinz σ Hh s) (r : Vals vz uz) (h : sp (vz ++ dvs) Hh Qq E) : wpAny (model X.prog X.w) X.A (call (.ref f) uz) (EP X pinz σ Qq) X.xe s := by
  have r2 : Vals (vz ++ dvs) (uz ++ ds) := r.append hdv
  have hl : (uz ++ ds).length = ps.length := by rw [← r2.length]; exact Fg.len _ _ _ _ h
  refine wpAny_call (codeAny_mono (Fg.run X.A X.stack s Hh ⟨uz, []⟩ (uz ++ ds) (vz ++ dvs) Qq E hroom I.env0 (hbi s uz I.kIn hl) r2 h) fun r sn hqq => ?_)
  cases r with
  | error e => exact hpas pinz σ Hh s e sn I hqq
  | ok fl =>
    cases fl with
    | ret u => exact I.after hqq
    | next => exact False.elim hqq
    | brk => exact False.elim hqq
    | cont => exact False.elim hqq

theorem pe_callG (Fg : FnG X.prog X.w X.K X.mg X.base CX k f fd ps sp) (hroom : RoomG k X.A) (hgl : Gl X x) (hmg : X.mg x = some (.ref f)) (hkp : PySem.W.keepIn X.K (.ref f) = true) (hbi : Binds X.K fd ps ds) (hdv : Vals dvs ds) (hpas : Passes CX X E)
    (hargs : PA X (e :: ez) t) (hdb : (x == ("__debug__" : Str)) = false := by decide) (he : starEach (e :: ez) X.env = (false, eval e X.env) :: starEach ez X.env := by rfl) (hpl : (backTo pos (starEach ez X.env)).any (·.1) = false := by rfl) :
    PE X (.Call (.Name x p) (e :: ez) [] pos) (tCall sp dvs E t) := by
  refine ⟨fun pinz s σ Hh Qq I h => ?_⟩
  refine wpAny_Call_Name_kw (ld_glob I hgl hmg ?_ hdb)
  refine PySem.W.callWith_K (h₀ := X.base) I.ok.mod.kin hkp (thn (hargs.run pos pinz s σ Hh _ I h) fun uz s1 ⟨vz, H1, I1, r, q⟩ => ⟨I1.kIn, ?_⟩) he hpl
  exact run_fnG Fg hroom hbi hdv hpas I1 r q
theorem pe_call0G (Fg : FnG X.prog X.w X.K X.mg X.base CX k f fd ps sp) (hroom : RoomG k X.A) (hgl : Gl X x) (hmg : X.mg x = some (.ref f)) (hkp : PySem.W.keepIn X.K (.ref f) = true) (hbi : Binds X.K fd ps ds) (hdv : Vals dvs ds) (hpas : Passes CX X E)
    (hdb : (x == ("__debug__" : Str)) = false := by decide) : PE X (.Call (.Name x p) [] [] pos) (tCall sp dvs E tNil) := by
  refine ⟨fun pinz s σ Hh Qq I h => ?_⟩
  refine wpAny_Call_Name_kw (ld_glob I hgl hmg ?_ hdb)
  exact PySem.W.callWith_K0 I.kIn hkp (run_fnG (uz := []) Fg hroom hbi hdv hpas I .nil h)

theorem run_fnkG {pinz : List (Addr × Obj)} {σ : L2.St} {Hh : Hp} {s : Shared} {Qq : VK} {uz wz : List Value} {vz zz : List V} (Fg : FnG X.prog X.w X.K X.mg X.base CX k f fd ps sp) (hroom : RoomG k X.A) (hbi : KBinds X.K fd ps ks g gV) (hpas : Passes CX X E)
    (I : Inv X pinz σ Hh s) (r : Vals vz uz) (rz : Vals zz wz) (h : sp (gV vz zz) Hh Qq E) : wpAny (model X.prog X.w) X.A (call (.ref f) uz (ks.zip wz)) (EP X pinz σ Qq) X.xe s := by
  have r2 := hbi.rel r rz
  have hl : (g uz wz).length = ps.length := by rw [← r2.length]; exact Fg.len _ _ _ _ h
  refine wpAny_call (codeAny_mono (Fg.run X.A X.stack s Hh ⟨uz, ks.zip wz⟩ (g uz wz) (gV vz zz) Qq E hroom I.env0 (hbi.to s uz wz I.kIn hl) r2 h) fun r sn hqq => ?_)
  cases r with
  | error e => exact hpas pinz σ Hh s e sn I hqq
  | ok fl =>
    cases fl with
    | ret u => exact I.after hqq
    | next => exact False.elim hqq
    | brk => exact False.elim hqq
    | cont => exact False.elim hqq
end
theorem fn_ofG {CX : CXT} {P : Program} {w : World} {K : PySem.W.Frag} {mg : Str → Option Value} {base : Heap} {k : Nat} {f : Addr} {name qual : Str} {params : Arguments} {body : List Stmt} {scope : Scope} {dV kV doc pm cdv ct oc : Value} {an od : Option Addr}
    {osl : Array (Option Value)} {N ps : List Str} {sp : Sp} (lk : K.lookup f = some ⟨oc, od, .func (PySem.W.fnOf name qual params body scope dV kV doc pm an cdv ct), osl⟩) (hcd : PySem.W.codeIn K cdv qual = true) (S : FnScope N ps scope)
    (len : ∀ vz Hh Qq E, sp vz Hh Qq E → vz.length = ps.length)
    (hwalk : ∀ (A : Around) (oute : List Env) (s : Shared) (Hh : Hp) (vz : List V) (Qq : VK) (E : XK), RoomG k (A.deeper (envOfC qual scope s.heap.objs.size f cdv)) → sp vz Hh Qq E →
      ∃ t, PSs (cxOf CX P w K mg base N qual scope f cdv A oute s Hh E) body t ∧ t { nx := fun _ H' => Qq .non H', rt := Qq } (start N vz) Hh) :
    FnG P w K mg base CX (k + 1) f (PySem.W.fnOf name qual params body scope dV kV doc pm an cdv ct) ps sp := by
  refine ⟨len, fun A oute s Hh args uz vz Qq E hroom env_0 hbi r hspec => ?_⟩
  have hl := len _ _ _ _ hspec
  have Kin : K.In s.heap := env_0.mod.kin.keeps fun b o e => (env_0.bs b o e).1
  have lim : s.heap.NoLimit := env_0.mod.nolimit.keeps fun b o e => (env_0.bs b o e).1
  have hkind : ∀ y ∈ ps.zip uz, scope.names.lookup y.1 = some .local ∨ (scope.names.lookup y.1 = some .cell ∧ ((cellsFrom (s.heap.objs.size + 1) scope.names []).lookup y.1).isSome = true) := fun ⟨n, v⟩ hy => by
    rcases S.par n (List.of_mem_zip hy).1 with q | q
    · exact .inl q
    · exact .inr ⟨q, PySem.W.cellsFrom_some _ _ _ (.inl q)⟩
  refine codeAny_call_function hroom.depth (Kin _ _ lk) rfl S.co S.gen rfl (PySem.W.codeRec_of Kin hcd) (hbi _ _ _ _ ?_)
  refine wpAny_newFunctionEnv_cells S.kind hkind fun env he s1 x => ?_
  subst he
  refine ⟨lim.keeps x.toInCall.keep, codeAny_func ?_⟩
  obtain ⟨t, ht, hqq⟩ := hwalk A oute s Hh vz Qq E (hroom.deeper _) hspec
  have I : Inv (cxOf CX P w K mg base N qual scope f cdv A oute s Hh E) [] (start N vz) Hh s1 := inv_start S hroom.hdv env_0 hl r x
  refine wpAny_mono (ht.run [] s1 (start N vz) Hh _ I hqq) (fun fl sn hs => ?_) fun e sn hs => hs
  have fin : ∀ {σ' : L2.St} {H' : Hp} {v : V} {u : Value}, Inv (cxOf CX P w K mg base N qual scope f cdv A oute s Hh E) [] σ' H' sn → RelV v u → Qq v H' → CE oute P w Hh s Qq u sn :=
    fun {σ' H' v u} J rv q => ⟨v, H', J.os, J.bare, J.base, J.hok, rv, q⟩
  cases fl with
  | ret u =>
    obtain ⟨v, σ', H', J, rv, q⟩ := hs
    exact fin J rv q
  | next =>
    obtain ⟨σ', H', J, q⟩ := hs
    exact fin (v := V.non) (u := Value.none) J rfl q
  | brk =>
    obtain ⟨_, _, _, q⟩ := hs
    exact False.elim q
  | cont =>
    obtain ⟨_, _, _, q⟩ := hs
    exact False.elim q
theorem law_callG {P : Program} {w : World} {K : PySem.W.Frag} {mg mb : Str → Option Value} {CX : CXT} {k : Nat} {fa a : Addr} {fd : FuncData} {x : Str} {sp : Sp} {sv : Shared} {vz : List Value} {ns : List Int}
    (Kin : K.In sv.heap) (hns : sv.heap.Ns mainGlobals mg) (hbi : sv.heap.Ns builtinsNs mb) (hbb : ∀ x : Str, x ≠ "__name__" → mb x = bootBuiltins x) (hlim : sv.heap.NoLimit) (hgl : sv.gens = #[])
    (hargs : sv.heap.get? a = some { cls := .type "list", data := .seq vz.toArray }) (hi : IntsAre vz ns) (hl : ns.length ≤ sizeLine) (hroom : RoomG k callerA)
    (Fg : ∀ base : Heap, K.In base → base.Ns mainGlobals mg → FnG P w K mg base CX k fa fd [x] sp) (hbind : ∀ (s : Shared) (u : Value), BindsTo s fd ⟨[u], []⟩ [(x, u)])
    (hspec : ∀ Hh : Hp, Only Hh → SqL K Hh a (ns.map V.int) → sp [.ref a] Hh (fun v _ => v = .bl true) fun _ _ _ => False)
    (hCX : ∀ Hh e sn, CX [] Hh sv (fun _ _ _ => False) e sn → False) :
    codeAny (model P w) callerA (.call (.ref fa) ⟨[.ref a], []⟩) (fun r sn => r = .ok (.ret (.bool true)) ∧ OldK sv.heap sn.heap ∧ sn.os = sv.os ∧ AllBare sn.gens) sv := by
  have rv := vals_ints hi
  have lenV := hi.length
  -- from an abstract heap in which nothing but the script may be tracked
  have kern : ∀ Hh : Hp, Only Hh → SqL K Hh a (ns.map V.int) → HOk P w Hh sv.heap → (∀ b, Hh b ≠ none → b = a) → (Hh a ≠ none → K.lookup a = none) →
      codeAny (model P w) callerA (.call (.ref fa) ⟨[.ref a], []⟩) (fun r sn => r = .ok (.ret (.bool true)) ∧ OldK sv.heap sn.heap ∧ sn.os = sv.os ∧ AllBare sn.gens) sv := by
    intro Hh hOnly hS hok hA hK
    have baseOf : ∀ {b : Addr} {o : Obj}, sv.heap.get? b = some o → Hh b = none → (hidT sv.heap Hh).get? b = some o := fun e n => hidT_get e n
    have noAt : ∀ {b : Addr} {o : Obj} {ez : Array DictEntry} {ep : Nat}, sv.heap.get? b = some o → o.data = .dict ez ep → Hh b = none := fun {b o ez ep} e d => by
      cases q : Hh b with
      | none => rfl
      | some u =>
        have e' : b = a := hA b (by rw [q]; simp)
        subst e'
        rw [hargs] at e; cases e
        have d' : Data.seq vz.toArray _ = Data.dict ez ep := d
        cases d'
    have nsKeep : ∀ {b : Addr} {m : Str → Option Value}, sv.heap.Ns b m → (hidT sv.heap Hh).Ns b m := fun {b m} ⟨o, ez, ep, e, d, r⟩ => ⟨o, ez, ep, baseOf e (noAt e d), d, r⟩
    have hKb : K.In (hidT sv.heap Hh) := fun b o e => baseOf (Kin b o e) (by
      cases q : Hh b with
      | none => rfl
      | some u =>
        have e' : b = a := hA b (by rw [q]; simp)
        subst e'
        rw [hK (by rw [q]; simp)] at e; cases e)
    have hM : Mod K mg (hidT sv.heap Hh) := ⟨hKb, nsKeep hns, ⟨mb, nsKeep hbi, hbb⟩, let ⟨mc, h1, h2⟩ := hlim; ⟨mc, nsKeep h1, h2⟩⟩
    have env_0 : Env0 P w K mg (hidT sv.heap Hh) callerA [] sv Hh := ⟨rfl, hM, fun b o e => of_hidT e, Nat.le_of_eq (hidT_size _ _), trivial, fun b hbi => absurd (show b ∈ ([] : List Addr) from hbi) (by simp), hok, .of_eq hgl⟩
    refine codeAny_mono ((Fg _ hKb (nsKeep hns)).run callerA [] sv Hh ⟨[.ref a], []⟩ [.ref a] [.ref a] _ _ hroom env_0 (hbind sv (.ref a)) (.cons rfl .nil) (hspec Hh hOnly hS)) fun r sn h => ?_
    cases r with
    | error e => exact (hCX Hh e sn h).elim
    | ok fl =>
      cases fl with
      | next => exact False.elim h
      | brk => exact False.elim h
      | cont => exact False.elim h
      | ret u =>
        obtain ⟨v, H', os, bare, un, hok', r', q⟩ := h
        have q' : v = .bl true := q
        subst q'
        obtain rfl : u = Value.bool true := r'
        refine ⟨rfl, OldK.of_keep fun b o e => ?_, os, bare⟩
        cases q : Hh b with
        | none => exact un.keep b o e q (by intro z; exact absurd (show b ∈ ([] : List Addr) from z) (by simp)) (by simp)
        | some u =>
          rcases hOnly b with z | ⟨ob, xs, z⟩
          · rw [q] at z; cases z
          · have z2 := un.frzs b ob _ z
            obtain ⟨e1, _⟩ := hok b _ z
            obtain ⟨e2, _⟩ := hok' b _ z2
            rw [e] at e1; cases e1
            exact e2
  cases hkp : K.lookup a with
  | some o =>
    -- the script is one of the module's own objects
    have e := Kin a o hkp
    rw [hargs] at e
    cases e
    refine kern (fun _ => none) (fun _ => .inl rfl) (.inr ⟨_, vz.toArray, _, hkp, rfl, rfl, rfl, by rw [List.size_toArray, lenV]; exact hl, by simpa using rv⟩) (fun b u z => by have z' : (none : Option HO) = some u := z; cases z') (fun b z => absurd rfl z) fun z => absurd rfl z
  | none =>
    refine kern (fun b => if b = a then some (.frz { cls := .type "list", data := .seq vz.toArray } (.lst (ns.map V.int))) else none) (fun b => ?_) (.inl (.inr ⟨{ cls := .type "list", data := .seq vz.toArray }, if_pos rfl⟩)) (fun b u z => ?_) (fun b z => ?_) fun _ => hkp
    · by_cases hbi : b = a
      · exact .inr ⟨_, _, if_pos hbi⟩
      · exact .inl (if_neg hbi)
    · by_cases hbi : b = a
      · have z' := (if_pos hbi).symm.trans z
        cases z'
        subst hbi
        exact ⟨hargs, by rw [List.length_map]; exact hl, vz, _, rv, hargs⟩
      · have z' := (if_neg hbi).symm.trans z
        cases z'
    · by_cases hbi : b = a
      · exact hbi
      · exact absurd (if_neg hbi) z
theorem walk_ofG {l : PySem.W.OpenLaw} {n k : Nat} {q : Program} {loose : List Str} {XP : (Str → Option Value) → Heap → Prop} {YP : World → Heap → Prop} {d : DefRec} {K : Params → PySem.W.Frag} {CX : World → CXT} {sp : World → Sp} {x : Str}
    (hn : l.most = some n) (hn2 : n ≤ sizeLine) (hdf : d.params.defaults = []) (hroom : RoomG k callerA)
    (hY : ∀ (w : World) (h : Heap), YP w h → (K w.params).In h)
    (Fg : ∀ (w : World) (mg : Str → Option Value) (fa : Addr) (h : Heap), (K w.params).In h → h.Ns mainGlobals mg → mg d.name = some (.ref fa) →
      ∃ fd : FuncData, (∀ (s : Shared) (u : Value), BindsTo s fd ⟨[u], []⟩ [(x, u)]) ∧
        ∀ base : Heap, (K w.params).In base → base.Ns mainGlobals mg → FnG l.prog w (K w.params) mg base (CX w) k fa fd [x] (sp w))
    (hspec : ∀ (w : World) (Hh : Hp) (a : Addr) (ns : List Int), ns.length ≤ n → Only Hh → SqL (K w.params) Hh a (ns.map V.int) → sp w [.ref a] Hh (fun v _ => v = .bl true) fun _ _ _ => False)
    (hCX : ∀ (w : World) (Hh : Hp) (s : Shared) (e : Value) (sn : Shared), CX w [] Hh s (fun _ _ _ => False) e sn → False) :
    PySem.W.WalkO q loose XP YP l.row.toRowW d [] (fun f vz => PySem.call f vz) := by
  refine Att.attach_call hn hdf fun w s₀ sv mg mb fa o pm cd doc a vz ns G Y ho hdv hcd hmg hobj hints hlen hgl => ?_
  have Kin := hY w _ Y
  obtain ⟨fd, hbi, hF⟩ := Fg w mg fa _ Kin G.T.g hmg
  exact law_callG Kin G.T.g G.T.b G.T.builtins G.T.nolimit hgl hobj hints (Nat.le_trans hlen hn2) hroom hF hbi (fun Hh hOnly hS => hspec w Hh a ns hlen hOnly hS) fun Hh e sn => hCX w Hh sv e sn
end Zm

set_option Elab.async false
set_option maxRecDepth 100000
/-! Zd: tests, argument lists, displays, calls, statements, loops. -/
namespace Zm
open PySem L2
section
variable {X : Cx}

/-! ### tests -/
def truthD : Cells → D → Option Bool
  | _, .non => some false
  | _, .bl b => some b
  | _, .int i => some (i != 0)
  | _, .tup ds => some !ds.isEmpty
  | _, .lst ds => some !ds.isEmpty
  | _, .frl ds => some !ds.isEmpty
  | h, .cell i => (h[i]?).map fun ds => !ds.isEmpty
  | _, _ => none
theorem dens_empty {K : PySem.W.Frag} {ρ : Rho} {H : Hp} {vs : List V} {ds : List D} (h : Dens K ρ H vs ds) : (!ds.isEmpty) = !vs.isEmpty := by cases h <;> rfl
theorem truV_of {K : PySem.W.Frag} {ρ : Rho} {h : Cells} {H : Hp} {x : V} {d : D} {b : Bool} (R : Rel K ρ h H) (dn : Den K ρ H x d) (e : truthD h d = some b) : TruV K x H b := by
  cases dn with
  | non => cases e; exact (rfl : false = false)
  | bl b => cases e; exact (rfl : b = b)
  | int i => cases e; exact (rfl : (i != 0) = (i != 0))
  | str x => cases e
  | tup r n ds => cases e; exact .inr (.inl ⟨_, .inl r, dens_empty ds⟩)
  | tupK r ds => cases e; exact .inr (.inl ⟨_, r H, dens_empty ds⟩)
  | lst r n ds => cases e; exact .inl ⟨_, SqL.of r, dens_empty ds⟩
  | frl r n ds => cases e; exact .inl ⟨_, .inl r, dens_empty ds⟩
  | frlK r ds => cases e; exact .inl ⟨_, r H, dens_empty ds⟩
  | ty n => cases e
  | dic r n => cases e
  | rng r n => cases e
  | hid a => cases e
  | cell c =>
    simp only [truthD, Option.map_eq_some_iff] at e
    obtain ⟨ds, e1, e2⟩ := e
    obtain ⟨vs, h1, h2⟩ := R.at_ _ _ _ c e1
    exact .inl ⟨vs, SqL.of h1, by rw [← e2, dens_empty h2]⟩
def mTru (f : ME) : MT := fun ms => (f ms).bind fun r => (truthD r.2 r.1).map fun b => (b, r.2)
theorem tv_val {e : Expr} {f : ME} (h : EV X e f) (he : ∀ whole, isTrue e X.env whole = (do let v ← whole; standAt e.pos; holding [v] (truthy v)) := by intro _; rfl) : TV X e (mTru f) := by
  refine pt_w (pt_truth h he) fun σ H Q hw => ?_
  obtain ⟨ρ, ms, b, h', R, S, e, q⟩ := hw
  unfold mTru at e
  obtain ⟨r, e1, e2⟩ := Option.bind_eq_some_iff.mp e
  obtain ⟨b', e3, e4⟩ := Option.map_eq_some_iff.mp e2
  obtain ⟨d, h1⟩ := r
  cases e4
  exact ⟨ρ, ms, d, h1, R, S, e1, fun v H' ρ' F R' dn => ⟨b, truV_of R' dn e3, q H' ρ' F R'⟩⟩
abbrev WV (X : Cx) (e : Expr) (f : MT) : Prop := PW X e (rdT X.K f)
def mAnd (f g : MT) : MT := fun ms => (f ms).bind fun r => bif r.1 then g { ms with h := r.2 } else some (false, r.2)
def mOr (f g : MT) : MT := fun ms => (f ms).bind fun r => bif r.1 then some (true, r.2) else g { ms with h := r.2 }
def mNot (f : MT) : MT := fun ms => (f ms).bind fun r => some (!r.1, r.2)
theorem wv_and1 {a : Expr} {pos : Pos} {f : MT} (h : TV X a f) : WV X (.BoolOp .And [a] pos) f := pw_and1 h
theorem wv_or1 {a : Expr} {pos : Pos} {f : MT} (h : TV X a f) : WV X (.BoolOp .Or [a] pos) f := pw_or1 h
theorem rd_andT {K : PySem.W.Frag} {f g : MT} {σ : St} {H : Hp} {Q : Bool → Hp → Prop} (h : rdT K (mAnd f g) σ H Q) : tAnd (rdT K f) (rdT K g) σ H Q := by
  obtain ⟨ρ, ms, b, h', R, S, e, q⟩ := h
  obtain ⟨r, e1, e2⟩ := Option.bind_eq_some_iff.mp e
  obtain ⟨c, h1⟩ := r
  refine ⟨ρ, ms, c, h1, R, S, e1, fun H1 ρ1 F1 R1 => ?_⟩
  cases c with
  | true => exact ⟨ρ1, { ms with h := h1 }, b, h', R1, S.fut F1, e2, fun H' ρ' F R' => q H' ρ' (F1.trans F) R'⟩
  | false => cases e2; exact q H1 ρ1 F1 R1
theorem rd_orT {K : PySem.W.Frag} {f g : MT} {σ : St} {H : Hp} {Q : Bool → Hp → Prop} (h : rdT K (mOr f g) σ H Q) : tOr (rdT K f) (rdT K g) σ H Q := by
  obtain ⟨ρ, ms, b, h', R, S, e, q⟩ := h
  obtain ⟨r, e1, e2⟩ := Option.bind_eq_some_iff.mp e
  obtain ⟨c, h1⟩ := r
  refine ⟨ρ, ms, c, h1, R, S, e1, fun H1 ρ1 F1 R1 => ?_⟩
  cases c with
  | false => exact ⟨ρ1, { ms with h := h1 }, b, h', R1, S.fut F1, e2, fun H' ρ' F R' => q H' ρ' (F1.trans F) R'⟩
  | true => cases e2; exact q H1 ρ1 F1 R1
theorem wv_and {a b : Expr} {rest : List Expr} {pos : Pos} {f g : MT} (ha : TV X a f) (hb : WV X (.BoolOp .And (b :: rest) pos) g) : WV X (.BoolOp .And (a :: b :: rest) pos) (mAnd f g) := pw_w (pw_and ha hb) fun _ _ _ => rd_andT
theorem wv_or {a b : Expr} {rest : List Expr} {pos : Pos} {f g : MT} (ha : TV X a f) (hb : WV X (.BoolOp .Or (b :: rest) pos) g) : WV X (.BoolOp .Or (a :: b :: rest) pos) (mOr f g) := pw_w (pw_or ha hb) fun _ _ _ => rd_orT
theorem tv_pw {a : Expr} {f : MT} (h : WV X a f) : TV X a f := h.pt
theorem tv_not {a : Expr} {pos : Pos} {f : MT} (ha : TV X a f) : TV X (.UnaryOp .Not a pos) (mNot f) := by
  refine pt_w (pt_not ha) fun σ H Q h => ?_
  obtain ⟨ρ, ms, b, h', R, S, e, q⟩ := h
  obtain ⟨r, e1, e2⟩ := Option.bind_eq_some_iff.mp e
  obtain ⟨c, h1⟩ := r
  cases e2
  exact ⟨ρ, ms, c, h1, R, S, e1, fun H1 ρ1 F1 R1 => q H1 ρ1 F1 R1⟩
/-- as values: bools -/
def asB : D → Option Bool
  | .bl b => some b
  | _ => none
theorem den_asB {K : PySem.W.Frag} {ρ : Rho} {H : Hp} {x : V} {d : D} {c : Bool} (dn : Den K ρ H x d) (e : asB d = some c) : x = .bl c := by
  cases d <;> simp [asB] at e
  subst e
  exact den_bl dn
def mAndV (f g : ME) : ME := fun ms => (f ms).bind fun r => (asB r.1).bind fun c => bif c then g { ms with h := r.2 } else some (.bl false, r.2)
def mOrV (f g : ME) : ME := fun ms => (f ms).bind fun r => (asB r.1).bind fun c => bif c then some (.bl true, r.2) else g { ms with h := r.2 }
def mNotV (f : ME) : ME := fun ms => (f ms).bind fun r => (asB r.1).bind fun c => some (.bl (!c), r.2)
theorem ev_one {a : Expr} {op : _root_.PySem.BoolOp} {pos : Pos} {f : ME} (h : EV X a f) : EV X (.BoolOp op [a] pos) f := pe_one h
theorem ev_and {a b : Expr} {rest : List Expr} {pos : Pos} {f g : ME} (ha : EV X a f) (hb : EV X (.BoolOp .And (b :: rest) pos) g) : EV X (.BoolOp .And (a :: b :: rest) pos) (mAndV f g) := by
  refine pe_w (pe_and ha hb) fun σ H Q h => ?_
  obtain ⟨ρ, ms, d, h', R, S, e, q⟩ := h
  obtain ⟨r, e1, e2⟩ := Option.bind_eq_some_iff.mp e
  obtain ⟨c, e3, e4⟩ := Option.bind_eq_some_iff.mp e2
  obtain ⟨x, h1⟩ := r
  refine ⟨ρ, ms, x, h1, R, S, e1, fun v H1 ρ1 F1 R1 dn => ⟨c, den_asB dn e3, ?_⟩⟩
  cases c with
  | true => exact ⟨ρ1, { ms with h := h1 }, d, h', R1, S.fut F1, e4, fun v H' ρ' F R' dn => q v H' ρ' (F1.trans F) R' dn⟩
  | false => cases e4; exact q _ H1 ρ1 F1 R1 (.bl false)
theorem ev_or {a b : Expr} {rest : List Expr} {pos : Pos} {f g : ME} (ha : EV X a f) (hb : EV X (.BoolOp .Or (b :: rest) pos) g) : EV X (.BoolOp .Or (a :: b :: rest) pos) (mOrV f g) := by
  refine pe_w (pe_or ha hb) fun σ H Q h => ?_
  obtain ⟨ρ, ms, d, h', R, S, e, q⟩ := h
  obtain ⟨r, e1, e2⟩ := Option.bind_eq_some_iff.mp e
  obtain ⟨c, e3, e4⟩ := Option.bind_eq_some_iff.mp e2
  obtain ⟨x, h1⟩ := r
  refine ⟨ρ, ms, x, h1, R, S, e1, fun v H1 ρ1 F1 R1 dn => ⟨c, den_asB dn e3, ?_⟩⟩
  cases c with
  | false => exact ⟨ρ1, { ms with h := h1 }, d, h', R1, S.fut F1, e4, fun v H' ρ' F R' dn => q v H' ρ' (F1.trans F) R' dn⟩
  | true => cases e4; exact q _ H1 ρ1 F1 R1 (.bl true)
theorem ev_not {a : Expr} {pos : Pos} {f : ME} (ha : EV X a f) : EV X (.UnaryOp .Not a pos) (mNotV f) := by
  refine pe_w (pe_not ha) fun σ H Q h => ?_
  obtain ⟨ρ, ms, d, h', R, S, e, q⟩ := h
  obtain ⟨r, e1, e2⟩ := Option.bind_eq_some_iff.mp e
  obtain ⟨c, e3, e4⟩ := Option.bind_eq_some_iff.mp e2
  obtain ⟨x, h1⟩ := r
  cases e4
  exact ⟨ρ, ms, x, h1, R, S, e1, fun v H1 ρ1 F1 R1 dn => ⟨c, den_asB dn e3, q _ H1 ρ1 F1 R1 (.bl _)⟩⟩
def mIf (c : MT) (f g : ME) : ME := fun ms => (c ms).bind fun r => bif r.1 then f { ms with h := r.2 } else g { ms with h := r.2 }
theorem ev_if {c a b : Expr} {pos : Pos} {t : MT} {f g : ME} (hc : TV X c t) (ha : EV X a f) (hb : EV X b g) : EV X (.IfExp c a b pos) (mIf t f g) := by
  refine pe_w (pe_ifExp hc ha hb) fun σ H Q h => ?_
  obtain ⟨ρ, ms, d, h', R, S, e, q⟩ := h
  obtain ⟨r, e1, e2⟩ := Option.bind_eq_some_iff.mp e
  obtain ⟨c, h1⟩ := r
  refine ⟨ρ, ms, c, h1, R, S, e1, fun H1 ρ1 F1 R1 => ?_⟩
  cases c with
  | true => exact ⟨ρ1, { ms with h := h1 }, d, h', R1, S.fut F1, e2, fun v H' ρ' F R' dn => q v H' ρ' (F1.trans F) R' dn⟩
  | false => exact ⟨ρ1, { ms with h := h1 }, d, h', R1, S.fut F1, e2, fun v H' ρ' F R' dn => q v H' ρ' (F1.trans F) R' dn⟩
/-- one operand -/
def Op1 (K : PySem.W.Frag) (r : V → Hp → VK → Prop) (o : Cells → D → Option D) : Prop :=
  ∀ ρ h H x dx d (Q : VK), Rel K ρ h H → Den K ρ H x dx → o h dx = some d → (∀ v H' ρ', Fut ρ H ρ' H' → Rel K ρ' h H' → Den K ρ' H' v d → Q v H') → r x H Q
def mUn (o : Cells → D → Option D) (f : ME) : ME := fun ms => (f ms).bind fun r => (o r.2 r.1).map fun d => (d, r.2)
theorem ev_un {a : Expr} {pos : Pos} {op : UnaryOp} {r : V → Hp → VK → Prop} {o : Cells → D → Option D} {f : ME} (ho : UnR X (unaryOp op) r) (p : Op1 X.K r o) (ha : EV X a f) : EV X (.UnaryOp op a pos) (mUn o f) := by
  refine pe_w (pe_un ho ha) fun σ H Q h => ?_
  obtain ⟨ρ, ms, d, h', R, S, e, q⟩ := h
  obtain ⟨r, e1, e2⟩ := Option.bind_eq_some_iff.mp e
  obtain ⟨x, h1⟩ := r
  obtain ⟨y, e3, e4⟩ := Option.map_eq_some_iff.mp e2
  cases e4
  exact ⟨ρ, ms, x, h1, R, S, e1, fun v H1 ρ1 F1 R1 dn => p ρ1 h1 H1 v x d Q R1 dn e3 fun v H' ρ' F R' dn => q v H' ρ' (F1.trans F) R' dn⟩

/-! ### argument lists, displays -/
def mNil : MA := fun ms => some ([], ms.h)
def mCons (f : ME) (g : MA) : MA := fun ms => (f ms).bind fun r => (g { ms with h := r.2 }).map fun t => (r.1 :: t.1, t.2)
theorem rd_nil {K : PySem.W.Frag} {σ : St} {H : Hp} {Q : List V → Hp → Prop} (h : rdA K mNil σ H Q) : tNil σ H Q := by
  obtain ⟨ρ, ms, d, h', R, S, e, q⟩ := h
  cases e
  exact q [] H ρ (.refl ρ H) R .nil
theorem rd_cons {K : PySem.W.Frag} {f : ME} {g : MA} {σ : St} {H : Hp} {Q : List V → Hp → Prop} (h : rdA K (mCons f g) σ H Q) : tCons (rdE K f) (rdA K g) σ H Q := by
  obtain ⟨ρ, ms, ds, h', R, S, e, q⟩ := h
  obtain ⟨r, e1, e2⟩ := Option.bind_eq_some_iff.mp e
  obtain ⟨t, e3, e4⟩ := Option.map_eq_some_iff.mp e2
  obtain ⟨x, h1⟩ := r
  obtain ⟨xs, h2⟩ := t
  cases e4
  refine ⟨ρ, ms, x, h1, R, S, e1, fun v H1 ρ1 F1 R1 dn => ?_⟩
  exact ⟨ρ1, { ms with h := h1 }, xs, h2, R1, S.fut F1, e3, fun vs H' ρ' F R' dns => q (v :: vs) H' ρ' (F1.trans F) R' (.cons (dn.fut F) dns)⟩
theorem av_nil : AV X [] mNil := pa_w pa_nil fun _ _ _ => rd_nil
theorem av_cons {e : Expr} {es : List Expr} {f : ME} {g : MA} (ha : EV X e f) (hr : AV X es g) (hs : starEach (e :: es) X.env = (false, eval e X.env) :: starEach es X.env := by rfl) : AV X (e :: es) (mCons f g) := pa_w (pa_cons ha hr hs) fun _ _ _ => rd_cons
abbrev KV' (X : Cx) (kws : List Keyword) (f : MA) : Prop := PK X kws (rdA X.K f)
theorem pk_w {kws : List Keyword} {t t' : TA} (h : PK X kws t) (w : ∀ σ H Q, t' σ H Q → t σ H Q) : PK X kws t' := ⟨fun pos pins s σ H Q I q => h.run pos pins s σ H Q I (w σ H Q q)⟩
theorem kv_nil : KV' X [] mNil := pk_w pk_nil fun _ _ _ => rd_nil
theorem kv_cons {e : Expr} {kws : List Keyword} {f : ME} {g : MA} {nm : Option Str} {kpos : Pos} (ha : EV X e f) (hr : KV' X kws g) : KV' X (⟨nm, e, kpos⟩ :: kws) (mCons f g) := pk_w (pk_cons ha hr) fun _ _ _ => rd_cons
abbrev line : Nat := 16777216
theorem line_eq : line = sizeLine := sizeLine_eq.symm
/-- a new object beside what there is -/
theorem fut_new {ρ : Rho} {H : Hp} {p : Addr} (o : HO) (hp : H p = none) : Fut ρ H ρ (upd H p o) :=
  .mk1 fun a u _ e => by rw [upd_ne (ne_of_none e hp)]; exact e
theorem Rel.out {K : PySem.W.Frag} {ρ : Rho} {h : Cells} {H : Hp} (R : Rel K ρ h H) {p : Addr} (hp : H p = none) : p ∉ ρ := by
  refine Rho.out (fun z => ?_) fun z => ?_
  · obtain ⟨i, hi, e⟩ := List.getElem_of_mem z
    have hl : i < h.length := by rw [← R.len]; exact hi
    obtain ⟨vs, q, _⟩ := R.at_ i p h[i] (by rw [List.getElem?_eq_getElem hi, e]) (List.getElem?_eq_getElem hl)
    rw [hp] at q; cases q
  · obtain ⟨o, q⟩ := R.hidden p z
    rw [hp] at q; cases q
theorem Rel.new {K : PySem.W.Frag} {ρ : Rho} {h : Cells} {H : Hp} (R : Rel K ρ h H) {p : Addr} (o : HO) (hp : H p = none) : Rel K ρ h (upd H p o) :=
  ⟨R.len, R.nd, R.apart, fun a ha => let ⟨u, q⟩ := R.hidden a ha; ⟨u, by rw [upd_ne (ne_of_none q hp)]; exact q⟩, fun i a ds e1 e2 => by
    obtain ⟨vs, q, dn⟩ := R.at_ i a ds e1 e2
    exact ⟨vs, by rw [upd_ne (ne_of_none q hp)]; exact q, dn.fut (fut_new o hp)⟩⟩
def mTup (f : MA) : ME := fun ms => (f ms).bind fun r => bif decide (r.1.length ≤ line) then some (.tup r.1, r.2) else none
def mLst (f : MA) : ME := fun ms => (f ms).bind fun r => bif decide (r.1.length ≤ line) then some (.lst r.1, r.2) else none
theorem bif_some {α : Type} {c : Bool} {x : α} {z : α} (h : (bif c then some x else none) = some z) : c = true ∧ x = z := by
  cases c
  · cases h
  · cases h; exact ⟨rfl, rfl⟩
theorem ev_tup {es : List Expr} {k : Nat} {pos : Pos} {f : MA} (h : AV X es f) : EV X (.Tuple es k pos) (mTup f) := by
  refine pe_w (pe_tup h) fun σ H Q h => ?_
  obtain ⟨ρ, ms, d, h', R, S, e, q⟩ := h
  obtain ⟨r, e1, e2⟩ := Option.bind_eq_some_iff.mp e
  obtain ⟨ds, h1⟩ := r
  obtain ⟨hl, e3⟩ := bif_some e2
  cases e3
  refine ⟨ρ, ms, ds, _, R, S, e1, fun vs H1 ρ1 F1 R1 dn => ⟨by rw [dn.length, ← line_eq]; exact of_decide_eq_true hl, fun p hp => ?_⟩⟩
  exact q _ _ ρ1 (F1.trans (fut_new _ hp)) (R1.new _ hp) (.tup (.inl upd_same) (R1.out hp) (dn.fut (fut_new _ hp)))
theorem ev_lst {es : List Expr} {pos : Pos} {f : MA} (h : AV X es f) : EV X (.List es pos) (mLst f) := by
  refine pe_w (pe_lst h) fun σ H Q h => ?_
  obtain ⟨ρ, ms, d, h', R, S, e, q⟩ := h
  obtain ⟨r, e1, e2⟩ := Option.bind_eq_some_iff.mp e
  obtain ⟨ds, h1⟩ := r
  obtain ⟨hl, e3⟩ := bif_some e2
  cases e3
  refine ⟨ρ, ms, ds, _, R, S, e1, fun vs H1 ρ1 F1 R1 dn => ⟨by rw [dn.length, ← line_eq]; exact of_decide_eq_true hl, fun p hp => ?_⟩⟩
  exact q _ _ ρ1 (F1.trans (fut_new _ hp)) (R1.new _ hp) (.lst upd_same (R1.out hp) (dn.fut (fut_new _ hp)))
/-- a list that is to change: a new cell -/
def mLstC (f : MA) : ME := fun ms => (f ms).bind fun r => bif decide (r.1.length ≤ line) then some (.cell r.2.length, r.2 ++ [r.1]) else none
def Rho.add (ρ : Rho) (p : Addr) : Rho := ⟨ρ.c ++ [p], ρ.v⟩
theorem fut_cell {ρ : Rho} {H : Hp} {p : Addr} (o : HO) (hp : H p = none) : Fut ρ H (ρ.add p) (upd H p o) :=
  ⟨fun a u _ e => by rw [upd_ne (ne_of_none e hp)]; exact e, ⟨[p], rfl⟩, fun _ h => h, fun _ h => .inl h, fun a h n => by
    rcases List.mem_append.mp h with z | z
    · exact absurd z n
    · obtain rfl : a = p := by simpa using z
      exact hp⟩
theorem Rel.more {K : PySem.W.Frag} {ρ : Rho} {h : Cells} {H : Hp} (R : Rel K ρ h H) {p : Addr} {vs : List V} {ds : List D} (hp : H p = none) (dn : Dens K ρ H vs ds) : Rel K (ρ.add p) (h ++ [ds]) (upd H p (.lst vs)) := by
  have F := fut_cell (ρ := ρ) (.lst vs) hp
  refine ⟨by simp [Rho.add, R.len], ?_, fun a ha z => ?_, fun a ha => let ⟨u, q⟩ := R.hidden a ha; ⟨u, by rw [upd_ne (ne_of_none q hp)]; exact q⟩, fun i a es e1 e2 => ?_⟩
  · exact List.nodup_append.mpr ⟨R.nd, by simp, fun a ha b hb z => by
      obtain rfl : b = p := by simpa using hb
      subst z
      exact R.out hp (.inl ha)⟩
  · rcases List.mem_append.mp ha with y | y
    · exact R.apart a y z
    · obtain rfl : a = p := by simpa using y
      exact R.out hp (.inr z)
  · simp only [Rho.add] at e1
    by_cases hi : i < ρ.c.length
    · rw [List.getElem?_append_left hi] at e1
      rw [List.getElem?_append_left (by rw [← R.len]; exact hi)] at e2
      obtain ⟨ws, q, d⟩ := R.at_ i a es e1 e2
      exact ⟨ws, by rw [upd_ne (ne_of_none q hp)]; exact q, d.fut F⟩
    · have hi' : i = ρ.c.length := by
        obtain ⟨hl, _⟩ := List.getElem?_eq_some_iff.mp e1
        simp at hl; omega
      subst hi'
      rw [List.getElem?_append_right (Nat.le_refl _)] at e1
      simp at e1
      rw [R.len, List.getElem?_append_right (Nat.le_refl _)] at e2
      simp at e2
      subst e1; subst e2
      exact ⟨vs, upd_same, dn.fut F⟩
theorem ev_lstC {es : List Expr} {pos : Pos} {f : MA} (h : AV X es f) : EV X (.List es pos) (mLstC f) := by
  refine pe_w (pe_lst h) fun σ H Q h => ?_
  obtain ⟨ρ, ms, d, h', R, S, e, q⟩ := h
  obtain ⟨r, e1, e2⟩ := Option.bind_eq_some_iff.mp e
  obtain ⟨ds, h1⟩ := r
  obtain ⟨hl, e3⟩ := bif_some e2
  cases e3
  refine ⟨ρ, ms, ds, _, R, S, e1, fun vs H1 ρ1 F1 R1 dn => ⟨by rw [dn.length, ← line_eq]; exact of_decide_eq_true hl, fun p hp => ?_⟩⟩
  exact q _ _ (ρ1.add p) (F1.trans (fut_cell _ hp)) (R1.more hp dn) (.cell (by rw [← R1.len]; simp [Rho.add]))

/-! ### calls -/
abbrev MF := List D → Cells → Option (D × Cells)
def spF (K : PySem.W.Frag) (n : Nat) (F : MF) : Sp := fun vs H Q _ => ∃ ρ h ds d h', Rel K ρ h H ∧ Dens K ρ H vs ds ∧ ds.length = n ∧ F ds h = some (d, h') ∧ ∀ v H' ρ', Fut ρ H ρ' H' → Rel K ρ' h' H' → Den K ρ' H' v d → Q v H'
def mCall (n : Nat) (F : MF) (f : MA) : ME := fun ms => (f ms).bind fun r => bif r.1.length == n then F r.1 r.2 else none
theorem rd_call {K : PySem.W.Frag} {n : Nat} {F : MF} {f : MA} {σ : St} {H : Hp} {Q : VK} (h : rdE K (mCall n F f) σ H Q) : tCall (spF K n F) [] E0 (rdA K f) σ H Q := by
  obtain ⟨ρ, ms, d, h', R, S, e, q⟩ := h
  obtain ⟨r, e1, e2⟩ := Option.bind_eq_some_iff.mp e
  obtain ⟨ds, h1⟩ := r
  cases hl : (ds.length == n) with
  | false => simp [hl] at e2
  | true =>
    simp only [hl, cond_true] at e2
    refine ⟨ρ, ms, ds, h1, R, S, e1, fun vs H1 ρ1 F1 R1 dn => ?_⟩
    show spF K n F (vs ++ []) H1 Q E0
    rw [List.append_nil]
    exact ⟨ρ1, h1, ds, d, h', R1, dn, by simpa using hl, e2, fun v H' ρ' F2 R2 d2 => q v H' ρ' (F1.trans F2) R2 d2⟩
theorem ev_call {k : Nat} {f : Addr} {fd : FuncData} {ps : List Str} {x : Str} {p pos : Pos} {e : Expr} {es : List Expr} {n : Nat} {F : MF} {fa : MA} (G : FnG X.prog X.w X.K X.mg X.base CX0 k f fd ps (spF X.K n F)) (hr : RoomG k X.A) (hm : X.mg x = some (.ref f)) (hk : PySem.W.keepIn X.K (.ref f) = true) (hb : Binds X.K fd ps [])
    (ha : AV X (e :: es) fa) (hg : Gl X x := by rfl) (hdb : (x == ("__debug__" : Str)) = false := by decide) (he : starEach (e :: es) X.env = (false, eval e X.env) :: starEach es X.env := by rfl) (hpl : (backTo pos (starEach es X.env)).any (·.1) = false := by rfl) :
    EV X (.Call (.Name x p) (e :: es) [] pos) (mCall n F fa) := pe_w (pe_callG G hr hg hm hk hb .nil pass0 ha hdb he hpl) fun _ _ _ => rd_call
/-- f(k = v, ..) alone: g puts the keywords' values in the parameters' order -/
theorem pe_callK0 {CX : CXT} {E : XK} {k : Nat} {f : Addr} {fd : FuncData} {ps ks : List Str} {x : Str} {p pos : Pos} {sp : Sp} {kws : List Keyword} {tk : TA} {g : List Value → List Value → List Value} {gV : List V → List V → List V}
    (F : FnG X.prog X.w X.K X.mg X.base CX k f fd ps sp) (hr : RoomG k X.A) (hg : Gl X x) (hm : X.mg x = some (.ref f)) (hk : PySem.W.keepIn X.K (.ref f) = true) (hb : KBinds X.K fd ps ks g gV) (hx : Passes CX X E)
    (hkw : PK X kws tk) (hall : (backToKw pos (keywordEach kws X.env)).all (·.1.isSome) = true := by rfl) (hks : (backToKw pos (keywordEach kws X.env)).filterMap (·.1) = ks := by rfl)
    (hdb : (x == ("__debug__" : Str)) = false := by decide)
    (hpl : ((backTo pos (starEach [] X.env)).any (·.1) || (backToKw pos (keywordEach kws X.env)).any (·.1.isNone)) = false := by rfl) :
    PE X (.Call (.Name x p) [] kws pos) (tCallK sp gV E tNil tk) := by
  refine ⟨fun pins s σ H Q I h => ?_⟩
  refine wpAny_Call_Name_kw (ld_glob I hg hm ?_ hdb)
  refine PySem.W.callWith_KW0 (h₀ := X.base) I.ok.mod.kin hk hall ?_ hpl
  refine thn (hkw.run pos pins s σ H _ I h) fun ws s2 ⟨zs, H2, I2, rz, q2⟩ => ⟨I2.kIn, ?_⟩
  rw [hks]
  exact run_fnkG F hr hb hx I2 (uz := []) .nil rz q2
/-- the order of keywords: perm of the data -/
def mCallK (n : Nat) (gD : List D → List D → List D) (F : MF) (f g : MA) : ME := fun ms => (f ms).bind fun r => (g { ms with h := r.2 }).bind fun t => bif (gD r.1 t.1).length == n then F (gD r.1 t.1) t.2 else none
def GD (gD : List D → List D → List D) (gV : List V → List V → List V) : Prop := ∀ K ρ H vs ws ds es, Dens K ρ H vs ds → Dens K ρ H ws es → Dens K ρ H (gV vs ws) (gD ds es)
theorem rd_callK {K : PySem.W.Frag} {n : Nat} {gD : List D → List D → List D} {gV : List V → List V → List V} (hG : GD gD gV) {F : MF} {f g : MA} {σ : St} {H : Hp} {Q : VK} (h : rdE K (mCallK n gD F f g) σ H Q) : tCallK (spF K n F) gV E0 (rdA K f) (rdA K g) σ H Q := by
  obtain ⟨ρ, ms, d, h', R, S, e, q⟩ := h
  obtain ⟨r, e1, e2⟩ := Option.bind_eq_some_iff.mp e
  obtain ⟨ds, h1⟩ := r
  obtain ⟨t, e3, e4⟩ := Option.bind_eq_some_iff.mp e2
  obtain ⟨es, h2⟩ := t
  cases hl : ((gD ds es).length == n) with
  | false => simp [hl] at e4
  | true =>
    simp only [hl, cond_true] at e4
    refine ⟨ρ, ms, ds, h1, R, S, e1, fun vs H1 ρ1 F1 R1 dn => ?_⟩
    refine ⟨ρ1, { ms with h := h1 }, es, h2, R1, S.fut F1, e3, fun ws H2 ρ2 F2 R2 dm => ?_⟩
    exact ⟨ρ2, h2, gD ds es, d, h', R2, hG K ρ2 H2 vs ws ds es (dn.fut F2) dm, by simpa using hl, e4, fun v H' ρ' F3 R3 d2 => q v H' ρ' ((F1.trans F2).trans F3) R3 d2⟩
theorem ev_callK0 {k : Nat} {f : Addr} {fd : FuncData} {ps ks : List Str} {x : Str} {p pos : Pos} {kws : List Keyword} {n : Nat} {F : MF} {fk : MA} {g : List Value → List Value → List Value} {gV : List V → List V → List V} {gD : List D → List D → List D}
    (G : FnG X.prog X.w X.K X.mg X.base CX0 k f fd ps (spF X.K n F)) (hr : RoomG k X.A) (hm : X.mg x = some (.ref f)) (hk : PySem.W.keepIn X.K (.ref f) = true) (hb : KBinds X.K fd ps ks g gV) (hG : GD gD gV)
    (hkw : KV' X kws fk) (hg : Gl X x := by rfl) (hall : (backToKw pos (keywordEach kws X.env)).all (·.1.isSome) = true := by rfl) (hks : (backToKw pos (keywordEach kws X.env)).filterMap (·.1) = ks := by rfl)
    (hdb : (x == ("__debug__" : Str)) = false := by decide)
    (hpl : ((backTo pos (starEach [] X.env)).any (·.1) || (backToKw pos (keywordEach kws X.env)).any (·.1.isNone)) = false := by rfl) : EV X (.Call (.Name x p) [] kws pos) (mCallK n gD F mNil fk) := by
  refine pe_w (pe_callK0 G hr hg hm hk hb pass0 hkw hall hks hdb hpl) fun σ H Q h => ?_
  obtain ⟨ρ, ms, ds, h', R, S, e, q⟩ := rd_callK hG h
  cases e
  exact q [] H ρ (.refl _ _) R .nil
/-- built-ins -/
def OpC (K : PySem.W.Frag) (r : List V → Hp → VK → Prop) (o : Cells → List D → Option D) : Prop :=
  ∀ ρ h H xs dxs d (Q : VK), Rel K ρ h H → Dens K ρ H xs dxs → o h dxs = some d → (∀ v H' ρ', Fut ρ H ρ' H' → Rel K ρ' h H' → Den K ρ' H' v d → Q v H') → r xs H Q
def mCB (o : Cells → List D → Option D) (f : MA) : ME := fun ms => (f ms).bind fun r => (o r.2 r.1).map fun d => (d, r.2)
theorem rd_cb {K : PySem.W.Frag} {r : List V → Hp → VK → Prop} {o : Cells → List D → Option D} {f : MA} (p : OpC K r o) {σ : St} {H : Hp} {Q : VK} (h : rdE K (mCB o f) σ H Q) : tCB r (rdA K f) σ H Q := by
  obtain ⟨ρ, ms, d, h', R, S, e, q⟩ := h
  obtain ⟨r, e1, e2⟩ := Option.bind_eq_some_iff.mp e
  obtain ⟨x, h1⟩ := r
  obtain ⟨y, e3, e4⟩ := Option.map_eq_some_iff.mp e2
  cases e4
  exact ⟨ρ, ms, x, h1, R, S, e1, fun v H1 ρ1 F1 R1 dn => p ρ1 h1 H1 v x d Q R1 dn e3 fun v H' ρ' F R' dn => q v H' ρ' (F1.trans F) R' dn⟩
theorem ev_callB {id : String} {r : List V → Hp → VK → Prop} {o : Cells → List D → Option D} {x : Str} {e : Expr} {es : List Expr} {f : MA} {p pos : Pos} (hc : CallR X (.builtin id) r) (po : OpC X.K r o) (hm : X.mg x = none) (hv : bootBuiltins x = some (.builtin id)) (ha : AV X (e :: es) f) (hg : Gl X x := by rfl) (hn : x ≠ "__name__" := by decide) (hdb : (x == ("__debug__" : Str)) = false := by decide)
    (he : starEach (e :: es) X.env = (false, eval e X.env) :: starEach es X.env := by rfl) (hpl : (backTo pos (starEach es X.env)).any (·.1) = false := by rfl) : EV X (.Call (.Name x p) (e :: es) [] pos) (mCB o f) :=
  pe_w (pe_callB hc hg hm hv ha hn hdb he hpl) fun _ _ _ => rd_cb po
theorem ev_callTy {T : String} {r : List V → Hp → VK → Prop} {o : Cells → List D → Option D} {x : Str} {e : Expr} {es : List Expr} {f : MA} {p pos : Pos} (hc : CallR X (.type T) r) (po : OpC X.K r o) (hm : X.mg x = none) (hv : bootBuiltins x = some (.type T)) (ha : AV X (e :: es) f) (hg : Gl X x := by rfl) (hn : x ≠ "__name__" := by decide) (hdb : (x == ("__debug__" : Str)) = false := by decide)
    (he : starEach (e :: es) X.env = (false, eval e X.env) :: starEach es X.env := by rfl) (hpl : (backTo pos (starEach es X.env)).any (·.1) = false := by rfl) : EV X (.Call (.Name x p) (e :: es) [] pos) (mCB o f) :=
  pe_w (pe_callTy hc hg hm hv ha hn hdb he hpl) fun _ _ _ => rd_cb po
end
end Zm

set_option Elab.async false
set_option linter.all false
set_option maxRecDepth 100000
/-! Ze: statements, targets, loops, defs. -/
namespace Zm
open PySem L2
section
variable {X : Cx}

/-! ### statements -/
def mNx : MB := fun ms => some (.nx, ms)
def mNev : MB := fun _ => none
def mBk : MB := fun ms => some (.bk, ms)
def mCt : MB := fun ms => some (.ct, ms)
def mSeq (a b : MB) : MB := fun ms => (a ms).bind fun r => match r.1 with
  | .nx => b r.2
  | o => some (o, r.2)

theorem rd_nx {K : PySem.W.Frag} {D : Ends} {σ : St} {H : Hp} (h : rdB K mNx D σ H) : tNext D σ H := by
  obtain ⟨ρ, ms, o, ms', R, S, e, q⟩ := h
  cases e
  exact q H ρ (.refl ρ H) R σ S
theorem bv_pass {pos : Pos} : BV X (.Pass pos) mNx := ps_w ps_pass fun _ _ _ => rd_nx
theorem bvs_nil : BVs X [] mNx := pss_w pss_nil fun _ _ _ => rd_nx
theorem bv_never {st : Stmt} : BV X st mNev := ps_w ps_never fun D σ H h => by
  obtain ⟨ρ, ms, o, ms', R, S, e, q⟩ := h
  cases e
theorem bv_break {pos : Pos} : BV X (.Break pos) mBk := ps_w ps_break fun D σ H h => by
  obtain ⟨ρ, ms, o, ms', R, S, e, q⟩ := h
  cases e
  exact q H ρ (.refl ρ H) R σ S
theorem bv_continue {pos : Pos} : BV X (.Continue pos) mCt := ps_w ps_continue fun D σ H h => by
  obtain ⟨ρ, ms, o, ms', R, S, e, q⟩ := h
  cases e
  exact q H ρ (.refl ρ H) R σ S
theorem bv_doc {x j pos pos'} : BV X (.Expr (.Constant (.str x) j pos) pos') mNx := ps_w ps_doc fun _ _ _ => rd_nx
theorem endsOf_mono {K : PySem.W.Frag} {ρ : Rho} {H : Hp} {D D' : Ends} {l : List (Option Zm.D)} {o : Out} (h : endsOf K ρ H D l o) (hn : D.nx = D'.nx) (hr : D.rt = D'.rt) (hb : D.bk = D'.bk) (hc : D.ct = D'.ct) : endsOf K ρ H D' l o := by
  cases o
  · rw [endsOf, ← hn]; exact h
  · rw [endsOf, ← hr]; exact h
  · rw [endsOf, ← hb]; exact h
  · rw [endsOf, ← hc]; exact h
theorem bvs_cons {st : Stmt} {rest : List Stmt} {a b : MB} (h1 : BV X st a) (h2 : BVs X rest b) : BVs X (st :: rest) (mSeq a b) := by
  refine pss_w (pss_cons h1 h2) fun D σ H h => ?_
  obtain ⟨ρ, ms, o, ms', R, S, e, q⟩ := h
  obtain ⟨r, e1, e2⟩ := Option.bind_eq_some_iff.mp e
  obtain ⟨o1, ms1⟩ := r
  refine ⟨ρ, ms, o1, ms1, R, S, e1, fun H1 ρ1 F1 R1 => ?_⟩
  cases o1 with
  | nx => exact fun σ' S' => ⟨ρ1, ms1, o, ms', R1, S', e2, fun H' ρ' F R' => q H' ρ' (F1.trans F) R'⟩
  | ret d => cases e2; exact q H1 ρ1 F1 R1
  | bk => cases e2; exact q H1 ρ1 F1 R1
  | ct => cases e2; exact q H1 ρ1 F1 R1
theorem bvs_one {st : Stmt} {a : MB} (h1 : BV X st a) : BVs X [st] a := pss_w (pss_one h1) fun _ _ _ h => h
def mDrop (f : ME) : MB := fun ms => (f ms).map fun r => (.nx, { ms with h := r.2 })
theorem bv_expr {e : Expr} {pos : Pos} {f : ME} (he : EV X e f) (hs : swapsWith e none pos.line X.env = pure false := by rfl) : BV X (.Expr e pos) (mDrop f) := by
  refine ps_w (ps_expr he hs) fun D σ H h => ?_
  obtain ⟨ρ, ms, o, ms', R, S, e, q⟩ := h
  obtain ⟨r, e1, e2⟩ := Option.map_eq_some_iff.mp e
  obtain ⟨d, h1⟩ := r
  cases e2
  exact ⟨ρ, ms, d, h1, R, S, e1, fun v H1 ρ1 F1 R1 dn => q H1 ρ1 F1 R1 σ (S.fut F1)⟩
def mRet (f : ME) : MB := fun ms => (f ms).map fun r => (.ret r.1, { ms with h := r.2 })
theorem bv_ret {e : Expr} {pos : Pos} {f : ME} (he : EV X e f) : BV X (.Return (some e) pos) (mRet f) := by
  refine ps_w (ps_ret he) fun D σ H h => ?_
  obtain ⟨ρ, ms, o, ms', R, S, e, q⟩ := h
  obtain ⟨r, e1, e2⟩ := Option.map_eq_some_iff.mp e
  obtain ⟨d, h1⟩ := r
  cases e2
  exact ⟨ρ, ms, d, h1, R, S, e1, fun v H1 ρ1 F1 R1 dn => q H1 ρ1 F1 R1 v dn⟩
def mRetN : MB := fun ms => some (.ret .non, ms)
theorem bv_retN {pos : Pos} : BV X (.Return none pos) mRetN := ps_w ps_retN fun D σ H h => by
  obtain ⟨ρ, ms, o, ms', R, S, e, q⟩ := h
  cases e
  exact q H ρ (.refl ρ H) R .non .non
def mIfS (c : MT) (a b : MB) : MB := fun ms => (c ms).bind fun r => bif r.1 then a { ms with h := r.2 } else b { ms with h := r.2 }
theorem bv_if {c : Expr} {x y : List Stmt} {pos : Pos} {t : MT} {a b : MB} (hc : TV X c t) (ha : BVs X x a) (hb : BVs X y b) : BV X (.If c x y pos) (mIfS t a b) := by
  refine ps_w (ps_if hc ha hb) fun D σ H h => ?_
  obtain ⟨ρ, ms, o, ms', R, S, e, q⟩ := h
  obtain ⟨r, e1, e2⟩ := Option.bind_eq_some_iff.mp e
  obtain ⟨c, h1⟩ := r
  refine ⟨ρ, ms, c, h1, R, S, e1, fun H1 ρ1 F1 R1 => ?_⟩
  cases c with
  | true => exact ⟨ρ1, { ms with h := h1 }, o, ms', R1, S.fut F1, e2, fun H' ρ' F R' => q H' ρ' (F1.trans F) R'⟩
  | false => exact ⟨ρ1, { ms with h := h1 }, o, ms', R1, S.fut F1, e2, fun H' ρ' F R' => q H' ρ' (F1.trans F) R'⟩

/-! ### targets -/
def gN (i : Nat) : MG := fun d ms => some { ms with s := ms.s.set i (some d) }
theorem gv_name {x : Str} {pos : Pos} (i : Nat) (hN : X.N.Nodup) (hi : X.N[i]? = some x := by rfl) (hx : Loc X.env.scope x := by first | exact Or.inl rfl | exact Or.inr rfl) (hf : X.fn x = true ∨ X.env.scope.names.lookup x = some .local := by first | exact .inl rfl | exact .inr rfl) : GV X (.Name x pos) (gN i) := by
  refine pg_w (pg_name hN hi hx hf) fun v σ H Q h => ?_
  obtain ⟨ρ, ms, d, ms', R, S, dn, e, q⟩ := h
  cases e
  exact q H ρ _ (.refl ρ H) R (S.set i dn)
/-- several, one after another -/
abbrev MGs := List D → MS → Option MS
def rdGs (K : PySem.W.Frag) (g : MGs) : TGs := fun vs σ H Q => ∃ ρ ms ds ms', Rel K ρ ms.h H ∧ Slots K ρ H ms.s σ ∧ Dens K ρ H vs ds ∧ g ds ms = some ms' ∧ ∀ H' ρ' σ', Fut ρ H ρ' H' → Rel K ρ' ms'.h H' → Slots K ρ' H' ms'.s σ' → Q σ' H'
abbrev GVs (X : Cx) (es : List Expr) (g : MGs) : Prop := PGs X es (rdGs X.K g)
def gsNil : MGs := fun ds ms => match ds with
  | [] => some ms
  | _ => none
def gsCons (g : MG) (gs : MGs) : MGs := fun ds ms => match ds with
  | [] => none
  | d :: r => (g d ms).bind (gs r)
theorem pgs_w {es : List Expr} {t t' : TGs} (h : PGs X es t) (w : ∀ v σ H Q, t' v σ H Q → t v σ H Q) : PGs X es t' := ⟨fun pins s σ H v u Q I r q => h.run pins s σ H v u Q I r (w v σ H Q q)⟩
theorem gvs_nil : GVs X [] gsNil := by
  refine pgs_w pgs_nil fun vs σ H Q h => ?_
  obtain ⟨ρ, ms, d, ms', R, S, dn, e, q⟩ := h
  cases dn with
  | nil => cases e; exact ⟨rfl, q H ρ σ (.refl ρ H) R S⟩
  | cons a b => cases e
theorem gvs_cons {e : Expr} {es : List Expr} {g : MG} {gs : MGs} (h1 : GV X e g) (h2 : GVs X es gs)
    (hs : (assignEach (e :: es) X.env).map (·.2) = assign e X.env :: (assignEach es X.env).map (·.2) := by rfl) : GVs X (e :: es) (gsCons g gs) := by
  refine pgs_w (pgs_cons h1 h2 hs) fun vs σ H Q h => ?_
  obtain ⟨ρ, ms, d, ms', R, S, dn, e, q⟩ := h
  cases dn with
  | nil => cases e
  | cons a b =>
    obtain ⟨ms1, e1, e2⟩ := Option.bind_eq_some_iff.mp e
    refine ⟨_, _, rfl, ρ, ms, _, ms1, R, S, a, e1, fun H1 ρ1 σ1 F1 R1 S1 => ?_⟩
    exact ⟨ρ1, ms1, _, ms', R1, S1, b.fut F1, e2, fun H' ρ' σ' F R' S' => q H' ρ' σ' (F1.trans F) R' S'⟩
def gT (n : Nat) (gs : MGs) : MG := fun d ms => match d with
  | .tup ds => bif ds.length == n then gs ds ms else none
  | _ => none
theorem den_tup {K : PySem.W.Frag} {ρ : Rho} {H : Hp} {v : V} {ds : List D} (h : Den K ρ H v (.tup ds)) : ∃ a vs, v = .ref a ∧ SqT K H a vs ∧ Dens K ρ H vs ds := by
  cases h with
  | tup r n d => exact ⟨_, _, rfl, .inl r, d⟩
  | tupK r d => exact ⟨_, _, rfl, r H, d⟩
theorem gv_tup {es : List Expr} {k : Nat} {pos : Pos} {gs : MGs} {n : Nat} (hc : X.calm = true) (h : GVs X es gs)
    (hn : (assignEach es X.env).length = n := by rfl) (hst : (assignEach es X.env).findIdx? (·.1) = none := by rfl) : GV X (.Tuple es k pos) (gT n gs) := by
  refine pg_w (pg_tup hc h hn hst) fun v σ H Q h => ?_
  obtain ⟨ρ, ms, d, ms', R, S, dn, e, q⟩ := h
  cases d <;> simp only [gT] at e <;> try (cases e; done)
  rename_i ds
  obtain ⟨a, vs, rfl, hq, dn⟩ := den_tup dn
  cases hl : (ds.length == n) with
  | false => simp [hl] at e
  | true =>
    simp only [hl, cond_true] at e
    exact ⟨a, vs, rfl, hq, by rw [dn.length]; simpa using hl, ρ, ms, ds, ms', R, S, dn, e, q⟩
def mAsg (f : ME) (g : MG) : MB := fun ms => (f ms).bind fun r => (g r.1 { ms with h := r.2 }).map fun t => (.nx, t)
theorem rd_asg {K : PySem.W.Frag} {f : ME} {g : MG} {D : Ends} {σ : St} {H : Hp} (h : rdB K (mAsg f g) D σ H) : tAsg (rdE K f) (rdG K g) D σ H := by
  obtain ⟨ρ, ms, o, ms', R, S, e, q⟩ := h
  obtain ⟨r, e1, e2⟩ := Option.bind_eq_some_iff.mp e
  obtain ⟨d, h1⟩ := r
  obtain ⟨t, e3, e4⟩ := Option.map_eq_some_iff.mp e2
  cases e4
  refine ⟨ρ, ms, d, h1, R, S, e1, fun v H1 ρ1 F1 R1 dn => ?_⟩
  exact ⟨ρ1, { ms with h := h1 }, d, _, R1, S.fut F1, dn, e3, fun H' ρ' σ' F R' S' => q H' ρ' (F1.trans F) R' σ' S'⟩
theorem rd_asgN {K : PySem.W.Frag} {f : ME} {i : Nat} {D : Ends} {σ : St} {H : Hp} (h : rdB K (mAsg f (gN i)) D σ H) : tAsg (rdE K f) (gName i) D σ H := by
  obtain ⟨ρ, ms, o, ms', R, S, e, q⟩ := h
  obtain ⟨r, e1, e2⟩ := Option.bind_eq_some_iff.mp e
  obtain ⟨d, h1⟩ := r
  cases e2
  exact ⟨ρ, ms, d, h1, R, S, e1, fun v H1 ρ1 F1 R1 dn => q H1 ρ1 F1 R1 _ ((S.fut F1).set i dn)⟩
theorem bv_set {x : Str} {e : Expr} {pos pos' : Pos} {f : ME} (i : Nat) (hN : X.N.Nodup) (he : EV X e f) (hi : X.N[i]? = some x := by rfl) (hx : Loc X.env.scope x := by first | exact Or.inl rfl | exact Or.inr rfl) (hs : swapsWith e (some (.Name x pos')) pos.line X.env = pure false := by rfl)
    (hf : X.fn x = true ∨ X.env.scope.names.lookup x = some .local := by first | exact .inl rfl | exact .inr rfl) : BV X (.Assign [.Name x pos'] e pos) (mAsg f (gN i)) :=
  ps_w (ps_set hN hi hx he hs hf) fun _ _ _ => rd_asgN
theorem bv_asg {tg e : Expr} {pos : Pos} {f : ME} {g : MG} (he : EV X e f) (hg : GV X tg g) (hs : swapsWithSole [tg] e pos.line X.env = pure false := by rfl) (hw : swappedStores [tg] e X.env = pure none := by rfl)
    (h1 : (assignEach [tg] X.env).map (·.2) = [assign tg X.env] := by rfl) : BV X (.Assign [tg] e pos) (mAsg f g) := ps_w (ps_asg he hg hs hw h1) fun _ _ _ => rd_asg

/-! ### while, by fuel -/
def mWhileL (c : MT) (b : MB) : Nat → MB
  | 0, _ => none
  | n + 1, ms => (c ms).bind fun r => bif r.1 then (b { ms with h := r.2 }).bind fun t => (match t.1 with
      | .nx => mWhileL c b n t.2
      | .ct => mWhileL c b n t.2
      | .bk => some (.nx, t.2)
      | .ret d => some (.ret d, t.2)) else some (.nx, { ms with h := r.2 })
def mWhile (fuel : MS → Nat) (c : MT) (b : MB) : MB := fun ms => mWhileL c b (fuel ms) ms
theorem bv_while {c : Expr} {body : List Stmt} {pos : Pos} {t : MT} {b : MB} (fuel : MS → Nat) (hc : TV X c t) (hb : BVs X body b) (hp : PassesOwn (model X.prog X.w) X.A X.env X.xe) : BV X (.While c body [] pos) (mWhile fuel t b) := by
  refine ps_w (ps_while hp hc hb) fun D σ H h => ?_
  obtain ⟨ρ, ms, o, ms', R, S, e, q⟩ := h
  refine ⟨fun m σ1 H1 => ∃ ρ1 ms1, Fut ρ H ρ1 H1 ∧ Rel X.K ρ1 ms1.h H1 ∧ Slots X.K ρ1 H1 ms1.s σ1 ∧ mWhileL t b m ms1 = some (o, ms'), ⟨_, ρ, ms, .refl ρ H, R, S, e⟩, ?_⟩
  rintro m σ1 H1 ⟨ρ1, ms1, F1, R1, S1, e1⟩
  cases m with
  | zero => cases e1
  | succ n =>
    obtain ⟨r, e2, e3⟩ := Option.bind_eq_some_iff.mp e1
    obtain ⟨c', h2⟩ := r
    refine ⟨ρ1, ms1, c', h2, R1, S1, e2, fun H2 ρ2 F2 R2 => ?_⟩
    cases c' with
    | false =>
      cases e3
      exact iteF (q H2 ρ2 (F1.trans F2) R2 σ1 (S1.fut F2))
    | true =>
      obtain ⟨u, e4, e5⟩ := Option.bind_eq_some_iff.mp e3
      obtain ⟨o3, ms3⟩ := u
      refine iteT ⟨fun σ3 H3 => ∃ ρ3 ms3, Fut ρ H ρ3 H3 ∧ Rel X.K ρ3 ms3.h H3 ∧ Slots X.K ρ3 H3 ms3.s σ3 ∧ mWhileL t b n ms3 = some (o, ms'), fun σ' H' w => ⟨n, Nat.lt_succ_self n, w⟩, ?_⟩
      refine ⟨ρ2, { ms1 with h := h2 }, o3, ms3, R2, S1.fut F2, e4, fun H3 ρ3 F3 R3 => ?_⟩
      have F13 := (F1.trans F2).trans F3
      cases o3 with
      | nx => exact fun σ3 S3 => ⟨ρ3, ms3, F13, R3, S3, e5⟩
      | ct => exact fun σ3 S3 => ⟨ρ3, ms3, F13, R3, S3, e5⟩
      | bk => cases e5; exact fun σ3 S3 => q H3 ρ3 F13 R3 σ3 S3
      | ret d => cases e5; exact fun v dn => q H3 ρ3 F13 R3 v dn

/-! ### for, over the items of a source -/
def mForL (g : MG) (b : MB) : List D → MB
  | [], ms => some (.nx, ms)
  | d :: ds, ms => (g d ms).bind fun m1 => (b m1).bind fun t => match t.1 with
      | .nx => mForL g b ds t.2
      | .ct => mForL g b ds t.2
      | .bk => some (.nx, t.2)
      | .ret d => some (.ret d, t.2)
/-- a source: the state to items and cells -/
abbrev MI := MS → Option (List D × Cells)
/-- what a walk J yields is the items ds: at any future of ρ0, H0 -/
def Yields (K : PySem.W.Frag) (ρ0 : Rho) (H0 : Hp) (J : It) (ds : List D) : Prop :=
  ∀ i ρ H h, Fut ρ0 H0 ρ H → Rel K ρ h H → (ds.length ≤ i → J.stop i H) ∧ ∀ d, ds[i]? = some d → J.go i H ∧ ∀ x H', J.yld i H x H' → Fut ρ H ρ H' ∧ Rel K ρ h H' ∧ Den K ρ H' x d
def rdI (K : PySem.W.Frag) (f : MI) : TI := fun σ H Rk => ∃ ρ ms ds h', Rel K ρ ms.h H ∧ Slots K ρ H ms.s σ ∧ f ms = some (ds, h') ∧ ∀ J H' ρ', Fut ρ H ρ' H' → Rel K ρ' h' H' → Yields K ρ' H' J ds → Rk J H'
abbrev IV (X : Cx) (tg iter : Expr) (f : MI) : Prop := PI X tg iter (rdI X.K f)
def mFor (f : MI) (g : MG) (b : MB) : MB := fun ms => (f ms).bind fun r => mForL g b r.1 { ms with h := r.2 }
theorem bv_for {tg iter : Expr} {body : List Stmt} {pos : Pos} {f : MI} {g : MG} {b : MB} (hi : IV X tg iter f) (hg : GV X tg g) (hb : BVs X body b) (hc : X.calm = true) (hp : PassesOwn (model X.prog X.w) X.A X.env X.xe)
    (hs : ∀ x, foldedSetIterable iter X.env x = pure x := by intro _; rfl) : BV X (.For tg iter body [] pos) (mFor f g b) := by
  refine ps_w (ps_for hp hc hi hg hb hs) fun D σ H h => ?_
  obtain ⟨ρ, ms, o, ms', R, S, e, q⟩ := h
  obtain ⟨r, e1, e2⟩ := Option.bind_eq_some_iff.mp e
  obtain ⟨ds, h1⟩ := r
  refine ⟨ρ, ms, ds, h1, R, S, e1, fun J H1 ρ1 F1 R1 Y => ?_⟩
  refine ⟨fun i m σ2 H2 => m = ds.length - i ∧ i ≤ ds.length ∧ ∃ ρ2 ms2, Fut ρ1 H1 ρ2 H2 ∧ Rel X.K ρ2 ms2.h H2 ∧ Slots X.K ρ2 H2 ms2.s σ2 ∧ mForL g b (ds.drop i) ms2 = some (o, ms'), ⟨_, rfl, Nat.zero_le _, ρ1, { ms with h := h1 }, .refl ρ1 H1, R1, S.fut F1, e2⟩, ?_⟩
  rintro i m σ2 H2 ⟨rfl, hi, ρ2, ms2, F2, R2, S2, e3⟩
  obtain ⟨ystop, ygo⟩ := Y i ρ2 H2 ms2.h F2 R2
  by_cases hl : i < ds.length
  · right
    have hd : ds[i]? = some ds[i] := List.getElem?_eq_getElem hl
    obtain ⟨g1, g2⟩ := ygo _ hd
    rw [List.drop_eq_getElem_cons hl] at e3
    obtain ⟨m1, e4, e5⟩ := Option.bind_eq_some_iff.mp e3
    obtain ⟨u, e6, e7⟩ := Option.bind_eq_some_iff.mp e5
    obtain ⟨o3, ms3⟩ := u
    refine ⟨g1, fun σ3 H3 => ∃ ρ3 ms3, Fut ρ1 H1 ρ3 H3 ∧ Rel X.K ρ3 ms3.h H3 ∧ Slots X.K ρ3 H3 ms3.s σ3 ∧ mForL g b (ds.drop (i + 1)) ms3 = some (o, ms'), fun σ' H' w => ⟨ds.length - (i + 1), by omega, rfl, hl, w⟩, fun x H' y => ?_⟩
    obtain ⟨Fy, Ry, dy⟩ := g2 x H' y
    refine ⟨ρ2, ms2, _, m1, Ry, S2.fut Fy, dy, e4, fun H4 ρ4 σ4 F4 R4 S4 => ?_⟩
    refine ⟨ρ4, m1, o3, ms3, R4, S4, e6, fun H5 ρ5 F5 R5 => ?_⟩
    have F15 := ((F2.trans Fy).trans F4).trans F5
    cases o3 with
    | nx => exact fun σ5 S5 => ⟨ρ5, ms3, F15, R5, S5, e7⟩
    | ct => exact fun σ5 S5 => ⟨ρ5, ms3, F15, R5, S5, e7⟩
    | bk => cases e7; exact fun σ5 S5 => q H5 ρ5 (F1.trans F15) R5 σ5 S5
    | ret d => cases e7; exact fun v dn => q H5 ρ5 (F1.trans F15) R5 v dn
  · left
    rw [List.drop_eq_nil_of_le (Nat.le_of_not_lt hl)] at e3
    cases e3
    exact ⟨ystop (Nat.le_of_not_lt hl), q H2 ρ2 (F1.trans F2) R2 σ2 S2⟩
/-- the sources -/
def asL : D → Option (List D)
  | .lst ds => some ds
  | .frl ds => some ds
  | _ => none
def asT : D → Option (List D)
  | .tup ds => some ds
  | _ => none
def iL (f : ME) : MI := fun ms => (f ms).bind fun r => (asL r.1).map fun ds => (ds, r.2)
def iT (f : ME) : MI := fun ms => (f ms).bind fun r => (asT r.1).map fun ds => (ds, r.2)
theorem den_lst {K : PySem.W.Frag} {ρ : Rho} {H : Hp} {v : V} {ds : List D} (h : Den K ρ H v (.lst ds)) : ∃ a vs, v = .ref a ∧ (∀ ρ' H', Fut ρ H ρ' H' → SqL K H' a vs ∧ Dens K ρ' H' vs ds) := by
  cases h with
  | lst r n d => exact ⟨_, _, rfl, fun ρ' H' F => ⟨SqL.of (F.keep _ _ (Rho.notIn n).1 r), d.fut F⟩⟩
theorem den_frl {K : PySem.W.Frag} {ρ : Rho} {H : Hp} {v : V} {ds : List D} (h : Den K ρ H v (.frl ds)) : ∃ a vs, v = .ref a ∧ (∀ ρ' H', Fut ρ H ρ' H' → SqL K H' a vs ∧ Dens K ρ' H' vs ds) := by
  cases h with
  | frl r n d => exact ⟨_, _, rfl, fun ρ' H' F => ⟨.inl (F.rd n r), d.fut F⟩⟩
  | frlK r d => exact ⟨_, _, rfl, fun ρ' H' F => ⟨r H', d.fut F⟩⟩
theorem den_lf {K : PySem.W.Frag} {ρ : Rho} {H : Hp} {v : V} {d : D} {ds : List D} (h : Den K ρ H v d) (e : asL d = some ds) : ∃ a vs, v = .ref a ∧ (∀ ρ' H', Fut ρ H ρ' H' → SqL K H' a vs ∧ Dens K ρ' H' vs ds) := by
  cases d <;> simp only [asL] at e <;> try (cases e; done)
  · cases e; exact den_lst h
  · cases e; exact den_frl h
theorem den_tupF {K : PySem.W.Frag} {ρ : Rho} {H : Hp} {v : V} {ds : List D} (h : Den K ρ H v (.tup ds)) : ∃ a vs, v = .ref a ∧ (∀ ρ' H', Fut ρ H ρ' H' → SqT K H' a vs ∧ Dens K ρ' H' vs ds) := by
  cases h with
  | tup r n d => exact ⟨_, _, rfl, fun ρ' H' F => ⟨.inl (F.rd n r), d.fut F⟩⟩
  | tupK r d => exact ⟨_, _, rfl, fun ρ' H' F => ⟨r H', d.fut F⟩⟩
theorem pi_w {tg iter : Expr} {t t' : TI} (h : PI X tg iter t) (w : ∀ σ H R, t' σ H R → t σ H R) : PI X tg iter t' := ⟨fun pins s σ H R I q => h.run pins s σ H R I (w σ H R q)⟩
theorem iv_list {tg l : Expr} {f : ME} (h : EV X l f) : IV X tg l (iL f) := by
  refine pi_w (pi_list h) fun σ H Rk h => ?_
  obtain ⟨ρ, ms, ds, h', R, S, e, q⟩ := h
  obtain ⟨r, e1, e2⟩ := Option.bind_eq_some_iff.mp e
  obtain ⟨d, h1⟩ := r
  obtain ⟨es, e3, e4⟩ := Option.map_eq_some_iff.mp e2
  cases e4
  refine ⟨ρ, ms, _, _, R, S, e1, fun v H1 ρ1 F1 R1 dn => ?_⟩
  obtain ⟨a, vs, rfl, hq⟩ := den_lf dn e3
  refine ⟨a, rfl, ⟨vs, (hq ρ1 H1 (.refl _ _)).1⟩, q _ _ ρ1 F1 R1 fun i ρ2 H2 h2 F2 R2 => ⟨fun hl => ⟨vs, (hq ρ2 H2 F2).1, by rw [(hq ρ2 H2 F2).2.length]; exact hl⟩, fun d hd => ?_⟩⟩
  obtain ⟨x, hx, dx⟩ := (hq ρ2 H2 F2).2.get hd
  refine ⟨⟨vs, x, (hq ρ2 H2 F2).1, hx⟩, fun y H' hy => ?_⟩
  obtain ⟨rfl, hy⟩ := hy
  have hy' := hy vs (hq ρ2 _ F2).1
  rw [hx] at hy'
  cases hy'
  exact ⟨.refl _ _, R2, dx⟩
theorem iv_tup {tg l : Expr} {f : ME} (h : EV X l f) : IV X tg l (iT f) := by
  refine pi_w (pi_tup h) fun σ H Rk h => ?_
  obtain ⟨ρ, ms, ds, h', R, S, e, q⟩ := h
  obtain ⟨r, e1, e2⟩ := Option.bind_eq_some_iff.mp e
  obtain ⟨d, h1⟩ := r
  obtain ⟨es, e3, e4⟩ := Option.map_eq_some_iff.mp e2
  cases e4
  cases d <;> simp only [asT] at e3 <;> try (cases e3; done)
  cases e3
  refine ⟨ρ, ms, _, _, R, S, e1, fun v H1 ρ1 F1 R1 dn => ?_⟩
  obtain ⟨a, vs, rfl, hq⟩ := den_tupF dn
  refine ⟨a, rfl, ⟨vs, (hq ρ1 H1 (.refl _ _)).1⟩, q _ _ ρ1 F1 R1 fun i ρ2 H2 h2 F2 R2 => ⟨fun hl => ⟨vs, (hq ρ2 H2 F2).1, by rw [(hq ρ2 H2 F2).2.length]; exact hl⟩, fun d hd => ?_⟩⟩
  obtain ⟨x, hx, dx⟩ := (hq ρ2 H2 F2).2.get hd
  refine ⟨⟨vs, x, (hq ρ2 H2 F2).1, hx⟩, fun y H' hy => ?_⟩
  obtain ⟨rfl, hy⟩ := hy
  have hy' := hy vs (hq ρ2 _ F2).1
  rw [hx] at hy'
  cases hy'
  exact ⟨.refl _ _, R2, dx⟩
def intsD (lo : Int) (n : Nat) : List D := (List.range n).map fun (i : Nat) => D.int (lo + (i : Int))
theorem yields_rng {K : PySem.W.Frag} {ρ : Rho} {H : Hp} (lo : Int) (n : Nat) : Yields K ρ H (Itr lo n) (intsD lo n) := by
  intro i ρ2 H2 h2 F2 R2
  refine ⟨fun hl => show n ≤ i by simpa [intsD] using hl, fun d hd => ?_⟩
  have hi : i < n := by
    obtain ⟨hl, _⟩ := List.getElem?_eq_some_iff.mp hd
    simpa [intsD] using hl
  refine ⟨hi, fun x H' hy => ?_⟩
  obtain ⟨rfl, rfl⟩ := hy
  simp [intsD, hi] at hd
  subst hd
  exact ⟨.refl _ _, R2, .int _⟩
def big62 (j : Int) : Bool := decide (-4611686018427387904 ≤ j ∧ j < 4611686018427387904)
def iR1 (f : MA) : MI := fun ms => (f ms).bind fun r => match r.1 with
  | [.int j] => bif big62 j then some (intsD 0 j.toNat, r.2) else none
  | _ => none
def iR2 (f : MA) : MI := fun ms => (f ms).bind fun r => match r.1 with
  | [.int i, .int j] => bif big62 i && big62 j then some (intsD i (j - i).toNat, r.2) else none
  | _ => none
theorem iv_range1 {tg a : Expr} {p pos : Pos} {f : MA} (hm : X.mg "range" = none) (ha : AV X [a] f) (hg : Gl X "range" := by rfl) (hs : starEach [a] X.env = [(false, eval a X.env)] := by rfl) : IV X tg (.Call (.Name "range" p) [a] [] pos) (iR1 f) := by
  refine pi_w (pi_range1 hg hm ha hs) fun σ H Rk h => ?_
  obtain ⟨ρ, ms, ds, h', R, S, e, q⟩ := h
  obtain ⟨r, e1, e2⟩ := Option.bind_eq_some_iff.mp e
  obtain ⟨xs, h1⟩ := r
  dsimp only at e2
  split at e2
  · rename_i j
    obtain ⟨hb, e3⟩ := bif_some e2
    cases e3
    have hb' : -4611686018427387904 ≤ j ∧ j < 4611686018427387904 := of_decide_eq_true hb
    refine ⟨ρ, ms, _, _, R, S, e1, fun vs H1 ρ1 F1 R1 dn => ?_⟩
    cases dn with
    | cons a b =>
      cases b
      exact ⟨j, by rw [den_int a], by omega, by omega, q _ _ ρ1 F1 R1 (yields_rng 0 j.toNat)⟩
  · cases e2
theorem iv_range2 {tg a b : Expr} {p pos : Pos} {f : MA} (hm : X.mg "range" = none) (ha : AV X [a, b] f) (hg : Gl X "range" := by rfl) (hs : starEach [a, b] X.env = [(false, eval a X.env), (false, eval b X.env)] := by rfl) (hs2 : starEach [b] X.env = [(false, eval b X.env)] := by rfl) : IV X tg (.Call (.Name "range" p) [a, b] [] pos) (iR2 f) := by
  refine pi_w (pi_range2 hg hm ha hs hs2) fun σ H Rk h => ?_
  obtain ⟨ρ, ms, ds, h', R, S, e, q⟩ := h
  obtain ⟨r, e1, e2⟩ := Option.bind_eq_some_iff.mp e
  obtain ⟨xs, h1⟩ := r
  dsimp only at e2
  split at e2
  · rename_i i j
    obtain ⟨hb, e3⟩ := bif_some e2
    cases e3
    rw [Bool.and_eq_true] at hb
    have hb1 : -4611686018427387904 ≤ i ∧ i < 4611686018427387904 := of_decide_eq_true hb.1
    have hb2 : -4611686018427387904 ≤ j ∧ j < 4611686018427387904 := of_decide_eq_true hb.2
    refine ⟨ρ, ms, _, _, R, S, e1, fun vs H1 ρ1 F1 R1 dn => ?_⟩
    cases dn with
    | cons a b =>
      cases b with
      | cons b c =>
        cases c
        exact ⟨i, j, by rw [den_int a, den_int b], ⟨by omega, by omega, by omega, by omega⟩, q _ _ ρ1 F1 R1 (yields_rng i _)⟩
  · cases e2
end

/-! ### a def -/
def mFun (n m : Nat) (b : MB) : MF := fun ds h => (b ⟨ds.map some ++ List.replicate (n - m) none, h⟩).bind fun r => match r.1 with
  | .ret d => some (d, r.2.h)
  | .nx => some (.non, r.2.h)
  | _ => none
theorem slots_start {K : PySem.W.Frag} {ρ : Rho} {H : Hp} {N : List Str} {vs : List V} {ds : List D} (dn : Dens K ρ H vs ds) : Slots K ρ H (ds.map some ++ List.replicate (N.length - ds.length) none) (L2.start N vs) := by
  refine ⟨by simp [L2.start, dn.length], fun i d h => ?_⟩
  by_cases hi : i < ds.length
  · rw [List.getElem?_append_left (by simpa using hi), List.getElem?_map] at h
    cases e : ds[i]? with
    | none => rw [e] at h; cases h
    | some d' =>
      rw [e] at h
      cases h
      obtain ⟨v, h1, h2⟩ := dn.get e
      exact ⟨v, by unfold L2.start; rw [List.getElem?_append_left (by simpa [dn.length] using hi), List.getElem?_map, h1]; rfl, h2⟩
  · rw [List.getElem?_append_right (by simpa using Nat.le_of_not_lt hi)] at h
    obtain ⟨_, e⟩ := List.getElem?_eq_some_iff.mp h
    simp at e
theorem fn_ok {P : Program} {w : World} {K : PySem.W.Frag} {mg : Str → Option Value} {base : Heap} {x qual : Str} {st : Stmt} {f : Addr} {fd : FuncData} {N ps : List Str} {k n m : Nat} {b : MB} (F : Fun K x qual st f fd) (S : FnScope N ps (defScope st)) (hn : N.length = n) (hm : ps.length = m)
    (hbody : ∀ (cdv : Value) (A : Around) (outer : List Env) (s : Shared) (H : Hp) (E : XK), RoomG k (A.deeper (PyProof.Rows.envOfC qual (defScope st) s.heap.objs.size f cdv)) →
      BVs (cxOf CX0 P w K mg base N qual (defScope st) f cdv A outer s H E).nox (defBody st) b) : FnG P w K mg base CX0 (k + 1) f fd ps (spF K m (mFun n m b)) := by
  subst hn hm
  obtain ⟨oc, od, kV, doc, pm, an, cdv, ct, osl, rfl, lk, hcd⟩ := F.ex
  refine fn_ofG lk hcd S (fun vs H Q E h => ?_) fun A outer s H vs Q E hr h => ?_
  · obtain ⟨ρ, h, ds, d, h', R, dn, e, _⟩ := h
    rw [dn.length, e]
  · obtain ⟨ρ, h, ds, d, h', R, dn, hl, e, q⟩ := h
    refine ⟨_, (hbody cdv A outer s H E hr).nox, ?_⟩
    obtain ⟨r, e1, e2⟩ := Option.bind_eq_some_iff.mp e
    obtain ⟨o, ms'⟩ := r
    refine ⟨ρ, ⟨ds.map some ++ List.replicate (N.length - ps.length) none, h⟩, o, ms', R, ?_, e1, fun H' ρ' F' R' => ?_⟩
    · have := slots_start (N := N) dn
      rw [hl] at this
      exact this
    · cases o with
      | ret d => cases e2; exact fun v dn => q v H' ρ' F' R' dn
      | nx => cases e2; exact fun σ' _ => q _ H' ρ' F' R' .non
      | bk => cases e2
      | ct => cases e2
/-! ### a def that hands its own lists back: they are frozen -/
mutual
def clean : D → Bool
  | .tup ds => cleans ds
  | .lst ds => cleans ds
  | .frl ds => cleans ds
  | .cell _ => false
  | _ => true
def cleans : List D → Bool
  | [] => true
  | d :: ds => clean d && cleans ds
end
-- fewer cells
def Rho.less (ρ : Rho) (n : Nat) : Rho := ⟨ρ.c.take n, ρ.v⟩
theorem Rho.lessOut {ρ : Rho} {n : Nat} {a : Addr} (h : a ∉ ρ) : a ∉ ρ.less n := Rho.out (fun z => (Rho.notIn h).1 (List.mem_of_mem_take z)) (Rho.notIn h).2
mutual
theorem Den.less {K : PySem.W.Frag} {ρ : Rho} {m : Nat} {H : Hp} : ∀ {v : V} {d : D}, clean d = true → Den K ρ H v d → Den K (ρ.less m) H v d
  | _, _, _, .non => .non
  | _, _, _, .bl b => .bl b
  | _, _, _, .int i => .int i
  | _, _, _, .str x => .str x
  | _, _, c, .tup h n ds => .tup h (Rho.lessOut n) (Dens.less (by simpa [clean] using c) ds)
  | _, _, c, .tupK h ds => .tupK h (Dens.less (by simpa [clean] using c) ds)
  | _, _, c, .lst h n ds => .lst h (Rho.lessOut n) (Dens.less (by simpa [clean] using c) ds)
  | _, _, c, .frl h n ds => .frl h (Rho.lessOut n) (Dens.less (by simpa [clean] using c) ds)
  | _, _, c, .frlK h ds => .frlK h (Dens.less (by simpa [clean] using c) ds)
  | _, _, _, .ty n => .ty n
  | _, _, _, .dic h n => .dic h (Rho.lessOut n)
  | _, _, _, .rng h n => .rng h (Rho.lessOut n)
  | _, _, _, .hid a => .hid a
  | _, _, c, .cell h => by simp [clean] at c
theorem Dens.less {K : PySem.W.Frag} {ρ : Rho} {m : Nat} {H : Hp} : ∀ {vs : List V} {ds : List D}, cleans ds = true → Dens K ρ H vs ds → Dens K (ρ.less m) H vs ds
  | _, _, _, .nil => .nil
  | _, _, c, .cons a b => .cons (Den.less (by simp [cleans] at c; exact c.1) a) (Dens.less (by simp [cleans] at c; exact c.2) b)
end
def frzD (n : Nat) (h : Cells) (d : D) : Option D := match d with
  | .cell i => bif decide (i < n) then some (.cell i) else (h[i]?).bind fun ds => bif cleans ds then some (.lst ds) else none
  | d => bif clean d then some d else none
def mFrz (F : MF) : MF := fun ds h => (F ds h).bind fun r => bif decide (h.length ≤ r.2.length) && (r.2.take h.length).all cleans then (frzD h.length r.2 r.1).map fun d => (d, r.2.take h.length) else none
theorem fn_frz {P : Program} {w : World} {K : PySem.W.Frag} {mg : Str → Option Value} {base : Heap} {f : Addr} {fd : FuncData} {ps : List Str} {k n : Nat} {F : MF} (G : FnG P w K mg base CX0 k f fd ps (spF K n F)) : FnG P w K mg base CX0 k f fd ps (spF K n (mFrz F)) := by
  have im : ∀ vs H Q E, spF K n (mFrz F) vs H Q E → spF K n F vs H Q E := fun vs H Q E h => by
    obtain ⟨ρ, h, ds, d, h', R, dn, hl, e, q⟩ := h
    obtain ⟨r, e1, e2⟩ := Option.bind_eq_some_iff.mp e
    obtain ⟨d1, h1⟩ := r
    cases hc : decide (h.length ≤ h1.length) && (h1.take h.length).all cleans with
    | false => simp only [hc, cond_false] at e2; cases e2
    | true =>
      simp only [hc, cond_true] at e2
      obtain ⟨d2, e3, e4⟩ := Option.map_eq_some_iff.mp e2
      cases e4
      rw [Bool.and_eq_true] at hc
      obtain ⟨hc1, hc2⟩ := hc
      have hle := of_decide_eq_true hc1
      refine ⟨ρ, h, ds, d1, h1, R, dn, hl, e1, fun v H' ρ' F' R' dn' => ?_⟩
      have ec : (ρ'.less h.length).c = ρ.c := by
        obtain ⟨more, e5⟩ := F'.ext
        show ρ'.c.take h.length = ρ.c
        rw [e5, ← R.len, List.take_left]
      have F2 : Fut ρ H (ρ'.less h.length) H' := ⟨F'.keep, ⟨[], by rw [ec]; simp⟩, F'.sub, F'.hid, fun _ h n => absurd (by rw [← ec]; exact h) n⟩
      have R2 : Rel K (ρ'.less h.length) (h1.take h.length) H' := by
        refine ⟨by rw [ec, R.len, List.length_take]; omega, by rw [ec]; exact R.nd, fun a ha z => R'.apart a (List.mem_of_mem_take ha) z, R'.hidden, fun i a es g1 g2 => ?_⟩
        have hi : i < h.length := by
          obtain ⟨z, _⟩ := List.getElem?_eq_some_iff.mp g2
          rw [List.length_take] at z; omega
        rw [List.getElem?_take_of_lt hi] at g2
        rw [ec] at g1
        obtain ⟨vs, q1, q2⟩ := R'.at_ i a es (F'.cellAt g1) g2
        exact ⟨vs, q1, q2.less (List.all_eq_true.mp hc2 es (List.mem_of_getElem? (i := i) (by rw [List.getElem?_take_of_lt hi]; exact g2)))⟩
      refine q v H' _ F2 R2 ?_
      cases d1 with
      | cell i =>
        simp only [frzD] at e3
        cases hi : decide (i < h.length) with
        | true =>
          simp only [hi, cond_true] at e3
          cases e3
          cases dn' with
          | cell g =>
            refine .cell ?_
            unfold Rho.less
            rw [List.getElem?_take_of_lt (of_decide_eq_true hi)]
            exact g
        | false =>
          simp only [hi, cond_false] at e3
          obtain ⟨es, e6, e7⟩ := Option.bind_eq_some_iff.mp e3
          obtain ⟨hcl, e8⟩ := bif_some e7
          cases e8
          cases dn' with
          | cell g =>
            obtain ⟨vs, q1, q2⟩ := R'.at_ i _ es g e6
            have nd := R'.nd
            have hi' : ¬ i < h.length := of_decide_eq_false hi
            obtain ⟨hi2, e10⟩ := List.getElem?_eq_some_iff.mp g
            refine .lst q1 (Rho.out (fun z => ?_) fun z => ?_) (q2.less hcl)
            · rw [ec] at z
              obtain ⟨j, hj, e9⟩ := List.getElem_of_mem z
              have g2 := F'.cellAt (List.getElem?_eq_some_iff.mpr ⟨hj, e9⟩)
              obtain ⟨hj2, e11⟩ := List.getElem?_eq_some_iff.mp g2
              have e12 := (List.getElem_inj nd).mp (e11.trans e10.symm)
              rw [R.len] at hj
              omega
            · have hin : _ ∉ ρ.c := fun hin => by
                obtain ⟨j, hj, e9⟩ := List.getElem_of_mem hin
                have g2 := F'.cellAt (List.getElem?_eq_some_iff.mpr ⟨hj, e9⟩)
                obtain ⟨hj2, e11⟩ := List.getElem?_eq_some_iff.mp g2
                have e12 := (List.getElem_inj nd).mp (e11.trans e10.symm)
                rw [R.len] at hj
                omega
              exact R'.apart _ (List.mem_of_getElem? g) z
      | _ =>
        simp only [frzD] at e3
        obtain ⟨hcl, e8⟩ := bif_some e3
        cases e8
        exact dn'.less hcl
  exact ⟨fun vs H Q E q => G.len vs H Q E (im _ _ _ _ q), fun A oute s Hh args uz vz Qq E hr he hb hv hs => G.run A oute s Hh args uz vz Qq E hr he hb hv (im _ _ _ _ hs)⟩
end Zm

set_option Elab.async false
set_option linter.all false
set_option maxRecDepth 100000
/-! Zf: operators, data, built-ins. -/
namespace Zm
open PySem L2
section
variable {X : Cx} {K : PySem.W.Frag}

/-! ### arithmetic -/
def wideM (i j : Int) : Bool := decide (i.natAbs.log2 + j.natAbs.log2 < 1000000)
def wideD (j : Int) : Bool := decide (0 < j ∧ j.natAbs.log2 < 9000)
def oSub : Cells → D → D → Option D
  | _, .int i, .int j => some (.int (i - j))
  | _, _, _ => none
def oMul : Cells → D → D → Option D
  | _, .int i, .int j => bif wideM i j then some (.int (i * j)) else none
  | _, _, _ => none
def oDiv : Cells → D → D → Option D
  | _, .int i, .int j => bif wideD j then some (.int (i / j)) else none
  | _, _, _ => none
def oMod : Cells → D → D → Option D
  | _, .int i, .int j => bif decide (0 < j) then some (.int (i % j)) else none
  | _, _, _ => none
def oPow : Cells → D → D → Option D
  | _, .int i, .int j => bif decide (0 ≤ j ∧ j ≤ 1000000 ∧ i.natAbs < 18446744073709551616) then some (.int (i ^ j.toNat)) else none
  | _, _, _ => none
def oNeg : Cells → D → Option D
  | _, .int i => some (.int (-i))
  | _, _ => none
theorem p_sub : Op2 K (rI0 fun i j => .int (i - j)) oSub := by
  intro ρ h H x y dx dy d Q R a b e k
  cases dx <;> cases dy <;> simp only [oSub] at e <;> try (cases e; done)
  cases e
  exact ⟨_, _, den_int a, den_int b, k _ _ ρ (.refl _ _) R (.int _)⟩
theorem p_mul : Op2 K (rI CMulW fun i j => .int (i * j)) oMul := by
  intro ρ h H x y dx dy d Q R a b e k
  cases dx <;> cases dy <;> simp only [oMul] at e <;> try (cases e; done)
  obtain ⟨c, e⟩ := bif_some e
  cases e
  exact ⟨_, _, den_int a, den_int b, by simpa [wideM, CMulW] using c, k _ _ ρ (.refl _ _) R (.int _)⟩
theorem p_div : Op2 K (rI CDivW fun i j => .int (i / j)) oDiv := by
  intro ρ h H x y dx dy d Q R a b e k
  cases dx <;> cases dy <;> simp only [oDiv] at e <;> try (cases e; done)
  obtain ⟨c, e⟩ := bif_some e
  cases e
  exact ⟨_, _, den_int a, den_int b, by simpa [wideD, CDivW] using c, k _ _ ρ (.refl _ _) R (.int _)⟩
theorem p_mod : Op2 K (rI (fun _ j => 0 < j) fun i j => .int (i % j)) oMod := by
  intro ρ h H x y dx dy d Q R a b e k
  cases dx <;> cases dy <;> simp only [oMod] at e <;> try (cases e; done)
  obtain ⟨c, e⟩ := bif_some e
  cases e
  exact ⟨_, _, den_int a, den_int b, of_decide_eq_true c, k _ _ ρ (.refl _ _) R (.int _)⟩
theorem p_pow : Op2 K (rI CPow fun i j => .int (i ^ j.toNat)) oPow := by
  intro ρ h H x y dx dy d Q R a b e k
  cases dx <;> cases dy <;> simp only [oPow] at e <;> try (cases e; done)
  obtain ⟨c, e⟩ := bif_some e
  cases e
  exact ⟨_, _, den_int a, den_int b, by simpa [CPow] using c, k _ _ ρ (.refl _ _) R (.int _)⟩
theorem p_neg : Op1 K (rU fun i => .int (-i)) oNeg := by
  intro ρ h H x dx d Q R a e k
  cases dx <;> simp only [oNeg] at e <;> try (cases e; done)
  cases e
  exact ⟨_, den_int a, k _ _ ρ (.refl _ _) R (.int _)⟩
/-- + of ints, texts, lists, tuples -/
def oAdd : Cells → D → D → Option D
  | _, .int i, .int j => some (.int (i + j))
  | _, .str i, .str j => bif decide (i.length + j.length ≤ line) then some (.str (i ++ j)) else none
  | _, .lst i, .lst j => bif decide (i.length + j.length ≤ line) then some (.lst (i ++ j)) else none
  | _, .tup i, .tup j => bif decide (i.length + j.length ≤ line) then some (.tup (i ++ j)) else none
  | _, _, _ => none
def rAddS : R2 := fun x y H Q => ∃ i j, x = .str i ∧ y = .str j ∧ i.length + j.length ≤ sizeLine ∧ Q (.str (i ++ j)) H
def rAddAll (K : PySem.W.Frag) : R2 := fun x y H Q => rI0 (fun i j => .int (i + j)) x y H Q ∨ rAddS x y H Q ∨ rCat x y H Q ∨ rCatA K x y H Q
theorem or_addAll : OpR X (binaryOp .Add) (rAddAll X.K) := op_add.or (OpR.or (r := rAddS) op_add_str (op_cat.or op_catA))
theorem den_len {ρ : Rho} {H : Hp} {v : V} {ds : List D} (h : Den K ρ H v (.lst ds)) : ∃ a vs, v = .ref a ∧ H a = some (.lst vs) ∧ a ∉ ρ ∧ Dens K ρ H vs ds := by
  cases h with
  | lst r n d => exact ⟨_, _, rfl, r, n, d⟩
theorem p_add : Op2 K (rAddAll K) oAdd := by
  intro ρ h H x y dx dy d Q R a b e k
  cases dx <;> cases dy <;> simp only [oAdd] at e <;> try (cases e; done)
  · cases e
    exact .inl ⟨_, _, den_int a, den_int b, k _ _ ρ (.refl _ _) R (.int _)⟩
  · obtain ⟨c, e⟩ := bif_some e
    cases e
    exact .inr (.inl ⟨_, _, den_str a, den_str b, by rw [← line_eq]; exact of_decide_eq_true c, k _ _ ρ (.refl _ _) R (.str _)⟩)
  · obtain ⟨c, e⟩ := bif_some e
    cases e
    obtain ⟨p, vs, rfl, hp⟩ := den_tupF a
    obtain ⟨q, ws, rfl, hq⟩ := den_tupF b
    obtain ⟨s1, t1⟩ := hp ρ H (.refl _ _)
    obtain ⟨s2, t2⟩ := hq ρ H (.refl _ _)
    refine .inr (.inr (.inr ⟨p, q, vs, ws, rfl, rfl, s1, s2, by rw [t1.length, t2.length, ← line_eq]; exact of_decide_eq_true c, fun z => ?_, fun _ z => ?_, fun _ _ o ho => ?_⟩))
    · subst z
      cases t1
      exact k _ H ρ (.refl _ _) R (by simpa using b)
    · subst z
      cases t2
      exact k _ H ρ (.refl _ _) R (by simpa using a)
    · exact k _ _ ρ (fut_new _ ho) (R.new _ ho) (.tup (.inl upd_same) (R.out ho) ((t1.append t2).fut (fut_new _ ho)))
  · obtain ⟨c, e⟩ := bif_some e
    cases e
    obtain ⟨p, vs, rfl, hp, np, t1⟩ := den_len a
    obtain ⟨q, ws, rfl, hq, nq, t2⟩ := den_len b
    refine .inr (.inr (.inl ⟨p, q, vs, ws, rfl, rfl, hp, hq, by rw [t1.length, t2.length, ← line_eq]; exact of_decide_eq_true c, fun o ho => ?_⟩))
    exact k _ _ ρ (fut_new _ ho) (R.new _ ho) (.lst upd_same (R.out ho) ((t1.append t2).fut (fut_new _ ho)))

/-! ### order of ints -/
def cI (p : Int → Int → Bool) : Cells → D → D → Option Bool
  | _, .int i, .int j => some (p i j)
  | _, _, _ => none
theorem p_cI {p : Int → Int → Bool} : Op2 K (rI0 fun i j => .bl (p i j)) (oB (cI p)) := by
  intro ρ h H x y dx dy d Q R a b e k
  cases dx <;> cases dy <;> simp only [oB, cI, Option.map_none, Option.map_some] at e <;> try (cases e; done)
  cases e
  exact ⟨_, _, den_int a, den_int b, k _ _ ρ (.refl _ _) R (.bl _)⟩
abbrev cLt := cI fun i j => decide (i < j)
abbrev cLe := cI fun i j => decide (i ≤ j)
abbrev cGt := cI fun i j => decide (j < i)
abbrev cGe := cI fun i j => decide (j ≤ i)
/-- a op b op' c -/
def mChain (o o' : Cells → D → D → Option Bool) (f g k : ME) : ME := fun ms => (f ms).bind fun r => (g { ms with h := r.2 }).bind fun s => (o s.2 r.1 s.1).bind fun b =>
  bif b then (k { ms with h := s.2 }).bind fun t => (o' t.2 s.1 t.1).map fun c => (.bl c, t.2) else some (.bl false, s.2)
theorem ev_chain {a b c : Expr} {pos : Pos} {op op' : CmpOp} {r r' : R2} {o o' : Cells → D → D → Option Bool} {f g k : ME} (ho : OpR X (compareOp op) r) (p : Op2 X.K r (oB o)) (ho' : OpR X (compareOp op') r') (p' : Op2 X.K r' (oB o'))
    (ha : EV X a f) (hb : EV X b g) (hc : EV X c k) (hm : lastMarks [op, op'] [b, c] = false := by with_unfolding_all rfl) : EV X (.Compare a [op, op'] [b, c] pos) (mChain o o' f g k) := by
  refine pe_w (pe_chain ho ho' ha hb hc hm) fun σ H Q h => ?_
  obtain ⟨ρ, ms, d, h', R, S, e, q⟩ := h
  obtain ⟨⟨dx, h1⟩, e1, e2⟩ := Option.bind_eq_some_iff.mp e
  obtain ⟨⟨dy, h2⟩, e3, e4⟩ := Option.bind_eq_some_iff.mp e2
  obtain ⟨b', e5, e6⟩ := Option.bind_eq_some_iff.mp e4
  refine ⟨ρ, ms, dx, h1, R, S, e1, fun x H1 ρ1 F1 R1 d1 => ?_⟩
  refine ⟨ρ1, { ms with h := h1 }, dy, h2, R1, S.fut F1, e3, fun y H2 ρ2 F2 R2 d2 => ?_⟩
  refine p ρ2 h2 H2 x y dx dy (.bl b') _ R2 (d1.fut F2) d2 (by simp [oB, show o h2 dx dy = some b' from e5]) fun v H3 ρ3 F3 R3 d3 => ⟨b', den_bl d3, ?_⟩
  cases b' with
  | false => cases e6; exact q _ H3 ρ3 ((F1.trans F2).trans F3) R3 (.bl false)
  | true =>
    obtain ⟨⟨dz, h4⟩, e7, e8⟩ := Option.bind_eq_some_iff.mp e6
    obtain ⟨c', e9, e10⟩ := Option.map_eq_some_iff.mp e8
    cases e10
    refine iteT ⟨ρ3, { ms with h := h2 }, dz, _, R3, S.fut ((F1.trans F2).trans F3), e7, fun z H4 ρ4 F4 R4 d4 => ?_⟩
    exact p' ρ4 _ H4 y z dy dz (.bl c') _ R4 ((d2.fut F3).fut F4) d4 (by simp [oB, show o' _ dy dz = some c' from e9]) fun v H5 ρ5 F5 R5 d5 => q v H5 ρ5 ((((F1.trans F2).trans F3).trans F4).trans F5) R5 d5
def tB' (f : ME) : MT := fun ms => (f ms).bind fun r => (asB r.1).map fun b => (b, r.2)
theorem tv_chain {a b c : Expr} {pos : Pos} {op op' : CmpOp} {r r' : R2} {o o' : Cells → D → D → Option Bool} {f g k : ME} (ho : OpR X (compareOp op) r) (p : Op2 X.K r (oB o)) (ho' : OpR X (compareOp op') r') (p' : Op2 X.K r' (oB o'))
    (ha : EV X a f) (hb : EV X b g) (hc : EV X c k) (hm : lastMarks [op, op'] [b, c] = false := by with_unfolding_all rfl) : TV X (.Compare a [op, op'] [b, c] pos) (tB' (mChain o o' f g k)) := by
  refine pt_w (pt_chain ho ho' ha hb hc hm) fun σ H Q h => ?_
  obtain ⟨ρ, ms, bb, h', R, S, ee, q⟩ := h
  obtain ⟨⟨d, h''⟩, e, ex⟩ := Option.bind_eq_some_iff.mp ee
  obtain ⟨bq, ey, ez⟩ := Option.map_eq_some_iff.mp ex
  cases ez
  obtain ⟨⟨dx, h1⟩, e1, e2⟩ := Option.bind_eq_some_iff.mp e
  obtain ⟨⟨dy, h2⟩, e3, e4⟩ := Option.bind_eq_some_iff.mp e2
  obtain ⟨b', e5, e6⟩ := Option.bind_eq_some_iff.mp e4
  refine ⟨ρ, ms, dx, h1, R, S, e1, fun x H1 ρ1 F1 R1 d1 => ?_⟩
  refine ⟨ρ1, { ms with h := h1 }, dy, h2, R1, S.fut F1, e3, fun y H2 ρ2 F2 R2 d2 => ?_⟩
  refine p ρ2 h2 H2 x y dx dy (.bl b') _ R2 (d1.fut F2) d2 (by simp [oB, show o h2 dx dy = some b' from e5]) fun v H3 ρ3 F3 R3 d3 => ⟨b', den_bl d3, ?_⟩
  cases b' with
  | false => cases e6; cases ey; exact iteF ⟨false, rfl, q H3 ρ3 ((F1.trans F2).trans F3) R3⟩
  | true =>
    obtain ⟨⟨dz, h4⟩, e7, e8⟩ := Option.bind_eq_some_iff.mp e6
    obtain ⟨c', e9, e10⟩ := Option.map_eq_some_iff.mp e8
    cases e10
    simp only [asB] at ey
    cases ey
    refine iteT ⟨ρ3, { ms with h := h2 }, dz, _, R3, S.fut ((F1.trans F2).trans F3), e7, fun z H4 ρ4 F4 R4 d4 => ?_⟩
    exact p' ρ4 _ H4 y z dy dz (.bl _) _ R4 ((d2.fut F3).fut F4) d4 (by simp [oB, show o' _ dy dz = some _ from e9]) fun v H5 ρ5 F5 R5 d5 => ⟨_, den_bl d5, q H5 ρ5 ((((F1.trans F2).trans F3).trans F4).trans F5) R5⟩

/-! ### data of any depth -/
mutual
inductive DenP (K : PySem.W.Frag) (H : Hp) : V → PyData → Prop
  | non : DenP K H .non .none
  | bl (b) : DenP K H (.bl b) (.bool b)
  | int (i) : DenP K H (.int i) (.int i)
  | str (x) : DenP K H (.str x) (.str x)
  | tup {a vs ps} : SqT K H a vs → DensP K H vs ps → DenP K H (.ref a) (.tuple ps)
  | lst {a vs ps} : SqL K H a vs → DensP K H vs ps → DenP K H (.ref a) (.list ps)
inductive DensP (K : PySem.W.Frag) (H : Hp) : List V → List PyData → Prop
  | nil : DensP K H [] []
  | cons {v p vs ps} : DenP K H v p → DensP K H vs ps → DensP K H (v :: vs) (p :: ps)
end
mutual
def pyC (c : Nat → Option PyData) : D → Option PyData
  | .non => some .none
  | .bl b => some (.bool b)
  | .int i => some (.int i)
  | .str x => some (.str x)
  | .tup ds => (pyCs c ds).map .tuple
  | .lst ds => (pyCs c ds).map .list
  | .frl ds => (pyCs c ds).map .list
  | .cell i => c i
  | _ => none
def pyCs (c : Nat → Option PyData) : List D → Option (List PyData)
  | [] => some []
  | d :: ds => (pyC c d).bind fun p => (pyCs c ds).map fun ps => p :: ps
end
def cellP (h : Cells) (i : Nat) : Option PyData := (h[i]?).bind fun ds => (pyCs (fun _ => none) ds).map .list
abbrev py (h : Cells) : D → Option PyData := pyC (cellP h)
mutual
theorem denP_of {ρ : Rho} {H : Hp} {c : Nat → Option PyData} (hc : ∀ i p a, c i = some p → ρ.c[i]? = some a → DenP K H (.ref a) p) : ∀ {v : V} {d : D} {p : PyData}, Den K ρ H v d → pyC c d = some p → DenP K H v p
  | _, _, _, .non, e => by simp only [pyC] at e; cases e; exact .non
  | _, _, _, .bl b, e => by simp only [pyC] at e; cases e; exact .bl b
  | _, _, _, .int i, e => by simp only [pyC] at e; cases e; exact .int i
  | _, _, _, .str x, e => by simp only [pyC] at e; cases e; exact .str x
  | _, _, _, .tup h n ds, e => by
    simp only [pyC] at e
    obtain ⟨ps, e1, e2⟩ := Option.map_eq_some_iff.mp e
    cases e2
    exact .tup (.inl h) (densP_of hc ds e1)
  | _, _, _, .tupK h ds, e => by
    simp only [pyC] at e
    obtain ⟨ps, e1, e2⟩ := Option.map_eq_some_iff.mp e
    cases e2
    exact .tup (h H) (densP_of hc ds e1)
  | _, _, _, .lst h n ds, e => by
    simp only [pyC] at e
    obtain ⟨ps, e1, e2⟩ := Option.map_eq_some_iff.mp e
    cases e2
    exact .lst (SqL.of h) (densP_of hc ds e1)
  | _, _, _, .frl h n ds, e => by
    simp only [pyC] at e
    obtain ⟨ps, e1, e2⟩ := Option.map_eq_some_iff.mp e
    cases e2
    exact .lst (.inl h) (densP_of hc ds e1)
  | _, _, _, .frlK h ds, e => by
    simp only [pyC] at e
    obtain ⟨ps, e1, e2⟩ := Option.map_eq_some_iff.mp e
    cases e2
    exact .lst (h H) (densP_of hc ds e1)
  | _, _, _, .dic h n, e => by simp only [pyC] at e; cases e
  | _, _, _, .rng h n, e => by simp only [pyC] at e; cases e
  | _, _, _, .hid a, e => by simp only [pyC] at e; cases e
  | _, _, _, .ty n, e => by simp only [pyC] at e; cases e
  | _, _, _, .cell h, e => by simp only [pyC] at e; exact hc _ _ _ e h
theorem densP_of {ρ : Rho} {H : Hp} {c : Nat → Option PyData} (hc : ∀ i p a, c i = some p → ρ.c[i]? = some a → DenP K H (.ref a) p) : ∀ {vs : List V} {ds : List D} {ps : List PyData}, Dens K ρ H vs ds → pyCs c ds = some ps → DensP K H vs ps
  | _, _, _, .nil, e => by simp only [pyCs] at e; cases e; exact .nil
  | _, _, _, .cons a b, e => by
    simp only [pyCs] at e
    obtain ⟨p, e1, e2⟩ := Option.bind_eq_some_iff.mp e
    obtain ⟨ps, e3, e4⟩ := Option.map_eq_some_iff.mp e2
    cases e4
    exact .cons (denP_of hc a e1) (densP_of hc b e3)
end
theorem denP_py {ρ : Rho} {h : Cells} {H : Hp} {v : V} {d : D} {p : PyData} (R : Rel K ρ h H) (dn : Den K ρ H v d) (e : py h d = some p) : DenP K H v p := by
  refine denP_of (c := cellP h) (fun i q a e1 e2 => ?_) dn e
  obtain ⟨ds, e3, e4⟩ := Option.bind_eq_some_iff.mp e1
  obtain ⟨ps, e5, e6⟩ := Option.map_eq_some_iff.mp e4
  cases e6
  obtain ⟨vs, q1, q2⟩ := R.at_ i a ds e2 e3
  exact .lst (SqL.of q1) (densP_of (fun _ _ _ z => by simp at z) q2 e5)
mutual
theorem reads_of {pins : List (Addr × Obj)} {σ : L2.St} {H : Hp} {s : Shared} (I : Inv X pins σ H s) : ∀ {v : V} {p : PyData} {u : Value}, DenP X.K H v p → RelV v u → ∃ as, Reads s.heap u p as
  | _, _, _, .non, r => by cases r; exact ⟨_, .none⟩
  | _, _, _, .bl b, r => by cases r; exact ⟨_, .bool b⟩
  | _, _, _, .int i, r => by obtain ⟨t, rfl⟩ := r; exact ⟨_, .int i t⟩
  | _, _, _, .str x, r => by obtain ⟨t, rfl⟩ := r; exact ⟨_, .str x t⟩
  | _, _, _, .tup h ds, r => by
    cases r
    obtain ⟨its, rv, ⟨o, e, c, n, d⟩, hz⟩ := I.tuple h
    obtain ⟨as, ra⟩ := readsAll_of I ds rv
    exact ⟨_, .tuple e c d (by simpa using ra)⟩
  | _, _, _, .lst h ds, r => by
    cases r
    obtain ⟨its, rv, ⟨o, n, e, c, _, d⟩, hz⟩ := I.list h
    obtain ⟨as, ra⟩ := readsAll_of I ds rv
    exact ⟨_, .list e c d (by simpa using ra)⟩
theorem readsAll_of {pins : List (Addr × Obj)} {σ : L2.St} {H : Hp} {s : Shared} (I : Inv X pins σ H s) : ∀ {vs : List V} {ps : List PyData} {us : List Value}, DensP X.K H vs ps → Vals vs us → ∃ as, ReadsAll s.heap us ps as
  | _, _, _, .nil, r => by cases r; exact ⟨_, .nil⟩
  | _, _, _, .cons a b, r => by
    cases r with
    | cons r1 r2 =>
      obtain ⟨as, ra⟩ := reads_of I a r1
      obtain ⟨bs, rb⟩ := readsAll_of I b r2
      exact ⟨_, .cons ra rb⟩
end
/-- == and != of data -/
def rEqP (K : PySem.W.Frag) (neg : Bool) : R2 := fun x y H Q => ∃ p q, DenP K H x p ∧ DenP K H y q ∧ SeqAt.shaped p = true ∧ SeqAt.shaped q = true ∧ Q (.bl (if neg then !PyData.eqv p q else PyData.eqv p q)) H
theorem op_eqP (hu : X.A.units + 64 < cLine) : OpR X (compareOp .Eq) (rEqP X.K false) := by
  intro pins s σ H x y v u Q I rx ry h
  obtain ⟨p, q, dx, dy, s1, s2, k⟩ := h
  obtain ⟨as, ra⟩ := reads_of I dx rx
  obtain ⟨bs, rb⟩ := reads_of I dy ry
  exact PyProof.Rows.eq_dataH ra rb s1 s2 hu ⟨.bl _, H, I, rfl, k⟩
theorem op_neP (hu : X.A.units + 64 < cLine) : OpR X (compareOp .NotEq) (rEqP X.K true) := by
  intro pins s σ H x y v u Q I rx ry h
  obtain ⟨p, q, dx, dy, s1, s2, k⟩ := h
  obtain ⟨as, ra⟩ := reads_of I dx rx
  obtain ⟨bs, rb⟩ := reads_of I dy ry
  exact PyProof.Rows.ne_dataH ra rb s1 s2 hu ⟨.bl _, H, I, rfl, k⟩
def cEqP (neg : Bool) : Cells → D → D → Option Bool := fun h x y => (py h x).bind fun p => (py h y).bind fun q => bif SeqAt.shaped p && SeqAt.shaped q then some (if neg then !PyData.eqv p q else PyData.eqv p q) else none
theorem p_eqP {neg : Bool} : Op2 K (rEqP K neg) (oB (cEqP neg)) := by
  intro ρ h H x y dx dy d Q R a b e k
  simp only [oB, cEqP] at e
  obtain ⟨z, e1, e2⟩ := Option.map_eq_some_iff.mp e
  obtain ⟨p, e3, e4⟩ := Option.bind_eq_some_iff.mp e1
  obtain ⟨q, e5, e6⟩ := Option.bind_eq_some_iff.mp e4
  obtain ⟨c, e7⟩ := bif_some e6
  subst e7
  subst e2
  rw [Bool.and_eq_true] at c
  exact ⟨p, q, denP_py R a e3, denP_py R b e5, c.1, c.2, k _ _ ρ (.refl _ _) R (.bl _)⟩
/-- the usual ==: by ints, texts, bools, else data -/
def oEq : Cells → D → D → Option Bool
  | _, .int i, .int j => some (decide (i = j))
  | _, .str i, .str j => some (decide (i = j))
  | _, .bl i, .bl j => some (decide (i = j))
  | h, x, y => cEqP false h x y
def oNe : Cells → D → D → Option Bool
  | _, .int i, .int j => some (!decide (i = j))
  | _, .str i, .str j => some (!decide (i = j))
  | _, .bl i, .bl j => some (!decide (i = j))
  | h, x, y => cEqP true h x y
def rEqA (K : PySem.W.Frag) : R2 := fun x y H Q => rEq x y H Q ∨ rEqP K false x y H Q
def rNeA (K : PySem.W.Frag) : R2 := fun x y H Q => rNe x y H Q ∨ rEqP K true x y H Q
theorem or_eq (hu : X.A.units + 64 < cLine) : OpR X (compareOp .Eq) (rEqA X.K) := op_eq.or (op_eqP hu)
theorem or_ne (hu : X.A.units + 64 < cLine) : OpR X (compareOp .NotEq) (rNeA X.K) := op_ne.or (op_neP hu)
theorem p_eq : Op2 K (rEqA K) (oB oEq) := by
  intro ρ h H x y dx dy d Q R a b e k
  have gen : (oB (cEqP false)) h dx dy = some d → rEqA K x y H Q := fun e => .inr (p_eqP ρ h H x y dx dy d Q R a b e k)
  cases dx <;> cases dy <;> first
    | exact gen e
    | (simp only [oB, oEq, Option.map_some] at e
       cases e
       left
       first
         | (cases den_int a; cases den_int b; refine ⟨rfl, k _ _ ρ (.refl _ _) R ?_⟩; simpa using Den.bl (K := K) (ρ := ρ) (H := H) _)
         | (cases den_str a; cases den_str b; refine ⟨rfl, k _ _ ρ (.refl _ _) R ?_⟩; simpa using Den.bl (K := K) (ρ := ρ) (H := H) _)
         | (cases den_bl a; cases den_bl b; refine ⟨rfl, k _ _ ρ (.refl _ _) R ?_⟩; simpa using Den.bl (K := K) (ρ := ρ) (H := H) _))
theorem p_ne : Op2 K (rNeA K) (oB oNe) := by
  intro ρ h H x y dx dy d Q R a b e k
  have gen : (oB (cEqP true)) h dx dy = some d → rNeA K x y H Q := fun e => .inr (p_eqP ρ h H x y dx dy d Q R a b e k)
  cases dx <;> cases dy <;> first
    | exact gen e
    | (simp only [oB, oNe, Option.map_some] at e
       cases e
       left
       first
         | (cases den_int a; cases den_int b; refine ⟨rfl, k _ _ ρ (.refl _ _) R ?_⟩; simpa using Den.bl (K := K) (ρ := ρ) (H := H) _)
         | (cases den_str a; cases den_str b; refine ⟨rfl, k _ _ ρ (.refl _ _) R ?_⟩; simpa using Den.bl (K := K) (ρ := ρ) (H := H) _)
         | (cases den_bl a; cases den_bl b; refine ⟨rfl, k _ _ ρ (.refl _ _) R ?_⟩; simpa using Den.bl (K := K) (ρ := ρ) (H := H) _))
end
end Zm

set_option Elab.async false
set_option linter.all false
set_option maxRecDepth 100000
/-! Zh: built-ins, places, slices, comprehensions, lists that change. -/
namespace Zm
open PySem L2
section
variable {X : Cx} {K : PySem.W.Frag}

/-! ### names of built-in types -/
theorem ev_ty {x : Str} {n : String} {pos : Pos} (hm : X.mg x = none) (hv : bootBuiltins x = some (.type n)) (hg : Gl X x := by rfl) (hn : x ≠ "__name__" := by decide) (hd : (x == ("__debug__" : Str)) = false := by decide) : EV X (.Name x pos) (mC (.ty n)) :=
  pe_w (pe_bltn hg hm hv (v := .ty n) rfl hn hd) fun _ _ _ => rd_c fun _ _ => .ty n

/-! ### repr -/
def rRepr (K : PySem.W.Frag) : List V → Hp → VK → Prop := fun xs H Q => ∃ x p, xs = [x] ∧ DenP K H x p ∧ p.showable = true ∧ p.hasDict = false ∧ p.shown.length ≤ sizeLine ∧ p.depth ≤ 50 ∧ Q (.str p.shown) H
theorem call_reprP (hg : X.A.guards = some []) (hu : X.A.units + 64 < cLine) : CallR X (.builtin "repr") (rRepr X.K) := by
  intro pins s σ H xs us Q I r h
  obtain ⟨x, p, rfl, dx, h1, h2, h3, h4, q⟩ := h
  obtain ⟨u, rfl, ru⟩ := vals1 r
  obtain ⟨as, ra⟩ := reads_of I dx ru
  have fin : ∀ {a : Addr}, Reads s.heap (.ref a) p as → wpAny (model X.prog X.w) X.A (call (.builtin "repr") [.ref a]) (EP X pins σ Q) X.xe s := fun {a} ra =>
    repr_of_reads' ra h1 (fun z => by rw [h2] at z; cases z) hg (by omega) (fun _ _ e => e) (fun h' u tk hk => ⟨.str p.shown, H, I.kept hk, ⟨u, rfl⟩, q⟩) h3
  cases dx with
  | non => cases ru; exact PySem.P.repr_of_none ⟨.str _, H, I.tok _, ⟨_, rfl⟩, q⟩
  | bl b => cases ru; exact PySem.P.repr_of_bool ⟨.str _, H, I.tok _, ⟨_, rfl⟩, q⟩
  | int i =>
    obtain ⟨t, rfl⟩ := ru
    exact PySem.P.repr_of_int (by simpa [PyData.showable] using h1) ⟨.str _, H, I.tok _, ⟨_, rfl⟩, q⟩
  | str y =>
    obtain ⟨t, rfl⟩ := ru
    exact PySem.P.repr_of_str ⟨.str _, H, I.tok _, ⟨_, rfl⟩, q⟩ h3
  | tup _ _ => cases ru; exact fin ra
  | lst _ _ => cases ru; exact fin ra
def shOk (p : PyData) : Bool := p.showable && !p.hasDict && decide (p.shown.length ≤ line) && decide (p.depth ≤ 50)
def oRepr : Cells → List D → Option D
  | h, [d] => (py h d).bind fun p => bif shOk p then some (.str p.shown) else none
  | _, _ => none
theorem c_repr : OpC K (rRepr K) oRepr := by
  intro ρ h H xs dxs d Q R a e k
  cases a with
  | nil => cases e
  | cons a b =>
    cases b with
    | cons _ _ => cases e
    | nil =>
      simp only [oRepr] at e
      obtain ⟨p, e1, e2⟩ := Option.bind_eq_some_iff.mp e
      obtain ⟨c, e3⟩ := bif_some e2
      cases e3
      simp only [shOk, Bool.and_eq_true, Bool.not_eq_true', decide_eq_true_eq] at c
      exact ⟨_, p, rfl, denP_py R a e1, c.1.1.1, c.1.1.2, by rw [← line_eq]; exact c.1.2, c.2, k _ _ ρ (.refl _ _) R (.str _)⟩

/-! ### isinstance of data and built-in types -/
def tyD : D → Option String
  | .non => some "NoneType"
  | .bl _ => some "bool"
  | .int _ => some "int"
  | .str _ => some "str"
  | .tup _ => some "tuple"
  | .lst _ => some "list"
  | .frl _ => some "list"
  | .dic => some "dict"
  | .rng _ _ => none
  | .hid _ => none
  | .cell _ => some "list"
  | .ty _ => none
theorem tyX_of {ρ : Rho} {h : Cells} {H : Hp} {x : V} {d : D} {t : String} (R : Rel K ρ h H) (dn : Den K ρ H x d) (e : tyD d = some t) (nk : (∃ es, d = .tup es) → ∀ a, x = .ref a → ∀ vs, (∀ H, SqT K H a vs) → False) (nl : (∃ es, d = .frl es) → False) (hi : ∀ i, d = .cell i → i < h.length) : TyX K H x (.type t) := by
  cases dn with
  | non => cases e; exact .base .non
  | bl b => cases e; exact .base (.bl b)
  | int i => cases e; exact .base (.int i)
  | str y => cases e; exact .base (.str y)
  | tup r n ds =>
    cases e
    rcases r with r | ⟨o, r⟩
    · exact .base (.tup r)
    · exact .fTuple r
  | tupK r ds => exact (nk ⟨_, rfl⟩ _ rfl _ r).elim
  | lst r n ds => cases e; exact .base (.lst r)
  | frl r n ds => exact (nl ⟨_, rfl⟩).elim
  | frlK r ds => exact (nl ⟨_, rfl⟩).elim
  | dic r n => cases e; exact .base (.dK r)
  | rng r n => cases e
  | hid a => cases e
  | ty n => cases e
  | cell c =>
    cases e
    have hl := hi _ rfl
    obtain ⟨vs, q, _⟩ := R.at_ _ _ _ c (List.getElem?_eq_getElem hl)
    exact .base (.lst q)
/-- a tuple of the written part, too -/
theorem tyX_tup {ρ : Rho} {H : Hp} {x : V} {ds : List D} (dn : Den K ρ H x (.tup ds)) : TyX K H x (.type "tuple") := by
  cases dn with
  | tup r n ds =>
    rcases r with r | ⟨o, r⟩
    · exact .base (.tup r)
    · exact .fTuple r
  | tupK r ds =>
    rcases r (fun _ => none) with (r | ⟨o, r⟩) | ⟨o, its, n, e1, e2, _⟩
    · cases r
    · cases r
    · exact .kTuple e1 e2
theorem tyX_frl {ρ : Rho} {H : Hp} {x : V} {ds : List D} (dn : Den K ρ H x (.frl ds)) : TyX K H x (.type "list") := by
  cases dn with
  | frl r n ds =>
    rcases r with r | ⟨o, r⟩
    · exact .base (.lst r)
    · exact .base (.frz r)
  | frlK r ds =>
    rcases r (fun _ => none) with (r | ⟨o, r⟩) | ⟨o, its, n, e1, e2, _⟩
    · cases r
    · cases r
    · exact .kList e1 e2
theorem tyX {ρ : Rho} {h : Cells} {H : Hp} {x : V} {d : D} {t : String} (R : Rel K ρ h H) (dn : Den K ρ H x d) (e : tyD d = some t) (hi : ∀ i, d = .cell i → i < h.length) : TyX K H x (.type t) := by
  cases d with
  | tup ds => cases e; exact tyX_tup dn
  | frl ds => cases e; exact tyX_frl dn
  | _ => exact tyX_of R dn e (fun ⟨_, z⟩ => by cases z) (fun ⟨_, z⟩ => by cases z) hi
def isiB (t n : String) : Option Bool :=
  if n = "int" then some (t == "int" || t == "bool") else if n = "bool" then some (t == "bool") else if n = "tuple" then some (t == "tuple") else if n = "str" then some (t == "str") else if n = "list" then some (t == "list") else none
def tyNames : List String := ["NoneType", "bool", "int", "str", "tuple", "list", "dict"]
theorem kit_isi : ∀ t ∈ tyNames, ∀ n ∈ ["int", "bool", "tuple", "str", "list"], kitB t n = isiB t n := by decide +kernel
theorem isiB_n {t n : String} {b : Bool} (h : isiB t n = some b) : n ∈ ["int", "bool", "tuple", "str", "list"] := by
  unfold isiB at h
  repeat' split at h
  all_goals first
    | (rename_i z; simp [z]; done)
    | (subst_vars; simp; done)
    | cases h
theorem tyD_n {d : D} {t : String} (h : tyD d = some t) : t ∈ tyNames := by
  cases d <;> simp only [tyD] at h <;> first | (cases h; decide) | cases h
def okCell (h : Cells) : D → Bool
  | .cell i => decide (i < h.length)
  | _ => true
def oIsi : Cells → List D → Option D
  | h, [d, .ty n] => bif okCell h d then (tyD d).bind fun t => (isiB t n).map .bl else none
  | _, _ => none
theorem c_isi : OpC K (rIsi K) oIsi := by
  intro ρ h H xs dxs d Q R a e k
  unfold oIsi at e
  split at e
  · rename_i d' n
    cases a with
    | cons a b =>
      cases b with
      | cons b c =>
        cases c
        cases hc : okCell h d' with
        | false => simp [hc] at e
        | true =>
          simp only [hc, cond_true] at e
          obtain ⟨t, e1, e2⟩ := Option.bind_eq_some_iff.mp e
          obtain ⟨r, e3, e4⟩ := Option.map_eq_some_iff.mp e2
          subst e4
          cases b
          refine ⟨_, _, .type t, .type n, r, rfl, .ty n, tyX R a e1 (fun i z => by subst z; simpa [okCell] using hc), kit_ty ?_, k _ _ ρ (.refl _ _) R (.bl _)⟩
          rw [kit_isi t (tyD_n e1) n (isiB_n e3)]
          exact e3
  · cases e

/-! ### len, int, abs, min, max, divmod, sum, all -/
def oLen : Cells → List D → Option D
  | _, [.tup ds] => some (.int ds.length)
  | _, [.lst ds] => some (.int ds.length)
  | _, [.frl ds] => some (.int ds.length)
  | h, [.cell i] => (h[i]?).map fun ds => .int ds.length
  | _, _ => none
theorem c_len : OpC K (fun xs H Q => ∃ x n, xs = [x] ∧ LenV K x H n ∧ Q (.int n) H) oLen := by
  intro ρ h H xs dxs d Q R a e k
  unfold oLen at e
  split at e
  · cases e
    cases a with
    | cons a b =>
      cases b
      obtain ⟨p, vs, rfl, hp⟩ := den_tupF a
      obtain ⟨s1, t1⟩ := hp ρ H (.refl _ _)
      exact ⟨_, _, rfl, .inr ⟨vs, s1, t1.length.symm⟩, k _ _ ρ (.refl _ _) R (.int _)⟩
  · cases e
    cases a with
    | cons a b =>
      cases b
      obtain ⟨p, vs, rfl, hp⟩ := den_lst a
      obtain ⟨s1, t1⟩ := hp ρ H (.refl _ _)
      exact ⟨_, _, rfl, .inl ⟨vs, s1, t1.length.symm⟩, k _ _ ρ (.refl _ _) R (.int _)⟩
  · cases e
    cases a with
    | cons a b =>
      cases b
      obtain ⟨p, vs, rfl, hp⟩ := den_frl a
      obtain ⟨s1, t1⟩ := hp ρ H (.refl _ _)
      exact ⟨_, _, rfl, .inl ⟨vs, s1, t1.length.symm⟩, k _ _ ρ (.refl _ _) R (.int _)⟩
  · obtain ⟨ds, e1, e2⟩ := Option.map_eq_some_iff.mp e
    cases e2
    cases a with
    | cons a b =>
      cases b
      cases a with
      | cell c =>
        obtain ⟨vs, q1, q2⟩ := R.at_ _ _ _ c e1
        exact ⟨_, _, rfl, .inl ⟨vs, SqL.of q1, q2.length.symm⟩, k _ _ ρ (.refl _ _) R (.int _)⟩
  · cases e
def oInt : Cells → List D → Option D
  | _, [.int i] => some (.int i)
  | _, [.bl b] => some (.int (if b then 1 else 0))
  | _, _ => none
theorem dens1 {ρ : Rho} {H : Hp} {xs : List V} {d : D} (a : Dens K ρ H xs [d]) : ∃ x, xs = [x] ∧ Den K ρ H x d := by
  cases a with
  | cons a b => cases b; exact ⟨_, rfl, a⟩
theorem dens2 {ρ : Rho} {H : Hp} {xs : List V} {d e : D} (a : Dens K ρ H xs [d, e]) : ∃ x y, xs = [x, y] ∧ Den K ρ H x d ∧ Den K ρ H y e := by
  cases a with
  | cons a b =>
    obtain ⟨y, rfl, b1⟩ := dens1 b
    exact ⟨_, _, rfl, a, b1⟩
theorem c_int : OpC K (fun xs H Q => (∃ i, xs = [.int i] ∧ Q (.int i) H) ∨ ∃ k, xs = [.bl k] ∧ Q (.int (if k then 1 else 0)) H) oInt := by
  intro ρ h H xs dxs d Q R a e k
  unfold oInt at e
  split at e
  · cases e
    obtain ⟨x, rfl, a1⟩ := dens1 a
    exact .inl ⟨_, by rw [den_int a1], k _ _ ρ (.refl _ _) R (.int _)⟩
  · cases e
    obtain ⟨x, rfl, a1⟩ := dens1 a
    exact .inr ⟨_, by rw [den_bl a1], k _ _ ρ (.refl _ _) R (.int _)⟩
  · cases e
def oAbs : Cells → List D → Option D
  | _, [.int i] => some (.int (if i < 0 then -i else i))
  | _, _ => none
theorem c_abs : OpC K (fun xs H Q => ∃ i, xs = [.int i] ∧ Q (.int (if i < 0 then -i else i)) H) oAbs := by
  intro ρ h H xs dxs d Q R a e k
  unfold oAbs at e
  split at e
  · cases e
    obtain ⟨x, rfl, a1⟩ := dens1 a
    exact ⟨_, by rw [den_int a1], k _ _ ρ (.refl _ _) R (.int _)⟩
  · cases e
def oMax2 : Cells → List D → Option D
  | _, [.int i, .int j] => some (.int (if j > i then j else i))
  | _, _ => none
theorem c_max2 : OpC K (fun xs H Q => ∃ i j, xs = [.int i, .int j] ∧ Q (.int (if j > i then j else i)) H) oMax2 := by
  intro ρ h H xs dxs d Q R a e k
  unfold oMax2 at e
  split at e
  · cases e
    obtain ⟨x, y, rfl, a1, b1⟩ := dens2 a
    exact ⟨_, _, by rw [den_int a1, den_int b1], k _ _ ρ (.refl _ _) R (.int _)⟩
  · cases e
def oMin2 : Cells → List D → Option D
  | _, [.int i, .int j] => some (.int (if j < i then j else i))
  | _, _ => none
theorem c_min2 : OpC K (fun xs H Q => ∃ i j, xs = [.int i, .int j] ∧ Q (.int (if j < i then j else i)) H) oMin2 := by
  intro ρ h H xs dxs d Q R a e k
  unfold oMin2 at e
  split at e
  · cases e
    obtain ⟨x, y, rfl, a1, b1⟩ := dens2 a
    exact ⟨_, _, by rw [den_int a1, den_int b1], k _ _ ρ (.refl _ _) R (.int _)⟩
  · cases e
/-- divmod: by a divisor that is no great one, or of numbers that are not too far apart -/
def dmOk (i j : Int) : Bool := decide (0 < j) && (decide (j < 1073741824) || !Builtin.divisionGoesByPylong i j)
def oDivmod : Cells → List D → Option D
  | _, [.int i, .int j] => bif dmOk i j then some (.tup [.int (i / j), .int (i % j)]) else none
  | _, _ => none
def rDm : List V → Hp → VK → Prop := fun xs H Q => ∃ i j, xs = [.int i, .int j] ∧ CDiv i j ∧ ∀ p, H p = none → Q (.ref p) (upd H p (.tup [.int (i / j), .int (i % j)]))
def rDmW : List V → Hp → VK → Prop := fun xs H Q => ∃ i j, xs = [.int i, .int j] ∧ CDivP i j ∧ ∀ p, H p = none → Q (.ref p) (upd H p (.tup [.int (i / j), .int (i % j)]))
theorem CallR.or {f : Value} {r r' : List V → Hp → VK → Prop} (h : CallR X f r) (h' : CallR X f r') : CallR X f (fun x H Q => r x H Q ∨ r' x H Q) := by
  intro pins s σ H xs us Q I r q
  rcases q with q | q
  · exact h pins s σ H xs us Q I r q
  · exact h' pins s σ H xs us Q I r q
theorem call_dm : CallR X (.builtin "divmod") (fun x H Q => rDm x H Q ∨ rDmW x H Q) := CallR.or (r := rDm) (r' := rDmW) call_divmod call_divmodW
theorem c_dm : OpC K (fun x H Q => rDm x H Q ∨ rDmW x H Q) oDivmod := by
  intro ρ h H xs dxs d Q R a e k
  unfold oDivmod at e
  split at e
  · rename_i i j
    obtain ⟨c, e⟩ := bif_some e
    cases e
    obtain ⟨x, y, rfl, a1, b1⟩ := dens2 a
    simp only [dmOk, Bool.and_eq_true, Bool.or_eq_true, Bool.not_eq_true', decide_eq_true_eq] at c
    have fin : ∀ p, H p = none → Q (.ref p) (upd H p (.tup [.int (i / j), .int (i % j)])) := fun p hp =>
      k _ _ ρ (fut_new _ hp) (R.new _ hp) (.tup (.inl upd_same) (R.out hp) (.cons (.int _) (.cons (.int _) .nil)))
    rcases c.2 with c2 | c2
    · exact .inl ⟨i, j, by rw [den_int a1, den_int b1], ⟨c.1, c2⟩, fin⟩
    · exact .inr ⟨i, j, by rw [den_int a1, den_int b1], ⟨c.1, c2⟩, fin⟩
  · cases e
def asInt : D → Option Int
  | .int i => some i
  | _ => none
def asInts : List D → Option (List Int)
  | [] => some []
  | d :: ds => (asInt d).bind fun i => (asInts ds).map fun is => i :: is
def asBs : List D → Option (List Bool)
  | [] => some []
  | d :: ds => (asB d).bind fun i => (asBs ds).map fun is => i :: is
theorem den_asInt {ρ : Rho} {H : Hp} {x : V} {d : D} {c : Int} (dn : Den K ρ H x d) (e : asInt d = some c) : x = .int c := by
  cases d <;> simp [asInt] at e
  subst e
  exact den_int dn
theorem dens_ints {ρ : Rho} {H : Hp} : ∀ {xs : List V} {ds : List D} {ns : List Int}, Dens K ρ H xs ds → asInts ds = some ns → xs = ns.map V.int
  | _, _, _, .nil, e => by cases e; rfl
  | _, _, _, .cons a b, e => by
    simp only [asInts] at e
    obtain ⟨i, e1, e2⟩ := Option.bind_eq_some_iff.mp e
    obtain ⟨is, e3, e4⟩ := Option.map_eq_some_iff.mp e2
    cases e4
    rw [den_asInt a e1, dens_ints b e3]
    rfl
theorem dens_bs {ρ : Rho} {H : Hp} : ∀ {xs : List V} {ds : List D} {ns : List Bool}, Dens K ρ H xs ds → asBs ds = some ns → xs = ns.map V.bl
  | _, _, _, .nil, e => by cases e; rfl
  | _, _, _, .cons a b, e => by
    simp only [asBs] at e
    obtain ⟨i, e1, e2⟩ := Option.bind_eq_some_iff.mp e
    obtain ⟨is, e3, e4⟩ := Option.map_eq_some_iff.mp e2
    cases e4
    rw [den_asB a e1, dens_bs b e3]
    rfl
def oSum : Cells → List D → Option D
  | _, [d] => (asL d).bind fun ds => (asInts ds).map fun ns => .int ns.sum
  | _, _ => none
theorem c_sum : OpC K (rSum K) oSum := by
  intro ρ h H xs dxs d Q R a e k
  unfold oSum at e
  split at e
  · obtain ⟨ds, e1, e2⟩ := Option.bind_eq_some_iff.mp e
    obtain ⟨ns, e3, e4⟩ := Option.map_eq_some_iff.mp e2
    cases e4
    obtain ⟨x, rfl, a1⟩ := dens1 a
    obtain ⟨p, vs, rfl, hp⟩ := den_lf a1 e1
    obtain ⟨s1, t1⟩ := hp ρ H (.refl _ _)
    rw [dens_ints t1 e3] at s1
    exact ⟨p, ns, rfl, s1, k _ _ ρ (.refl _ _) R (.int _)⟩
  · cases e
def oAll : Cells → List D → Option D
  | _, [d] => (asL d).bind fun ds => (asBs ds).map fun ns => .bl (ns.all id)
  | _, _ => none
theorem c_all : OpC K (rAll K) oAll := by
  intro ρ h H xs dxs d Q R a e k
  unfold oAll at e
  split at e
  · obtain ⟨ds, e1, e2⟩ := Option.bind_eq_some_iff.mp e
    obtain ⟨ns, e3, e4⟩ := Option.map_eq_some_iff.mp e2
    cases e4
    obtain ⟨x, rfl, a1⟩ := dens1 a
    obtain ⟨p, vs, rfl, hp⟩ := den_lf a1 e1
    obtain ⟨s1, t1⟩ := hp ρ H (.refl _ _)
    rw [dens_bs t1 e3] at s1
    exact ⟨p, ns, rfl, s1, k _ _ ρ (.refl _ _) R (.bl _)⟩
  · cases e
def oTuple : Cells → List D → Option D
  | _, [.lst ds] => some (.tup ds)
  | h, [.cell i] => (h[i]?).map .tup
  | _, _ => none

/-! ### places -/
def asSeq (h : Cells) : D → Option (List D)
  | .tup ds => some ds
  | .lst ds => some ds
  | .frl ds => some ds
  | .cell i => h[i]?
  | _ => none
def oIx : Cells → D → D → Option D
  | h, x, .int i => (asSeq h x).bind fun ds => atI ds i
  | _, _, _ => none
theorem den_atI {ρ : Rho} {H : Hp} {vs : List V} {ds : List D} {i : Int} {d : D} (a : Dens K ρ H vs ds) (e : atI ds i = some d) : ∃ v, atI vs i = some v ∧ Den K ρ H v d := by
  unfold atI at e ⊢
  obtain ⟨j, e1, e2⟩ := Option.bind_eq_some_iff.mp e
  obtain ⟨v, q1, q2⟩ := a.get e2
  exact ⟨v, by rw [a.length, e1]; exact q1, q2⟩
theorem seq_of {ρ : Rho} {h : Cells} {H : Hp} {x : V} {d : D} {ds : List D} (R : Rel K ρ h H) (dn : Den K ρ H x d) (e : asSeq h d = some ds) : ∃ a vs, x = .ref a ∧ (SqL K H a vs ∨ SqT K H a vs) ∧ Dens K ρ H vs ds := by
  cases d <;> simp only [asSeq] at e <;> try (cases e; done)
  · cases e
    obtain ⟨p, vs, rfl, hp⟩ := den_tupF dn
    exact ⟨p, vs, rfl, .inr (hp ρ H (.refl _ _)).1, (hp ρ H (.refl _ _)).2⟩
  · cases e
    obtain ⟨p, vs, rfl, hp⟩ := den_lst dn
    exact ⟨p, vs, rfl, .inl (hp ρ H (.refl _ _)).1, (hp ρ H (.refl _ _)).2⟩
  · cases e
    obtain ⟨p, vs, rfl, hp⟩ := den_frl dn
    exact ⟨p, vs, rfl, .inl (hp ρ H (.refl _ _)).1, (hp ρ H (.refl _ _)).2⟩
  · cases dn with
    | cell c =>
      obtain ⟨vs, q1, q2⟩ := R.at_ _ _ _ c e
      exact ⟨_, vs, rfl, .inl (SqL.of q1), q2⟩
theorem p_ix : Op2 K (rIx K) oIx := by
  intro ρ h H x y dx dy d Q R a b e k
  cases dy <;> simp only [oIx] at e <;> try (cases e; done)
  obtain ⟨ds, e1, e2⟩ := Option.bind_eq_some_iff.mp e
  obtain ⟨p, vs, rfl, hp, dn⟩ := seq_of R a e1
  obtain ⟨v, q1, q2⟩ := den_atI dn e2
  have := den_int b
  subst this
  rcases hp with hp | hp
  · exact .inl ⟨p, vs, _, v, rfl, rfl, hp, q1, k _ _ ρ (.refl _ _) R q2⟩
  · exact .inr (.inl ⟨p, vs, _, v, rfl, rfl, hp, q1, k _ _ ρ (.refl _ _) R q2⟩)
theorem ev_ix {a b : Expr} {pos : Pos} {f g : ME} (ha : EV X a f) (hb : EV X b g) (hs : PlainIx b := by exact fun _ _ => rfl) : EV X (.Subscript a b pos) (mBin oIx f g) :=
  pe_w (pe_ix ix_seq ha hb hs) fun _ _ _ h => rd2 h fun ρ h2 H2 x y dx dy d R a b e k => p_ix ρ h2 H2 x y dx dy d _ R a b e k
/-- slices -/
abbrev MO := MS → Option (Option Int × Cells)
def rdO (K : PySem.W.Frag) (f : MO) : TO := fun σ H Q => ∃ ρ ms o h', Rel K ρ ms.h H ∧ Slots K ρ H ms.s σ ∧ f ms = some (o, h') ∧ ∀ H' ρ', Fut ρ H ρ' H' → Rel K ρ' h' H' → Q o H'
abbrev OV (X : Cx) (e : Option Expr) (f : MO) : Prop := PO X e (rdO X.K f)
theorem po_w {e : Option Expr} {t t' : TO} (h : PO X e t) (w : ∀ σ H Q, t' σ H Q → t σ H Q) : PO X e t' := ⟨fun pins s σ H Q I q => h.run pins s σ H Q I (w σ H Q q)⟩
def mNo : MO := fun ms => some (none, ms.h)
def mSo (f : ME) : MO := fun ms => (f ms).bind fun r => (asInt r.1).map fun i => (some i, r.2)
theorem ov_no : OV X none mNo := po_w po_none fun σ H Q h => by
  obtain ⟨ρ, ms, o, h', R, S, e, q⟩ := h
  cases e
  exact q H ρ (.refl _ _) R
theorem ov_so {e : Expr} {f : ME} (h : EV X e f) : OV X (some e) (mSo f) := po_w (po_some h) fun σ H Q h => by
  obtain ⟨ρ, ms, o, h', R, S, e, q⟩ := h
  obtain ⟨⟨d, h1⟩, e1, e2⟩ := Option.bind_eq_some_iff.mp e
  obtain ⟨i, e3, e4⟩ := Option.map_eq_some_iff.mp e2
  cases e4
  cases d <;> simp only [asInt] at e3 <;> try (cases e3; done)
  cases e3
  exact ⟨ρ, ms, _, _, R, S, e1, fun v H1 ρ1 F1 R1 dn => ⟨_, den_int dn, q H1 ρ1 F1 R1⟩⟩
def cutD (ds : List D) (lo hi : Option Int) : List D := (ds.drop (HT.sIx ds.length 0 lo)).take (HT.sIx ds.length ds.length hi - HT.sIx ds.length 0 lo)
theorem den_cut {ρ : Rho} {H : Hp} {vs : List V} {ds : List D} (a : Dens K ρ H vs ds) (lo hi : Option Int) : Dens K ρ H (cutV vs lo hi) (cutD ds lo hi) := by
  unfold cutV cutD
  rw [a.length]
  exact (a.drop _).take _
def oSl (h : Cells) (x : D) (lo hi : Option Int) : Option D := match x with
  | .tup ds => some (.tup (cutD ds lo hi))
  | .lst ds => some (.lst (cutD ds lo hi))
  | .frl ds => some (.lst (cutD ds lo hi))
  | .cell i => (h[i]?).map fun ds => .lst (cutD ds lo hi)
  | .str z => bif decide (z.length ≤ line) then some (.str (cutS z lo hi)) else none
  | _ => none
def rSlAll (K : PySem.W.Frag) : V → Option Int → Option Int → Hp → VK → Prop := fun x lo hi H Q => rSlL K x lo hi H Q ∨ rSlA K x lo hi H Q ∨ rSlS x lo hi H Q
theorem sl_all : SlR X (rSlAll X.K) := sl_list.or (sl_tupA.or sl_str)
def mSl (f : ME) (lo hi : MO) : ME := fun ms => (f ms).bind fun r => (lo { ms with h := r.2 }).bind fun l => (hi { ms with h := l.2 }).bind fun u => (oSl u.2 r.1 l.1 u.1).map fun d => (d, u.2)
theorem cut_full {α : Type} (ds : List α) (lo hi : Option Int) (h : HT.sIx ds.length 0 lo = 0 ∧ HT.sIx ds.length ds.length hi = ds.length) : (ds.drop (HT.sIx ds.length 0 lo)).take (HT.sIx ds.length ds.length hi - HT.sIx ds.length 0 lo) = ds := by
  rw [h.1, h.2]; simp
theorem ev_slice {e : Expr} {lo hi : Option Expr} {p2 pos : Pos} {f : ME} {l u : MO} (he : EV X e f) (hl : OV X lo l) (hu : OV X hi u) : EV X (.Subscript e (.Slice lo hi none p2) pos) (mSl f l u) := by
  refine pe_w (pe_slice sl_all he hl hu) fun σ H Q h => ?_
  obtain ⟨ρ, ms, d, h', R, S, e, q⟩ := h
  obtain ⟨⟨dx, h1⟩, e1, e2⟩ := Option.bind_eq_some_iff.mp e
  obtain ⟨⟨lo', h2⟩, e3, e4⟩ := Option.bind_eq_some_iff.mp e2
  obtain ⟨⟨hi', h3⟩, e5, e6⟩ := Option.bind_eq_some_iff.mp e4
  obtain ⟨y, e7, e8⟩ := Option.map_eq_some_iff.mp e6
  cases e8
  refine ⟨ρ, ms, dx, h1, R, S, e1, fun x H1 ρ1 F1 R1 d1 => ?_⟩
  refine ⟨ρ1, { ms with h := h1 }, lo', h2, R1, S.fut F1, e3, fun H2 ρ2 F2 R2 => ?_⟩
  refine ⟨ρ2, { ms with h := h2 }, hi', _, R2, (S.fut F1).fut F2, e5, fun H3 ρ3 F3 R3 => ?_⟩
  have dn := (d1.fut F2).fut F3
  have F := (F1.trans F2).trans F3
  cases dx <;> simp only [oSl] at e7 <;> try (cases e7; done)
  · obtain ⟨c, e7⟩ := bif_some e7
    cases e7
    rw [den_str dn]
    exact .inr (.inr ⟨_, rfl, by rw [← line_eq]; exact of_decide_eq_true c, q _ H3 ρ3 F R3 (.str _)⟩)
  · cases e7
    rename_i ds
    obtain ⟨p, vs, rfl, hp⟩ := den_tupF dn
    obtain ⟨s1, t1⟩ := hp ρ3 H3 (.refl _ _)
    refine .inr (.inl ⟨p, vs, rfl, s1, fun z => ?_, fun _ o ho => ?_⟩)
    · rw [t1.length] at z
      have : cutD ds lo' hi' = ds := cut_full ds lo' hi' z
      exact q _ H3 ρ3 F R3 (by rw [this]; exact dn)
    · exact q _ _ ρ3 (F.trans (fut_new _ ho)) (R3.new _ ho) (.tup (.inl upd_same) (R3.out ho) ((den_cut t1 _ _).fut (fut_new _ ho)))
  · cases e7
    obtain ⟨p, vs, rfl, hp⟩ := den_lst dn
    obtain ⟨s1, t1⟩ := hp ρ3 H3 (.refl _ _)
    exact .inl ⟨p, vs, rfl, s1, fun o ho => q _ _ ρ3 (F.trans (fut_new _ ho)) (R3.new _ ho) (.lst upd_same (R3.out ho) ((den_cut t1 _ _).fut (fut_new _ ho)))⟩
  · cases e7
    obtain ⟨p, vs, rfl, hp⟩ := den_frl dn
    obtain ⟨s1, t1⟩ := hp ρ3 H3 (.refl _ _)
    exact .inl ⟨p, vs, rfl, s1, fun o ho => q _ _ ρ3 (F.trans (fut_new _ ho)) (R3.new _ ho) (.lst upd_same (R3.out ho) ((den_cut t1 _ _).fut (fut_new _ ho)))⟩
  · obtain ⟨ds, e9, e10⟩ := Option.map_eq_some_iff.mp e7
    subst e10
    cases dn with
    | cell c =>
      obtain ⟨vs, q1, q2⟩ := R3.at_ _ _ _ c e9
      exact .inl ⟨_, vs, rfl, SqL.of q1, fun o ho => q _ _ ρ3 (F.trans (fut_new _ ho)) (R3.new _ ho) (.lst upd_same (R3.out ho) ((den_cut q2 _ _).fut (fut_new _ ho)))⟩

/-! ### lists that change -/
theorem fut_wr {ρ : Rho} {H : Hp} {a : Addr} {i : Nat} (o : HO) (h : ρ.c[i]? = some a) : Fut ρ H ρ (upd H a o) :=
  .mk1 fun b u n e => by rw [upd_ne (fun z => n (by rw [z]; exact List.mem_of_getElem? h))]; exact e
theorem Rel.wr {ρ : Rho} {h : Cells} {H : Hp} (R : Rel K ρ h H) {a : Addr} {i : Nat} {vs : List V} {ds : List D} (e : ρ.c[i]? = some a) (dn : Dens K ρ H vs ds) : Rel K ρ (h.set i ds) (upd H a (.lst vs)) := by
  have F := fut_wr (H := H) (.lst vs) e
  refine ⟨by simp [R.len], R.nd, R.apart, fun b hb => ?_, fun j b es e1 e2 => ?_⟩
  · obtain ⟨o, q⟩ := R.hidden b hb
    by_cases hba : b = a
    · subst hba; exact ⟨_, upd_same⟩
    · exact ⟨o, by rw [upd_ne hba]; exact q⟩
  by_cases hj : j = i
  · subst hj
    rw [e] at e1
    cases e1
    have hl : j < h.length := by
      obtain ⟨z, _⟩ := List.getElem?_eq_some_iff.mp e
      rw [← R.len]; exact z
    rw [List.getElem?_set_self hl] at e2
    cases e2
    exact ⟨vs, upd_same, dn.fut F⟩
  · rw [List.getElem?_set_ne (Ne.symm hj)] at e2
    obtain ⟨ws, q1, q2⟩ := R.at_ j b es e1 e2
    refine ⟨ws, ?_, q2.fut F⟩
    rw [upd_ne ?_]
    · exact q1
    · rintro rfl
      obtain ⟨z1, w1⟩ := List.getElem?_eq_some_iff.mp e
      obtain ⟨z2, w2⟩ := List.getElem?_eq_some_iff.mp e1
      exact hj ((List.getElem_inj R.nd).mp (w2.trans w1.symm))
def mApp (f : ME) (g : MA) : ME := fun ms => (f ms).bind fun r => (g { ms with h := r.2 }).bind fun s => match r.1, s.1 with
  | .cell i, [d] => (s.2[i]?).bind fun ds => bif decide (ds.length < line) then some (.non, s.2.set i (ds ++ [d])) else none
  | _, _ => none
theorem ev_app {o e : Expr} {apos cpos : Pos} {f : ME} {g : MA} (ho : EV X o f) (ha : AV X [e] g) (hbase : attributeBase o "append" X.env (eval o X.env) = eval o X.env := by rfl)
    (hfew : ((backTo cpos (starEach [e] X.env)).all (fun x => !x.1) && (backToKw cpos (keywordEach [] X.env)).all (fun x => x.1.isSome)
      && decide (([e] : List Expr).length + ([] : List Keyword).length + (if ([] : List Keyword).isEmpty then 0 else 1) < 30)) = true := by rfl)
    (hline : (apos.endLine == cpos.line) = true := by rfl) (hs : starEach [e] X.env = (false, eval e X.env) :: starEach [] X.env := by rfl) (hplain : (backTo cpos (starEach [] X.env)).any (·.1) = false := by rfl) :
    EV X (.Call (.Attribute o "append" apos) [e] [] cpos) (mApp f g) := by
  refine pe_w (pe_bm PySem.F.plainAttrs_list PySem.F.slot_list_append PySem.F.type_list_append mt_append ho ha hbase hfew hline hs hplain) fun σ H Q h => ?_
  obtain ⟨ρ, ms, d, h', R, S, e, q⟩ := h
  obtain ⟨⟨dx, h1⟩, e1, e2⟩ := Option.bind_eq_some_iff.mp e
  obtain ⟨⟨ds, h2⟩, e3, e4⟩ := Option.bind_eq_some_iff.mp e2
  dsimp only at e4
  split at e4
  · rename_i i d1
    obtain ⟨es, e5, e6⟩ := Option.bind_eq_some_iff.mp e4
    obtain ⟨c, e7⟩ := bif_some e6
    cases e7
    refine ⟨ρ, ms, .cell i, h1, R, S, e1, fun x H1 ρ1 F1 R1 dn1 => ?_⟩
    have dn1' := dn1
    cases dn1 with
    | cell g1 =>
      rename_i a
      have hl : i < h1.length := by
        obtain ⟨z, _⟩ := List.getElem?_eq_some_iff.mp g1
        rw [← R1.len]; exact z
      obtain ⟨vs0, q0, _⟩ := R1.at_ _ _ _ g1 (List.getElem?_eq_getElem hl)
      refine ⟨Or.inl ⟨rfl, _, SqL.of q0⟩, ρ1, { ms with h := h1 }, [d1], h2, R1, S.fut F1, e3, fun xs H2 ρ2 F2 R2 dn2 => ?_⟩
      obtain ⟨x2, rfl, dn3⟩ := dens1 dn2
      have g2 := F2.cellAt g1
      obtain ⟨vs, q1, q2⟩ := R2.at_ _ _ _ g2 e5
      refine ⟨a, vs, x2, rfl, rfl, q1, by rw [q2.length, ← line_eq]; exact of_decide_eq_true c, ?_⟩
      exact q _ _ ρ2 ((F1.trans F2).trans (fut_wr _ g2)) (R2.wr g2 (q2.append (.cons dn3 .nil))) .non
  · cases e4
/-- o[i] = v -/
def gSubD (f g : ME) : MG := fun d ms => (f ms).bind fun r => (g { ms with h := r.2 }).bind fun s => match r.1, s.1 with
  | .cell c, .int k => (s.2[c]?).bind fun ds => (ixN ds.length k).map fun j => { ms with h := s.2.set c (ds.set j d) }
  | _, _ => none
theorem gv_sub {o i : Expr} {pos : Pos} {f g : ME} (ho : EV X o f) (hi : EV X i g)
    (ha : ∀ v, assign (.Subscript o i pos) X.env v = (do
      let ov ← holding [v] (eval o X.env)
      let iv ← holding [v, ov] (eval i X.env)
      standAt pos
      holding [v, ov, iv] (setItem ov iv v)
      release [v, ov, iv] []) := by intro _; rfl) : GV X (.Subscript o i pos) (gSubD f g) := by
  refine pg_w (pg_sub ho hi set_list ha) fun v σ H Q h => ?_
  obtain ⟨ρ, ms, d, ms', R, S, dn, e, q⟩ := h
  obtain ⟨⟨dx, h1⟩, e1, e2⟩ := Option.bind_eq_some_iff.mp e
  obtain ⟨⟨dy, h2⟩, e3, e4⟩ := Option.bind_eq_some_iff.mp e2
  dsimp only at e4
  split at e4
  · rename_i c k
    obtain ⟨ds, e5, e6⟩ := Option.bind_eq_some_iff.mp e4
    obtain ⟨j, e7, e8⟩ := Option.map_eq_some_iff.mp e6
    cases e8
    refine ⟨ρ, ms, .cell c, h1, R, S, e1, fun x H1 ρ1 F1 R1 dn1 => ?_⟩
    refine ⟨ρ1, { ms with h := h1 }, .int k, h2, R1, S.fut F1, e3, fun y H2 ρ2 F2 R2 dn2 => ?_⟩
    have dn1 := dn1.fut F2
    cases dn1 with
    | cell g1 =>
      obtain ⟨vs, q1, q2⟩ := R2.at_ _ _ _ g1 e5
      have F := F1.trans F2
      refine ⟨_, vs, k, j, rfl, den_int dn2, q1, by rw [q2.length]; exact e7, ?_⟩
      exact q _ ρ2 σ (F.trans (fut_wr _ g1)) (R2.wr g1 (q2.set (dn.fut F) j)) (S.fut (F.trans (fut_wr _ g1)))
  · cases e4
/-- a, b = x, y and a, b, c = x, y, z, plain names -/
def mPar (i j : Nat) (f : MA) : MB := fun ms => (f ms).bind fun r => match r.1 with
  | [x, y] => some (.nx, ⟨(ms.s.set i (some x)).set j (some y), r.2⟩)
  | _ => none
theorem bv_par {x y : Str} {a b : Expr} {f : MA} {px py pt pos : Pos} {kt k2 pt2} (i j : Nat) (hc : X.calm = true) (hN : X.N.Nodup) (ha : AV X [a, b] f) (hi : X.N[i]? = some x := by rfl) (hj : X.N[j]? = some y := by rfl) (hij : i ≠ j := by decide)
    (hx : X.env.scope.names.lookup x = some .local := by rfl) (hy : X.env.scope.names.lookup y = some .local := by rfl)
    (hw : swappedStores [.Tuple [.Name x px, .Name y py] kt pt] (.Tuple [a, b] k2 pt2) X.env = pure (some [x, y]) := by rfl)
    (hs : swapsWithSole [.Tuple [.Name x px, .Name y py] kt pt] (.Tuple [a, b] k2 pt2) pos.line X.env = pure false := by rfl) :
    BV X (.Assign [.Tuple [.Name x px, .Name y py] kt pt] (.Tuple [a, b] k2 pt2) pos) (mPar i j f) := by
  refine ps_w (ps_par hc hN hi hj hij hx hy ha hw hs) fun D σ H h => ?_
  obtain ⟨ρ, ms, o, ms', R, S, e, q⟩ := h
  obtain ⟨⟨ds, h1⟩, e1, e2⟩ := Option.bind_eq_some_iff.mp e
  dsimp only at e2
  split at e2
  · cases e2
    refine ⟨ρ, ms, _, h1, R, S, e1, fun vs H1 ρ1 F1 R1 dn => ?_⟩
    obtain ⟨u, v, rfl, du, dv⟩ := dens2 dn
    exact ⟨u, v, rfl, q H1 ρ1 F1 R1 _ (((S.fut F1).set i du).set j dv)⟩
  · cases e2
def mPar3 (i j l : Nat) (f : MA) : MB := fun ms => (f ms).bind fun r => match r.1 with
  | [x, y, z] => some (.nx, ⟨((ms.s.set i (some x)).set j (some y)).set l (some z), r.2⟩)
  | _ => none
theorem bv_par3 {x y z : Str} {a b c : Expr} {f : MA} {px py pz pt pos : Pos} {kt k2 pt2} (i j l : Nat) (hc : X.calm = true) (hN : X.N.Nodup) (ha : AV X [a, b, c] f) (hi : X.N[i]? = some x := by rfl) (hj : X.N[j]? = some y := by rfl) (hl : X.N[l]? = some z := by rfl) (hij : i ≠ j := by decide) (hil : i ≠ l := by decide) (hjl : j ≠ l := by decide)
    (hx : X.env.scope.names.lookup x = some .local := by rfl) (hy : X.env.scope.names.lookup y = some .local := by rfl) (hz : X.env.scope.names.lookup z = some .local := by rfl)
    (hw : swappedStores [.Tuple [.Name x px, .Name y py, .Name z pz] kt pt] (.Tuple [a, b, c] k2 pt2) X.env = pure (some [x, y, z]) := by rfl)
    (hs : swapsWithSole [.Tuple [.Name x px, .Name y py, .Name z pz] kt pt] (.Tuple [a, b, c] k2 pt2) pos.line X.env = pure false := by rfl) :
    BV X (.Assign [.Tuple [.Name x px, .Name y py, .Name z pz] kt pt] (.Tuple [a, b, c] k2 pt2) pos) (mPar3 i j l f) := by
  refine ps_w (ps_par3 hc hN hi hj hl hij hil hjl hx hy hz ha hw hs) fun D σ H h => ?_
  obtain ⟨ρ, ms, o, ms', R, S, e, q⟩ := h
  obtain ⟨⟨ds, h1⟩, e1, e2⟩ := Option.bind_eq_some_iff.mp e
  dsimp only at e2
  split at e2
  · cases e2
    refine ⟨ρ, ms, _, h1, R, S, e1, fun vs H1 ρ1 F1 R1 dn => ?_⟩
    cases dn with
    | cons du dn =>
      obtain ⟨v, w, rfl, dv, dw⟩ := dens2 dn
      exact ⟨_, v, w, rfl, q H1 ρ1 F1 R1 _ ((((S.fut F1).set i du).set j dv).set l dw)⟩
  · cases e2
/-- name += e of ints -/
def mAugI (i : Nat) (p : Int → Int → Int) (f : ME) : MB := fun ms => match ms.s[i]? with
  | some (some (.int a)) => (f ms).bind fun r => match r.1 with
    | .int b => some (.nx, ⟨ms.s.set i (some (.int (p a b))), r.2⟩)
    | _ => none
  | _ => none
theorem bv_augI {x : Str} {e : Expr} {op : Operator} {p : Int → Int → Int} {pos pos' : Pos} {f : ME} (i : Nat) (hN : X.N.Nodup) (ho : OpR X (inplaceOp op) (rI0 fun i j => .int (p i j))) (he : EV X e f) (hi : X.N[i]? = some x := by rfl) (hx : Loc X.env.scope x := by first | exact Or.inl rfl | exact Or.inr rfl)
    (hf : X.fn x = true ∨ X.env.scope.names.lookup x = some .local := by first | exact .inl rfl | exact .inr rfl) : BV X (.AugAssign (.Name x pos') op e pos) (mAugI i p f) := by
  have ho' : PIp X op (fun x y H Q => ∃ i j, x = .int i ∧ y = .int j ∧ Q (.int (p i j)) H) := fun pins s σ H x y v u Q I rx ry t => ho pins s σ H x y v u Q I rx ry t
  refine ps_w (ps_aug hN hi hx he ho' hf) fun D σ H h => ?_
  obtain ⟨ρ, ms, o, ms', R, S, e, q⟩ := h
  unfold mAugI at e
  split at e
  · rename_i a ha
    obtain ⟨⟨d, h1⟩, e1, e2⟩ := Option.bind_eq_some_iff.mp e
    dsimp only at e2
    split at e2
    · rename_i b
      cases e2
      obtain ⟨v, g1, g2⟩ := S.2 i _ ha
      refine ⟨v, g1, ρ, ms, _, h1, R, S, e1, fun y H1 ρ1 F1 R1 dn => ⟨a, b, den_int g2, den_int dn, ?_⟩⟩
      exact q H1 ρ1 F1 R1 _ ((S.fut F1).set i (.int _))
    · cases e2
  · cases e
end
end Zm

set_option Elab.async false
set_option linter.all false
set_option maxRecDepth 100000
/-! Zi: comprehensions; more walks. -/
namespace Zm
open PySem L2
section
variable {X : Cx} {K : PySem.W.Frag}

/-! ### comprehensions -/
theorem wipe_get (σ : L2.St) (j : Nat) : ∀ vs : List Nat, (wipe σ vs)[j]? = if j ∈ vs then (if j < σ.length then some none else none) else σ[j]?
  | [] => by simp [wipe]
  | v :: vs => by
    have ih := wipe_get σ j vs
    show ((wipe σ vs).set v none)[j]? = _
    by_cases e : v = j
    · subst e
      by_cases hl : v < σ.length
      · rw [List.getElem?_set_self (by rw [wipe_length]; exact hl)]; simp [hl]
      · rw [List.getElem?_eq_none (by rw [List.length_set, wipe_length]; omega)]; simp [hl]
    · rw [List.getElem?_set_ne e, ih]
      simp [Ne.symm e]
theorem wipe_set {σ : L2.St} {i : Nat} {x : Option V} {vs : List Nat} (h : i ∈ vs) : wipe (σ.set i x) vs = wipe σ vs := by
  apply List.ext_getElem?
  intro j
  rw [wipe_get, wipe_get]
  by_cases hj : j ∈ vs
  · simp [hj]
  · simp only [hj, if_false]
    rw [List.getElem?_set_ne (fun z => hj (by rw [← z]; exact h))]
/-- a target that stores names at vs alone -/
def TgOk (K : PySem.W.Frag) (t : TG) (g : MG) (vs : List Nat) : Prop :=
  ∀ ρ ms ms' H v d (σ : L2.St) (Q : L2.St → Hp → Prop), Slots K ρ H ms.s σ → Den K ρ H v d → g d ms = some ms' → (∀ σ', wipe σ' vs = wipe σ vs → Slots K ρ H ms'.s σ' → ms'.h = ms.h → Q σ' H) → t v σ H Q
theorem tg_name {i : Nat} {vs : List Nat} (h : i ∈ vs) : TgOk K (gName i) (gN i) vs := by
  intro ρ ms ms' H v d σ Q S dn e k
  cases e
  exact k _ (wipe_set h) (S.set i dn) rfl
def TgsOk (K : PySem.W.Frag) (t : TGs) (g : MGs) (vs : List Nat) : Prop :=
  ∀ ρ ms ms' H v d (σ : L2.St) (Q : L2.St → Hp → Prop), Slots K ρ H ms.s σ → Dens K ρ H v d → g d ms = some ms' → (∀ σ', wipe σ' vs = wipe σ vs → Slots K ρ H ms'.s σ' → ms'.h = ms.h → Q σ' H) → t v σ H Q
theorem tgs_nil {vs : List Nat} : TgsOk K gNil gsNil vs := by
  intro ρ ms ms' H v d σ Q S dn e k
  cases dn with
  | nil => cases e; exact ⟨rfl, k σ rfl S rfl⟩
  | cons a b => cases e
theorem tgs_cons {t : TG} {g : MG} {ts : TGs} {gs : MGs} {vs : List Nat} (h1 : TgOk K t g vs) (h2 : TgsOk K ts gs vs) : TgsOk K (gCons t ts) (gsCons g gs) vs := by
  intro ρ ms ms' H v d σ Q S dn e k
  cases dn with
  | nil => cases e
  | cons a b =>
    obtain ⟨m1, e1, e2⟩ := Option.bind_eq_some_iff.mp e
    exact ⟨_, _, rfl, h1 ρ ms m1 H _ _ σ _ S a e1 fun σ1 w1 S1 hh1 => h2 ρ m1 ms' H _ _ σ1 _ S1 b e2 fun σ2 w2 S2 hh2 => k σ2 (w2.trans w1) S2 (hh2.trans hh1)⟩
theorem tg_tup {ts : TGs} {gs : MGs} {n : Nat} {vs : List Nat} (h : TgsOk K ts gs vs) : TgOk K (gTup K n ts) (gT n gs) vs := by
  intro ρ ms ms' H v d σ Q S dn e k
  cases d <;> simp only [gT] at e <;> try (cases e; done)
  rename_i ds
  obtain ⟨a, xs, rfl, hq, dn⟩ := den_tup dn
  cases hl : (ds.length == n) with
  | false => simp [hl] at e
  | true =>
    simp only [hl, cond_true] at e
    exact ⟨a, xs, rfl, hq, by rw [dn.length]; simpa using hl, h ρ ms ms' H _ _ σ _ S dn e k⟩
/-! a list in the making is hidden -/
def Rho.hide (ρ : Rho) (a : Addr) : Rho := ⟨ρ.c, a :: ρ.v⟩
def Rho.shows (ρ : Rho) (a : Addr) : Rho := ⟨ρ.c, ρ.v.filter fun b => decide (b ≠ a)⟩
theorem fut_hide {ρ : Rho} {H : Hp} {p : Addr} (o : HO) (hp : H p = none) (hc : p ∉ ρ.c) : Fut ρ H (ρ.hide p) (upd H p o) :=
  ⟨fun a u _ e => by rw [upd_ne (ne_of_none e hp)]; exact e, ⟨[], by simp [Rho.hide]⟩, fun _ h => List.mem_cons_of_mem _ h, fun a h => by
    rcases List.mem_cons.mp h with z | z
    · subst z; exact .inr ⟨hp, hc⟩
    · exact .inl z, fun a h n => absurd h n⟩
-- the hidden list is written
mutual
theorem Den.poke {ρ : Rho} {H : Hp} {p : Addr} {o : HO} (hp : p ∈ ρ.v) : ∀ {v : V} {d : D}, Den K ρ H v d → Den K ρ (upd H p o) v d
  | _, _, .non => .non
  | _, _, .bl b => .bl b
  | _, _, .int i => .int i
  | _, _, .str x => .str x
  | _, _, .tup (a := a) h n ds => .tup (by unfold Rd; rw [upd_ne (fun z : a = p => n (.inr (by rw [z]; exact hp)))]; exact h) n (Dens.poke hp ds)
  | _, _, .tupK h ds => .tupK h (Dens.poke hp ds)
  | _, _, .lst (a := a) h n ds => .lst (by rw [upd_ne (fun z : a = p => n (.inr (by rw [z]; exact hp)))]; exact h) n (Dens.poke hp ds)
  | _, _, .frl (a := a) h n ds => .frl (by unfold Rd; rw [upd_ne (fun z : a = p => n (.inr (by rw [z]; exact hp)))]; exact h) n (Dens.poke hp ds)
  | _, _, .frlK h ds => .frlK h (Dens.poke hp ds)
  | _, _, .ty n => .ty n
  | _, _, .dic (a := a) h n => .dic (by rw [upd_ne (fun z : a = p => n (.inr (by rw [z]; exact hp)))]; exact h) n
  | _, _, .rng (a := a) h n => .rng (by rw [upd_ne (fun z : a = p => n (.inr (by rw [z]; exact hp)))]; exact h) n
  | _, _, .hid a => .hid a
  | _, _, .cell h => .cell h
theorem Dens.poke {ρ : Rho} {H : Hp} {p : Addr} {o : HO} (hp : p ∈ ρ.v) : ∀ {vs : List V} {ds : List D}, Dens K ρ H vs ds → Dens K ρ (upd H p o) vs ds
  | _, _, .nil => .nil
  | _, _, .cons a b => .cons (Den.poke hp a) (Dens.poke hp b)
end
-- it is shown again
theorem Rho.showOut {ρ : Rho} {p a : Addr} (h : a ∉ ρ) : a ∉ ρ.shows p := Rho.out (Rho.notIn h).1 fun z => (Rho.notIn h).2 (List.mem_filter.mp z).1
mutual
theorem Den.shows {ρ : Rho} {H : Hp} {p : Addr} : ∀ {v : V} {d : D}, Den K ρ H v d → Den K (ρ.shows p) H v d
  | _, _, .non => .non
  | _, _, .bl b => .bl b
  | _, _, .int i => .int i
  | _, _, .str x => .str x
  | _, _, .tup h n ds => .tup h (Rho.showOut n) (Dens.shows ds)
  | _, _, .tupK h ds => .tupK h (Dens.shows ds)
  | _, _, .lst h n ds => .lst h (Rho.showOut n) (Dens.shows ds)
  | _, _, .frl h n ds => .frl h (Rho.showOut n) (Dens.shows ds)
  | _, _, .frlK h ds => .frlK h (Dens.shows ds)
  | _, _, .ty n => .ty n
  | _, _, .dic h n => .dic h (Rho.showOut n)
  | _, _, .rng h n => .rng h (Rho.showOut n)
  | _, _, .hid a => .hid a
  | _, _, .cell h => .cell h
theorem Dens.shows {ρ : Rho} {H : Hp} {p : Addr} : ∀ {vs : List V} {ds : List D}, Dens K ρ H vs ds → Dens K (ρ.shows p) H vs ds
  | _, _, .nil => .nil
  | _, _, .cons a b => .cons (Den.shows a) (Dens.shows b)
end
theorem Rel.hide {ρ : Rho} {h : Cells} {H : Hp} (R : Rel K ρ h H) {p : Addr} (o : HO) (hp : H p = none) : Rel K (ρ.hide p) h (upd H p o) := by
  have F := fut_hide (ρ := ρ) o hp (Rho.notIn (R.out hp)).1
  refine ⟨R.len, R.nd, fun a ha z => ?_, fun a ha => ?_, fun i a ds e1 e2 => ?_⟩
  · rcases List.mem_cons.mp z with y | y
    · subst y; exact R.out hp (.inl ha)
    · exact R.apart a ha y
  · rcases List.mem_cons.mp ha with z | z
    · subst z; exact ⟨_, upd_same⟩
    · exact (R.new o hp).hidden a z
  · obtain ⟨vs, q, dn⟩ := R.at_ i a ds e1 e2
    exact ⟨vs, by rw [upd_ne (ne_of_none q hp)]; exact q, dn.fut F⟩
theorem Rel.poke {ρ : Rho} {h : Cells} {H : Hp} (R : Rel K ρ h H) {p : Addr} (o : HO) (hp : p ∈ ρ.v) : Rel K ρ h (upd H p o) :=
  ⟨R.len, R.nd, R.apart, fun a ha => by
    by_cases z : a = p
    · subst z; exact ⟨_, upd_same⟩
    · obtain ⟨u, q⟩ := R.hidden a ha
      exact ⟨u, by rw [upd_ne z]; exact q⟩, fun i a ds e1 e2 => by
    obtain ⟨vs, q, dn⟩ := R.at_ i a ds e1 e2
    exact ⟨vs, by rw [upd_ne (fun z => R.apart a (List.mem_of_getElem? e1) (by rw [z]; exact hp))]; exact q, dn.poke hp⟩⟩
theorem Rel.shows {ρ : Rho} {h : Cells} {H : Hp} {p : Addr} (R : Rel K ρ h H) : Rel K (ρ.shows p) h H :=
  ⟨R.len, R.nd, fun a ha z => R.apart a ha (List.mem_filter.mp z).1, fun a ha => R.hidden a (List.mem_filter.mp ha).1, fun i a ds e1 e2 => by
    obtain ⟨vs, q, dn⟩ := R.at_ i a ds e1 e2
    exact ⟨vs, q, dn.shows⟩⟩
def wipeD (l : List (Option D)) (vs : List Nat) : List (Option D) := vs.foldr (fun v l => l.set v none) l
def mCompL (g : MG) (t : MT) (e : ME) (w : List (Option D)) : List D → Cells → Option (List D × Cells)
  | [], h => some ([], h)
  | d :: ds, h => (g d ⟨w, h⟩).bind fun m1 => (t m1).bind fun b => bif b.1 then (e ⟨m1.s, b.2⟩).bind fun y => (mCompL g t e w ds y.2).map fun r => (y.1 :: r.1, r.2) else mCompL g t e w ds b.2
def mComp (f : MI) (g : MG) (t : MT) (e : ME) (vs : List Nat) : ME := fun ms => (f ms).bind fun r => (mCompL g t e (wipeD ms.s vs) r.1 r.2).bind fun q => bif decide (q.1.length ≤ line) then some (.lst q.1, q.2) else none
def mYes : MT := fun ms => some (true, ms.h)
theorem rd_yes {σ : L2.St} {H : Hp} {Q : Bool → Hp → Prop} (h : rdT K mYes σ H Q) : tYes σ H Q := by
  obtain ⟨ρ, ms, b, h', R, S, e, q⟩ := h
  cases e
  exact q H ρ (.refl _ _) R
theorem pts_w {es : List Expr} {t t' : TT} (h : PTs X es t) (w : ∀ σ H Q, t' σ H Q → t σ H Q) : PTs X es t' := ⟨fun pins s σ H Q I q => h.run pins s σ H Q I (w σ H Q q)⟩
theorem tvs_nil : PTs X [] (rdT X.K mYes) := pts_w pts_nil fun _ _ _ => rd_yes
theorem tvs_one {c : Expr} {f : MT} (h : TV X c f) : PTs X [c] (rdT X.K f) := pts_one h
theorem rd_lc {f : MI} {g : MG} {tG : TG} {t : MT} {e : ME} {vs : List Nat} (hG : TgOk K tG g vs) {σ : L2.St} {H : Hp} {Q : VK} (h : rdE K (mComp f g t e vs) σ H Q) : tLc (rdI K f) tG (rdT K t) (rdE K e) vs σ H Q := by
  obtain ⟨ρ, ms, d, h', R, S, e0, q⟩ := h
  obtain ⟨⟨ds, h1⟩, e1, e2⟩ := Option.bind_eq_some_iff.mp e0
  obtain ⟨⟨out, h2⟩, e3, e4⟩ := Option.bind_eq_some_iff.mp e2
  obtain ⟨hz, e5⟩ := bif_some e4
  cases e5
  have hz' : out.length ≤ line := of_decide_eq_true hz
  refine ⟨ρ, ms, ds, h1, R, S, e1, fun J H1 ρ1 F1 R1 Y Ad hAd => ?_⟩
  have nAc : Ad ∉ ρ1.c := (Rho.notIn (R1.out hAd)).1
  refine ⟨fun i m H2 => m = ds.length - i ∧ i ≤ ds.length ∧ ∃ ρ2 hh acc dacc rest, Fut ρ1 H1 ρ2 H2 ∧ Rel K ρ2 hh H2 ∧ H2 Ad = some (.lst acc) ∧ Ad ∈ ρ2.v ∧ Dens K ρ2 H2 acc dacc ∧ mCompL g t e (wipeD ms.s vs) (ds.drop i) hh = some (rest, h2) ∧ dacc ++ rest = out,
    ⟨_, rfl, Nat.zero_le _, ρ1.hide Ad, h1, [], [], out, fut_hide _ hAd nAc, R1.hide _ hAd, upd_same, List.mem_cons_self, .nil, e3, rfl⟩, ?_⟩
  rintro i m H2 ⟨rfl, hi, ρ2, hh, acc, dacc, rest, F2, R2, hA, nA, dn, e6, e7⟩
  obtain ⟨ystop, ygo⟩ := Y i ρ2 H2 hh F2 R2
  by_cases hl : i < ds.length
  · right
    obtain ⟨g1, g2⟩ := ygo _ (List.getElem?_eq_getElem hl)
    rw [List.drop_eq_getElem_cons hl] at e6
    simp only [mCompL] at e6
    obtain ⟨m1, e8, e9⟩ := Option.bind_eq_some_iff.mp e6
    obtain ⟨⟨b, hb⟩, e10, e11⟩ := Option.bind_eq_some_iff.mp e9
    refine ⟨g1, fun H3 => ∃ ρ2 hh acc dacc rest, Fut ρ1 H1 ρ2 H3 ∧ Rel K ρ2 hh H3 ∧ H3 Ad = some (.lst acc) ∧ Ad ∈ ρ2.v ∧ Dens K ρ2 H3 acc dacc ∧ mCompL g t e (wipeD ms.s vs) (ds.drop (i + 1)) hh = some (rest, h2) ∧ dacc ++ rest = out, fun H' w => ⟨ds.length - (i + 1), by omega, rfl, hl, w⟩, fun x H' y => ?_⟩
    obtain ⟨Fy, Ry, dy⟩ := g2 x H' y
    have Fs : Fut ρ H ρ2 H' := F1.trans (F2.trans Fy)
    have nc2 : Ad ∉ ρ2.c := fun z => R2.apart Ad z nA
    have hA' := Fy.keep _ _ nc2 hA
    refine hG ρ2 ⟨wipeD ms.s vs, hh⟩ m1 H' x _ _ _ ((S.fut Fs).wipe vs) dy e8 fun σ3 hw S3 hh3 => ⟨?_, ?_⟩
    · apply List.ext_getElem?
      intro j
      have hw2 := congrArg (fun l => l[j]?) hw
      simp only [wipe_get, wipe_length] at hw2 ⊢
      by_cases hj : j ∈ vs
      · simpa [hj] using hw2
      · simpa [hj] using hw2
    · refine ⟨ρ2, m1, b, hb, by rw [hh3]; exact Ry, S3, e10, fun H4 ρ4 F4 R4 => ?_⟩
      have hA4 := F4.keep _ _ nc2 hA'
      have nA4 : Ad ∈ ρ4.v := F4.sub _ nA
      have nc4 : Ad ∉ ρ4.c := fun z => R4.apart Ad z nA4
      cases b with
      | false =>
        exact iteF ⟨ρ4, hb, acc, dacc, rest, (F2.trans Fy).trans F4, R4, hA4, nA4, (dn.fut Fy).fut F4, e11, e7⟩
      | true =>
        obtain ⟨⟨y, hy⟩, e12, e13⟩ := Option.bind_eq_some_iff.mp e11
        obtain ⟨⟨r2, h6⟩, e14, e15⟩ := Option.map_eq_some_iff.mp e13
        cases e15
        refine iteT ⟨ρ4, ⟨m1.s, hb⟩, y, hy, R4, S3.fut F4, e12, fun v H5 ρ5 F5 R5 dv => ?_⟩
        have hA5 := F5.keep _ _ nc4 hA4
        have nA5 : Ad ∈ ρ5.v := F5.sub _ nA4
        have F15 := ((F2.trans Fy).trans F4).trans F5
        have dn5 := (dn.fut (Fy.trans F4)).fut F5
        have hlen : acc.length < sizeLine := by
          rw [dn.length, ← line_eq]
          have : (dacc ++ y :: r2).length ≤ line := by rw [e7]; exact hz'
          simp at this
          omega
        refine ⟨acc, hA5, hlen, ρ5, hy, acc ++ [v], dacc ++ [y], r2, ?_, R5.poke _ nA5, upd_same, nA5, ?_, e14, by simpa using e7⟩
        · refine ⟨fun a o n e => ?_, F15.ext, F15.sub, F15.hid, F15.fresh⟩
          rw [upd_ne (ne_of_none e hAd)]
          exact F15.keep a o n e
        · exact Dens.append (dn5.poke nA5) (.cons (dv.poke nA5) .nil)
  · left
    have hie : i = ds.length := by omega
    rw [List.drop_eq_nil_of_le (Nat.le_of_not_lt hl)] at e6
    cases e6
    refine ⟨ystop (Nat.le_of_not_lt hl), ?_⟩
    rw [List.append_nil] at e7
    subst e7
    have F3 : Fut ρ1 H1 (ρ2.shows Ad) H2 := ⟨F2.keep, F2.ext, fun a ha => List.mem_filter.mpr ⟨F2.sub a ha, decide_eq_true fun z => by
      obtain ⟨o, q⟩ := R1.hidden a ha
      rw [z, hAd] at q; cases q⟩, fun a ha => F2.hid a (List.mem_filter.mp ha).1, F2.fresh⟩
    refine q _ H2 (ρ2.shows Ad) (F1.trans F3) R2.shows (.lst hA (Rho.out (fun z => R2.apart Ad z nA) fun z => ?_) dn.shows)
    have := of_decide_eq_true (List.mem_filter.mp z).2
    exact this rfl
/-- [e for tg in src if t] -/
theorem ev_lc {elt tg iter : Expr} {ifs : List Expr} {scope : Scope} {own : List (Str × Nat)} {vs : List Nat} {pos : Pos} {f : MI} {g : MG} {tG : TG} {t : MT} {e : ME} (hc : X.calm = true) (hN : X.N.Nodup) (hi : IV X tg iter f) (hG : TgOk X.K tG g vs) (ok : BlkOk X.N X.env.scope scope own) (hvs : own.map (·.2) = vs)
    (hg : ∀ (s : Shared) (H : Hp) (C : Addr) (cl : List (Str × Addr)) (fp : List Addr), PG (X.blk s H scope (compEnvC scope cl C X.env) fp) tg tG) (ht : ∀ (s : Shared) (H : Hp) (C : Addr) (cl : List (Str × Addr)) (fp : List Addr), PTs (X.blk s H scope (compEnvC scope cl C X.env) fp) ifs (rdT X.K t))
    (he : ∀ (s : Shared) (H : Hp) (C : Addr) (cl : List (Str × Addr)) (fp : List Addr), PE (X.blk s H scope (compEnvC scope cl C X.env) fp) elt (rdE X.K e)) (hs : ∀ x, foldedSetIterable iter X.env x = pure x := by intro _; rfl) :
    EV X (.ListComp elt [⟨tg, iter, ifs, 0⟩] scope pos) (mComp f g t e vs) := by
  subst hvs
  exact pe_w (pe_lc hc hN hi ok hg ht he hs) fun _ _ _ h => rd_lc hG h
theorem bv_setLc {y : Str} {py : Pos} {elt tg iter : Expr} {ifs : List Expr} {scope : Scope} {own : List (Str × Nat)} {vs : List Nat} {pos spos : Pos} {f : MI} {g : MG} {tG : TG} {t : MT} {e : ME} (i : Nat) (hc : X.calm = true) (hN : X.N.Nodup) (hi : IV X tg iter f) (hG : TgOk X.K tG g vs) (ok : BlkOk X.N X.env.scope scope own) (hvs : own.map (·.2) = vs)
    (hsw : swapsWith (.ListComp elt [⟨tg, iter, ifs, 0⟩] scope pos) (some (.Name y py)) spos.line X.env = pure true)
    (hg : ∀ (s : Shared) (H : Hp) (C : Addr) (cl : List (Str × Addr)) (fp : List Addr), PG (X.blk s H scope (compEnvC scope cl C X.env) fp) tg tG) (ht : ∀ (s : Shared) (H : Hp) (C : Addr) (cl : List (Str × Addr)) (fp : List Addr), PTs (X.blk s H scope (compEnvC scope cl C X.env) fp) ifs (rdT X.K t))
    (he : ∀ (s : Shared) (H : Hp) (C : Addr) (cl : List (Str × Addr)) (fp : List Addr), PE (X.blk s H scope (compEnvC scope cl C X.env) fp) elt (rdE X.K e)) (hy : X.N[i]? = some y := by rfl) (hyl : X.env.scope.names.lookup y = some .local := by rfl) (hs : ∀ x, foldedSetIterable iter X.env x = pure x := by intro _; rfl) :
    BV X (.Assign [.Name y py] (.ListComp elt [⟨tg, iter, ifs, 0⟩] scope pos) spos) (mAsg (mComp f g t e vs) (gN i)) := by
  subst hvs
  exact ps_w (ps_setLc hc hN hy hyl hsw hi ok hg ht he hs) fun D σ H h => rd_lc hG (by
    obtain ⟨ρ, ms, o, ms', R, S, e, q⟩ := h
    obtain ⟨r, e1, e2⟩ := Option.bind_eq_some_iff.mp e
    obtain ⟨d, h1⟩ := r
    cases e2
    exact ⟨ρ, ms, d, h1, R, S, e1, fun v H1 ρ1 F1 R1 dn => q H1 ρ1 F1 R1 _ ((S.fut F1).set i dn)⟩)
end
end Zm

set_option Elab.async false
set_option linter.all false
set_option maxRecDepth 100000
/-! Zj: more operators and walks. -/
namespace Zm
open PySem L2
section
variable {X : Cx} {K : PySem.W.Frag}

/-! ### x in a list or tuple of data -/
def rInP (K : PySem.W.Frag) (neg : Bool) : R2 := fun x y H Q => ∃ d q ds, DenP K H x d ∧ DenP K H y q ∧ (q = .list ds ∨ q = .tuple ds) ∧ SeqAt.shaped d = true ∧ SeqAt.shaped q = true ∧ Q (.bl (if neg then !ds.any fun z => PyData.eqv z d else ds.any fun z => PyData.eqv z d)) H
theorem room_in {A : Around} {d : PyData} {n : Nat} (h : SeqAt.shaped d = true) (hu : A.units + 65 < cLine) : A.units + 1 + min n d.depth < cLine := by
  have h1 := SeqAt.depth_of_shaped h
  have h2 : min n d.depth ≤ d.depth := Nat.min_le_right _ _
  omega
theorem op_inP (hu : X.A.units + 65 < cLine) : OpR X (compareOp .In) (rInP X.K false) := by
  intro pins s σ H x y v u Q I rx ry h
  obtain ⟨d, q, ds, dx, dy, hq, s1, s2, k⟩ := h
  obtain ⟨as, ra⟩ := reads_of I dx rx
  obtain ⟨bs, rb⟩ := reads_of I dy ry
  rcases hq with rfl | rfl
  · exact SeqAt.in_list_reads rb ra (SeqAt.canLay_of_shaped s2) (SeqAt.canLay_of_shaped s1) (room_in s1 hu) ⟨.bl _, H, I, rfl, k⟩
  · exact SeqAt.in_tuple_reads rb ra (SeqAt.canLay_of_shaped s2) (SeqAt.canLay_of_shaped s1) (room_in s1 hu) ⟨.bl _, H, I, rfl, k⟩
theorem op_notInP (hu : X.A.units + 65 < cLine) : OpR X (compareOp .NotIn) (rInP X.K true) := by
  intro pins s σ H x y v u Q I rx ry h
  obtain ⟨d, q, ds, dx, dy, hq, s1, s2, k⟩ := h
  obtain ⟨as, ra⟩ := reads_of I dx rx
  obtain ⟨bs, rb⟩ := reads_of I dy ry
  rcases hq with rfl | rfl
  · exact SeqAt.notIn_list_reads rb ra (SeqAt.canLay_of_shaped s2) (SeqAt.canLay_of_shaped s1) (room_in s1 hu) ⟨.bl _, H, I, rfl, k⟩
  · exact SeqAt.notIn_tuple_reads rb ra (SeqAt.canLay_of_shaped s2) (SeqAt.canLay_of_shaped s1) (room_in s1 hu) ⟨.bl _, H, I, rfl, k⟩
def itemsP : PyData → Option (List PyData)
  | .list ds => some ds
  | .tuple ds => some ds
  | _ => none
def oIn (neg : Bool) : Cells → D → D → Option Bool := fun h x y => (py h x).bind fun d => (py h y).bind fun q => (itemsP q).bind fun ds => bif SeqAt.shaped d && SeqAt.shaped q then some (if neg then !ds.any fun z => PyData.eqv z d else ds.any fun z => PyData.eqv z d) else none
theorem p_in {neg : Bool} : Op2 K (rInP K neg) (oB (oIn neg)) := by
  intro ρ h H x y dx dy d Q R a b e k
  simp only [oB, oIn] at e
  obtain ⟨z, e1, e2⟩ := Option.map_eq_some_iff.mp e
  obtain ⟨p, e3, e4⟩ := Option.bind_eq_some_iff.mp e1
  obtain ⟨q, e5, e6⟩ := Option.bind_eq_some_iff.mp e4
  obtain ⟨ds, e7, e8⟩ := Option.bind_eq_some_iff.mp e6
  obtain ⟨c, e9⟩ := bif_some e8
  subst e9
  subst e2
  rw [Bool.and_eq_true] at c
  refine ⟨p, q, ds, denP_py R a e3, denP_py R b e5, ?_, c.1, c.2, k _ _ ρ (.refl _ _) R (.bl _)⟩
  cases q <;> simp only [itemsP] at e7 <;> first | (cases e7; done) | (cases e7; first | exact .inl rfl | exact .inr rfl)

/-! ### is None -/
def isNonD : D → Bool
  | .non => true
  | _ => false
def oIsN : Cells → D → D → Option Bool
  | _, x, .non => some (isNonD x)
  | _, _, _ => none
theorem isN_of {ρ : Rho} {H : Hp} {v : V} {d : D} (a : Den K ρ H v d) : decide (v = .non) = isNonD d := by
  cases a <;> rfl
theorem p_isN : Op2 K (fun x y H Q => y = .non ∧ Q (.bl (decide (x = .non))) H) (oB oIsN) := by
  intro ρ h H x y dx dy d Q R a b e k
  cases dy <;> simp only [oB, oIsN, Option.map_none, Option.map_some] at e <;> try (cases e; done)
  cases e
  exact ⟨den_non b, by rw [isN_of a]; exact k _ _ ρ (.refl _ _) R (.bl _)⟩
def oNotN : Cells → D → D → Option Bool
  | _, x, .non => some !isNonD x
  | _, _, _ => none
theorem p_notN : Op2 K (fun x y H Q => y = .non ∧ Q (.bl (!decide (x = .non))) H) (oB oNotN) := by
  intro ρ h H x y dx dy d Q R a b e k
  cases dy <;> simp only [oB, oNotN, Option.map_none, Option.map_some] at e <;> try (cases e; done)
  cases e
  exact ⟨den_non b, by rw [isN_of a]; exact k _ _ ρ (.refl _ _) R (.bl _)⟩

/-! ### [..] * n, {}, str(n), max, min of a list -/
def oMulA : Cells → D → D → Option D
  | _, .lst ds, .int k => bif decide (-9223372036854775808 ≤ k ∧ k < 9223372036854775808 ∧ ds.length * k.toNat ≤ line) then some (.lst (List.replicate k.toNat ds).flatten) else none
  | h, x, y => oMul h x y
def rMulA : R2 := fun x y H Q => rI CMulW (fun i j => .int (i * j)) x y H Q ∨ rRep x y H Q
theorem or_mul : OpR X (binaryOp .Mult) rMulA := op_mulW.or op_rep
theorem dens_rep {ρ : Rho} {H : Hp} {vs : List V} {ds : List D} (a : Dens K ρ H vs ds) : ∀ n, Dens K ρ H (List.replicate n vs).flatten (List.replicate n ds).flatten
  | 0 => .nil
  | n + 1 => by
    rw [List.replicate_succ, List.replicate_succ, List.flatten_cons, List.flatten_cons]
    exact a.append (dens_rep a n)
theorem p_mulA : Op2 K rMulA oMulA := by
  intro ρ h H x y dx dy d Q R a b e k
  have gen : oMul h dx dy = some d → rMulA x y H Q := fun e => .inl (p_mul ρ h H x y dx dy d Q R a b e k)
  cases dx <;> cases dy <;> first
    | exact gen e
    | (simp only [oMulA] at e
       obtain ⟨c, e⟩ := bif_some e
       cases e
       obtain ⟨p, vs, rfl, hp, np, t1⟩ := den_len a
       have c' := of_decide_eq_true c
       exact .inr ⟨p, _, vs, rfl, den_int b, hp, by omega, by omega, by rw [t1.length, ← line_eq]; exact c'.2.2, fun o ho =>
         k _ _ ρ (fut_new _ ho) (R.new _ ho) (.lst upd_same (R.out ho) ((dens_rep t1 _).fut (fut_new _ ho)))⟩)
def mDic : ME := fun ms => some (.dic, ms.h)
theorem ev_dic {pos : Pos} : EV X (.Dict [] [] pos) mDic := by
  refine pe_w pe_dnewK fun σ H Q h => ?_
  obtain ⟨ρ, ms, d, h', R, S, e, q⟩ := h
  cases e
  exact fun p hp => q _ _ ρ (fut_new _ hp) (R.new _ hp) (.dic upd_same (R.out hp))
def oStr : Cells → List D → Option D
  | _, [.int i] => bif decide (i.natAbs.log2 < 1920) then some (.str (toString i)) else none
  | _, _ => none
theorem c_str : OpC K (fun xs H Q => ∃ i, xs = [.int i] ∧ i.natAbs.log2 < 1920 ∧ Q (.str (toString i)) H) oStr := by
  intro ρ h H xs dxs d Q R a e k
  unfold oStr at e
  split at e
  · obtain ⟨c, e⟩ := bif_some e
    cases e
    obtain ⟨x, rfl, a1⟩ := dens1 a
    exact ⟨_, by rw [den_int a1], of_decide_eq_true c, k _ _ ρ (.refl _ _) R (.str _)⟩
  · cases e
def maxI : Int → List Int → Int
  | a, [] => a
  | a, b :: r => maxI (if b > a then b else a) r
theorem maxI_ge : ∀ (r : List Int) (a : Int), a ≤ maxI a r ∧ ∀ y ∈ r, y ≤ maxI a r
  | [], a => ⟨Int.le_refl _, fun _ h => nomatch h⟩
  | b :: r, a => by
    obtain ⟨h1, h2⟩ := maxI_ge r (if b > a then b else a)
    have h3 : maxI a (b :: r) = maxI (if b > a then b else a) r := rfl
    rw [h3]
    refine ⟨?_, fun y hy => ?_⟩
    · split at h1 <;> split <;> omega
    · rcases List.mem_cons.mp hy with e | hy
      · subst e
        split at h1 <;> split <;> omega
      · exact h2 y hy
theorem maxI_mem : ∀ (r : List Int) (a : Int), maxI a r ∈ a :: r
  | [], a => List.mem_cons_self
  | b :: r, a => by
    have h := maxI_mem r (if b > a then b else a)
    have h3 : maxI a (b :: r) = maxI (if b > a then b else a) r := rfl
    rw [h3]
    rcases List.mem_cons.mp h with e | h
    · rw [e]; split <;> simp
    · simp [h]
def oMaxL : Cells → List D → Option D
  | _, [d] => (asL d).bind fun ds => (asInts ds).bind fun ns => match ns with
    | [] => none
    | n :: r => some (.int (maxI n r))
  | _, _ => none
theorem c_maxL : OpC K (rMax K) oMaxL := by
  intro ρ h H xs dxs d Q R a e k
  unfold oMaxL at e
  split at e
  · obtain ⟨ds, e1, e2⟩ := Option.bind_eq_some_iff.mp e
    obtain ⟨ns, e3, e4⟩ := Option.bind_eq_some_iff.mp e2
    obtain ⟨x, rfl, a1⟩ := dens1 a
    obtain ⟨p, vs, rfl, hp⟩ := den_lf a1 e1
    obtain ⟨s1, t1⟩ := hp ρ H (.refl _ _)
    rw [dens_ints t1 e3] at s1
    cases ns with
    | nil => cases e4
    | cons n r =>
      cases e4
      refine ⟨p, n :: r, rfl, s1, by simp, fun m hm hg => ?_⟩
      have : m = maxI n r := by
        obtain ⟨g1, g2⟩ := maxI_ge r n
        have g3 := hg _ (maxI_mem r n)
        rcases List.mem_cons.mp hm with e | hm
        · omega
        · have := g2 m hm; omega
      subst this
      exact k _ _ ρ (.refl _ _) R (.int _)
  · cases e

/-! ### enumerate, a range by steps -/
def enumD : Nat → List D → List D
  | _, [] => []
  | i, d :: ds => .tup [.int i, d] :: enumD (i + 1) ds
theorem enum_get : ∀ (ds : List D) (i j : Nat), (enumD i ds)[j]? = ds[j]?.map fun d => .tup [.int (i + j : Nat), d]
  | [], _, _ => by simp [enumD]
  | d :: ds, i, 0 => by simp [enumD]
  | d :: ds, i, j + 1 => by
    have h := enum_get ds (i + 1) j
    simp only [enumD, List.getElem?_cons_succ]
    rw [h]
    have e : i + 1 + j = i + (j + 1) := by omega
    rw [e]
theorem enum_len : ∀ (ds : List D) (i : Nat), (enumD i ds).length = ds.length
  | [], _ => rfl
  | _ :: ds, i => congrArg Nat.succ (enum_len ds (i + 1))
def iEn (f : MA) : MI := fun ms => (f ms).bind fun r => match r.1 with
  | [d] => (asL d).map fun ds => (enumD 0 ds, r.2)
  | _ => none
theorem iv_enum {e : Expr} {f : MA} {p pos tpos : Pos} {elts : List Expr} {kk : Nat} (hm : X.mg "enumerate" = none) (ha : AV X [e] f) (hg : Gl X "enumerate" := by rfl) (hs : starEach [e] X.env = [(false, eval e X.env)] := by rfl) :
    IV X (.Tuple elts kk tpos) (.Call (.Name "enumerate" p) [e] [] pos) (iEn f) := by
  refine pi_w (pi_enum hg hm ha hs) fun σ H Rk h => ?_
  obtain ⟨ρ, ms, ds, h', R, S, e, q⟩ := h
  obtain ⟨⟨xs, h1⟩, e1, e2⟩ := Option.bind_eq_some_iff.mp e
  dsimp only at e2
  split at e2
  · rename_i d
    obtain ⟨es, e3, e4⟩ := Option.map_eq_some_iff.mp e2
    cases e4
    refine ⟨ρ, ms, _, _, R, S, e1, fun us H1 ρ1 F1 R1 dn => ?_⟩
    obtain ⟨x, rfl, dn1⟩ := dens1 dn
    obtain ⟨a, vs, rfl, hq⟩ := den_lf dn1 e3
    refine ⟨a, vs, rfl, (hq ρ1 H1 (.refl _ _)).1, q _ _ ρ1 F1 R1 fun i ρ2 H2 h2 F2 R2 => ⟨fun hl => ⟨vs, (hq ρ2 H2 F2).1, by rw [(hq ρ2 H2 F2).2.length, ← enum_len es 0]; exact hl⟩, fun d hd => ?_⟩⟩
    rw [enum_get] at hd
    obtain ⟨d0, hd0, hd1⟩ := Option.map_eq_some_iff.mp hd
    obtain ⟨x, hx, dx⟩ := (hq ρ2 H2 F2).2.get hd0
    refine ⟨⟨vs, x, (hq ρ2 H2 F2).1, hx⟩, fun y H' hy => ?_⟩
    obtain ⟨T, z, rfl, hT, rfl, hz⟩ := hy
    have hz' := hz vs (hq ρ2 _ F2).1
    rw [hx] at hz'
    cases hz'
    subst hd1
    refine ⟨fut_new _ hT, R2.new _ hT, .tup (.inl upd_same) (R2.out hT) (.cons ?_ (.cons (dx.fut (fut_new _ hT)) .nil))⟩
    rw [Nat.zero_add]
    exact .int _
  · cases e2
def rngC (i j c : Int) : Nat := (Builtin.Range.rangeSize i j c).toNat
def rgOk (i j c : Int) : Bool := decide (c ≠ 0 ∧ c.natAbs < 1073741824) && Builtin.Range.small i j c && decide (0 ≤ Builtin.Range.rangeSize i j c)
def intsC (lo c : Int) (n : Nat) : List D := (List.range n).map fun (i : Nat) => D.int (lo + (i : Int) * c)
def iR3 (f : MA) : MI := fun ms => (f ms).bind fun r => match r.1 with
  | [.int i, .int j, .int c] => bif rgOk i j c then some (intsC i c (rngC i j c), r.2) else none
  | _ => none
theorem iv_range3 {tg a b c : Expr} {p pos : Pos} {f : MA} (hm : X.mg "range" = none) (ha : AV X [a, b, c] f) (hg : Gl X "range" := by rfl)
    (hs : starEach [a, b, c] X.env = (false, eval a X.env) :: starEach [b, c] X.env := by rfl) (hpl : (backTo pos (starEach [b, c] X.env)).any (·.1) = false := by rfl) : IV X tg (.Call (.Name "range" p) [a, b, c] [] pos) (iR3 f) := by
  refine pi_w (pi_range3 hg hm ha hs hpl) fun σ H Rk h => ?_
  obtain ⟨ρ, ms, ds, h', R, S, e, q⟩ := h
  obtain ⟨⟨xs, h1⟩, e1, e2⟩ := Option.bind_eq_some_iff.mp e
  dsimp only at e2
  split at e2
  · rename_i i j c
    obtain ⟨hb, e3⟩ := bif_some e2
    cases e3
    refine ⟨ρ, ms, _, _, R, S, e1, fun vs H1 ρ1 F1 R1 dn => ?_⟩
    cases dn with
    | cons d1 dn =>
      obtain ⟨y, z, rfl, d2, d3⟩ := dens2 dn
      simp only [rgOk, Bool.and_eq_true, decide_eq_true_eq] at hb
      refine ⟨i, j, c, rngC i j c, by rw [den_int d1, den_int d2, den_int d3], ⟨hb.1.1.1, hb.1.1.2, hb.1.2, by unfold rngC; omega⟩, q _ _ ρ1 F1 R1 ?_⟩
      intro k ρ2 H2 h2 F2 R2
      refine ⟨fun hl => show rngC i j c ≤ k by simpa [intsC] using hl, fun d hd => ?_⟩
      have hi : k < rngC i j c := by
        obtain ⟨hl, _⟩ := List.getElem?_eq_some_iff.mp hd
        simpa [intsC] using hl
      refine ⟨hi, fun x H' hy => ?_⟩
      obtain ⟨rfl, rfl⟩ := hy
      simp [intsC, hi] at hd
      subst hd
      exact ⟨.refl _ _, R2, .int _⟩
  · cases e2
end

/-! ### keywords in any order -/
def permL {α : Type} (perm : List Nat) (ws : List α) : List α := if ws.length = perm.length then perm.filterMap (ws[·]?) else []
def permK {α : Type} (perm : List Nat) : List α → List α → List α
  | [], ws => permL perm ws
  | _, _ => []
theorem perm_vals {xs : List V} {us : List Value} (r : Vals xs us) : ∀ perm : List Nat, Vals (perm.filterMap (xs[·]?)) (perm.filterMap (us[·]?))
  | [] => .nil
  | i :: p => by
    cases e : xs[i]? with
    | none => rw [List.filterMap_cons_none e, List.filterMap_cons_none (r.none_of e)]; exact perm_vals r p
    | some x =>
      obtain ⟨u, e2, ru⟩ := r.get e
      rw [List.filterMap_cons_some e, List.filterMap_cons_some e2]
      exact .cons ru (perm_vals r p)
theorem Dens.noneOf {K : PySem.W.Frag} {ρ : Rho} {H : Hp} {xs : List V} {ds : List D} (r : Dens K ρ H xs ds) {i : Nat} (e : ds[i]? = none) : xs[i]? = none := by
  rw [List.getElem?_eq_none_iff] at e ⊢
  rw [r.length]; exact e
theorem perm_dens {K : PySem.W.Frag} {ρ : Rho} {H : Hp} {xs : List V} {ds : List D} (r : Dens K ρ H xs ds) : ∀ perm : List Nat, Dens K ρ H (perm.filterMap (xs[·]?)) (perm.filterMap (ds[·]?))
  | [] => .nil
  | i :: p => by
    cases e : ds[i]? with
    | none => rw [List.filterMap_cons_none e, List.filterMap_cons_none (r.noneOf e)]; exact perm_dens r p
    | some x =>
      obtain ⟨u, e2, ru⟩ := r.get e
      rw [List.filterMap_cons_some e, List.filterMap_cons_some e2]
      exact .cons ru (perm_dens r p)
theorem perm_rel (perm : List Nat) {vs : List V} {us : List Value} {zs : List V} {ws : List Value} (r : Vals vs us) (rz : Vals zs ws) : Vals (permK perm vs zs) (permK perm us ws) := by
  cases r with
  | nil =>
    show Vals (permL perm zs) (permL perm ws)
    unfold permL
    rw [rz.length]
    split
    · exact perm_vals rz perm
    · exact .nil
  | cons _ _ => exact .nil
theorem perm_gd (perm : List Nat) : GD (permK perm) (permK perm) := by
  intro K ρ H vs ws ds es a b
  cases a with
  | nil =>
    show Dens K ρ H (permL perm ws) (permL perm es)
    unfold permL
    rw [b.length]
    split
    · exact perm_dens b perm
    · exact .nil
  | cons _ _ => exact .nil
/-- a def as its callers know it -/
structure Knows (P : Program) (w : World) (K : PySem.W.Frag) (mg : Str → Option Value) (base : Heap) (lv : Nat) (x : Str) (n : Nat) (F : MF) : Prop where
  ex : ∃ f fd ps, ps.length = n ∧ FnG P w K mg base CX0 lv f fd ps (spF K n F) ∧ mg x = some (.ref f) ∧ PySem.W.keepIn K (.ref f) = true ∧ Binds K fd ps []
structure KnowsK (P : Program) (w : World) (K : PySem.W.Frag) (mg : Str → Option Value) (base : Heap) (lv : Nat) (x : Str) (n : Nat) (F : MF) (ks : List Str) (perm : List Nat) : Prop where
  ex : ∃ f fd ps, ps.length = n ∧ FnG P w K mg base CX0 lv f fd ps (spF K n F) ∧ mg x = some (.ref f) ∧ PySem.W.keepIn K (.ref f) = true ∧ KBinds K fd ps ks (permK perm) (permK perm)
section
variable {X : Cx} {k : Nat} {x : Str} {p pos : Pos} {e : Expr} {es : List Expr} {kws : List Keyword} {n : Nat} {F : MF} {fa : MA} {ks : List Str} {perm : List Nat}
theorem ev_def (Kn : Knows X.prog X.w X.K X.mg X.base k x n F) (hr : RoomG k X.A) (ha : AV X (e :: es) fa) (hg : Gl X x := by rfl) (hdb : (x == ("__debug__" : Str)) = false := by decide) (he : starEach (e :: es) X.env = (false, eval e X.env) :: starEach es X.env := by rfl) (hpl : (backTo pos (starEach es X.env)).any (·.1) = false := by rfl) :
    EV X (.Call (.Name x p) (e :: es) [] pos) (mCall n F fa) := by
  obtain ⟨f, fd, ps, hn, G, hm, hk, hb⟩ := Kn.ex
  exact ev_call G hr hm hk hb ha hg hdb he hpl
theorem ev_defK (Kn : KnowsK X.prog X.w X.K X.mg X.base k x n F ks perm) (hr : RoomG k X.A) (hkw : KV' X kws fa) (hg : Gl X x := by rfl) (hall : (backToKw pos (keywordEach kws X.env)).all (·.1.isSome) = true := by rfl) (hks : (backToKw pos (keywordEach kws X.env)).filterMap (·.1) = ks := by rfl)
    (hdb : (x == ("__debug__" : Str)) = false := by decide)
    (hpl : ((backTo pos (starEach [] X.env)).any (·.1) || (backToKw pos (keywordEach kws X.env)).any (·.1.isNone)) = false := by rfl) : EV X (.Call (.Name x p) [] kws pos) (mCallK n (permK perm) F mNil fa) := by
  obtain ⟨f, fd, ps, hn, G, hm, hk, hb⟩ := Kn.ex
  exact ev_callK0 G hr hm hk hb (perm_gd perm) hkw hg hall hks hdb hpl
end
/-- the def of the text that stands at its name -/
structure Stands (K : PySem.W.Frag) (mg : Str → Option Value) (x : Str) (st : Stmt) : Prop where
  ex : ∃ f fd, Fun K x x st f fd ∧ mg x = some (.ref f)
end Zm
namespace Zm
open PySem L2
section
variable {X : Cx} {K : PySem.W.Frag}
/-- a list or a tuple, walked -/
def asLT : D → Option (List D)
  | .lst ds => some ds
  | .frl ds => some ds
  | .tup ds => some ds
  | _ => none
def iS (f : ME) : MI := fun ms => (f ms).bind fun r => (asLT r.1).map fun ds => (ds, r.2)
theorem pi_or {tg iter : Expr} {t t' : TI} (h : PI X tg iter t) (h' : PI X tg iter t') : PI X tg iter fun σ H R => t σ H R ∨ t' σ H R := ⟨fun pins s σ H R I q => q.elim (h.run pins s σ H R I) (h'.run pins s σ H R I)⟩
theorem iv_seq {tg l : Expr} {f : ME} (h : EV X l f) : IV X tg l (iS f) := by
  refine pi_w (pi_or (iv_list (tg := tg) h) (iv_tup (tg := tg) h)) fun σ H Rk q => ?_
  obtain ⟨ρ, ms, ds, h', R, S, e, q⟩ := q
  obtain ⟨⟨d, h1⟩, e1, e2⟩ := Option.bind_eq_some_iff.mp e
  obtain ⟨es, e3, e4⟩ := Option.map_eq_some_iff.mp e2
  cases e4
  cases d <;> simp only [asLT] at e3 <;> try (cases e3; done)
  · cases e3
    exact .inr ⟨ρ, ms, _, _, R, S, by simp [iT, e1, asT], q⟩
  · cases e3
    exact .inl ⟨ρ, ms, _, _, R, S, by simp [iL, e1, asL], q⟩
  · cases e3
    exact .inl ⟨ρ, ms, _, _, R, S, by simp [iL, e1, asL], q⟩
end
end Zm
namespace Zm
theorem kw_len {perm : List Nat} {us ws : List PySem.Value} (hl : (permK perm us ws).length = perm.length) (h0 : 0 < perm.length) : us = [] ∧ ws.length = perm.length := by
  cases us with
  | nil =>
    refine ⟨rfl, ?_⟩
    have h : (permL perm ws).length = perm.length := hl
    unfold permL at h
    split at h
    · assumption
    · simp at h; omega
  | cons a b => 
    have h : ([] : List PySem.Value).length = perm.length := hl
    simp at h; omega
/-- the size of the int in a slot -/
def slI (ms : MS) (i : Nat) : Nat := match ms.s[i]? with
  | some (some (.int a)) => a.natAbs
  | _ => 0
end Zm

set_option Elab.async false
set_option linter.all false
set_option maxRecDepth 100000
/-! Zk: chains of four, the greatest common divisor. -/
namespace Zm
open PySem L2 PyProof PyProof.Rows
variable {X : Cx}
def tCh3 (r1 r2 r3 : R2) (ta tb tc td : TE) : TE := fun σ H Q => ta σ H fun x H1 => tb σ H1 fun y H2 => r1 x y H2 fun z H3 => ∃ k, z = .bl k ∧
  (if k = true then tc σ H3 fun w H4 => r2 y w H4 fun z2 H5 => ∃ k2, z2 = .bl k2 ∧ (if k2 = true then td σ H5 fun v H6 => r3 w v H6 Q else Q (.bl false) H5) else Q (.bl false) H3)
theorem pe_ch3 {a b c d : Expr} {pos : Pos} {ta tb tc td : TE} {op1 op2 op3 : CmpOp} {r1 r2 r3 : R2} (o1 : OpR X (compareOp op1) r1) (o2 : OpR X (compareOp op2) r2) (o3 : OpR X (compareOp op3) r3) (ha : PE X a ta) (hb : PE X b tb) (hc : PE X c tc) (hd : PE X d td)
    (hm : lastMarks [op1, op2, op3] [b, c, d] = false := by with_unfolding_all rfl) : PE X (.Compare a [op1, op2, op3] [b, c, d] pos) (tCh3 r1 r2 r3 ta tb tc td) := by
  refine ⟨fun pins s σ H Q I h => ?_⟩
  refine Compare_chain (thn (ha.run pins s σ H _ I h) fun v s1 ⟨x, H1, I1, e1, q1⟩ => chain_link (thn (hb.run pins s1 σ H1 _ I1 q1) fun u s2 ⟨y, H2, I2, e2, q2⟩ =>
    thn (o1 pins s2 σ H2 x y v u _ I2 e1 e2 q2) fun t s3 ⟨z, H3, I3, e3, k, ek, q3⟩ => ?_)) hm
  subst ek
  cases e3
  refine wpAny_truthy_bool ?_
  cases k with
  | false => exact ite_ff ⟨.bl false, H3, I3, rfl, q3⟩
  | true =>
    refine ite_tt (chain_link (thn (hc.run pins s3 σ H3 _ I3 q3) fun w s4 ⟨z4, H4, I4, e4, q4⟩ => thn (o2 pins s4 σ H4 y z4 u w _ I4 e2 e4 q4) fun t5 s5 ⟨z5, H5, I5, e5, k5, ek5, q5⟩ => ?_))
    subst ek5
    cases e5
    refine wpAny_truthy_bool ?_
    cases k5 with
    | false => exact ite_ff ⟨.bl false, H5, I5, rfl, q5⟩
    | true => exact ite_tt (chain_last (thn (hd.run pins s5 σ H5 _ I5 q5) fun w6 s6 ⟨z6, H6, I6, e6, q6⟩ => o3 pins s6 σ H6 z4 z6 w w6 Q I6 e4 e6 q6))
theorem pt_ch3 {a b c d : Expr} {pos : Pos} {ta tb tc td : TE} {op1 op2 op3 : CmpOp} {r1 r2 r3 : R2} (o1 : OpR X (compareOp op1) r1) (o2 : OpR X (compareOp op2) r2) (o3 : OpR X (compareOp op3) r3) (ha : PE X a ta) (hb : PE X b tb) (hc : PE X c tc) (hd : PE X d td)
    (hm : lastMarks [op1, op2, op3] [b, c, d] = false := by with_unfolding_all rfl) : PT X (.Compare a [op1, op2, op3] [b, c, d] pos) (tTest (tCh3 r1 r2 r3 ta tb tc td)) := by
  refine ⟨fun pins s σ H Q I h => ?_⟩
  refine isTrue_chain (thn (ha.run pins s σ H _ I h) fun v s1 ⟨x, H1, I1, e1, q1⟩ => test_link (thn (hb.run pins s1 σ H1 _ I1 q1) fun u s2 ⟨y, H2, I2, e2, q2⟩ =>
    thn (o1 pins s2 σ H2 x y v u _ I2 e1 e2 q2) fun t s3 ⟨z, H3, I3, e3, k, ek, q3⟩ => ?_)) hm
  subst ek
  cases e3
  refine wpAny_truthy_bool ?_
  cases k with
  | false =>
    obtain ⟨k', e', q'⟩ := q3
    cases e'
    exact ite_ff ⟨H3, I3, q'⟩
  | true =>
    refine ite_tt (test_link (thn (hc.run pins s3 σ H3 _ I3 q3) fun w s4 ⟨z4, H4, I4, e4, q4⟩ => thn (o2 pins s4 σ H4 y z4 u w _ I4 e2 e4 q4) fun t5 s5 ⟨z5, H5, I5, e5, k5, ek5, q5⟩ => ?_))
    subst ek5
    cases e5
    refine wpAny_truthy_bool ?_
    cases k5 with
    | false =>
      obtain ⟨k', e', q'⟩ := q5
      cases e'
      exact ite_ff ⟨H5, I5, q'⟩
    | true =>
      refine ite_tt (test_last (thn (hd.run pins s5 σ H5 _ I5 q5) fun w6 s6 ⟨z6, H6, I6, e6, q6⟩ => thn (o3 pins s6 σ H6 z4 z6 w w6 _ I6 e4 e6 q6) fun t7 s7 ⟨z7, H7, I7, e7, k7, ek7, q7⟩ => ?_))
      subst ek7
      cases e7
      exact wpAny_truthy_bool ⟨H7, I7, q7⟩
def mChain3 (o1 o2 o3 : Cells → D → D → Option Bool) (f g k l : ME) : ME := fun ms => (f ms).bind fun r => (g { ms with h := r.2 }).bind fun s => (o1 s.2 r.1 s.1).bind fun b =>
  bif b then (k { ms with h := s.2 }).bind fun t => (o2 t.2 s.1 t.1).bind fun c => bif c then (l { ms with h := t.2 }).bind fun u => (o3 u.2 t.1 u.1).map fun d => (.bl d, u.2) else some (.bl false, t.2) else some (.bl false, s.2)
theorem rd_ch3 {K : PySem.W.Frag} {r1 r2 r3 : R2} {o1 o2 o3 : Cells → D → D → Option Bool} (p1 : Op2 K r1 (oB o1)) (p2 : Op2 K r2 (oB o2)) (p3 : Op2 K r3 (oB o3)) {f g k l : ME} {σ : L2.St} {H : Hp} {Q : VK}
    (h : rdE K (mChain3 o1 o2 o3 f g k l) σ H Q) : tCh3 r1 r2 r3 (rdE K f) (rdE K g) (rdE K k) (rdE K l) σ H Q := by
  obtain ⟨ρ, ms, d, h', R, S, e, q⟩ := h
  obtain ⟨⟨dx, h1⟩, e1, e2⟩ := Option.bind_eq_some_iff.mp e
  obtain ⟨⟨dy, h2⟩, e3, e4⟩ := Option.bind_eq_some_iff.mp e2
  obtain ⟨b', e5, e6⟩ := Option.bind_eq_some_iff.mp e4
  refine ⟨ρ, ms, dx, h1, R, S, e1, fun x H1 ρ1 F1 R1 d1 => ?_⟩
  refine ⟨ρ1, { ms with h := h1 }, dy, h2, R1, S.fut F1, e3, fun y H2 ρ2 F2 R2 d2 => ?_⟩
  refine p1 ρ2 h2 H2 x y dx dy (.bl b') _ R2 (d1.fut F2) d2 (by simp [oB, show o1 h2 dx dy = some b' from e5]) fun v H3 ρ3 F3 R3 d3 => ⟨b', den_bl d3, ?_⟩
  have F03 := (F1.trans F2).trans F3
  cases b' with
  | false => cases e6; exact q _ H3 ρ3 F03 R3 (.bl false)
  | true =>
    obtain ⟨⟨dz, h4⟩, e7, e8⟩ := Option.bind_eq_some_iff.mp e6
    obtain ⟨c', e9, e10⟩ := Option.bind_eq_some_iff.mp e8
    refine iteT ⟨ρ3, { ms with h := h2 }, dz, h4, R3, S.fut F03, e7, fun z H4 ρ4 F4 R4 d4 => ?_⟩
    refine p2 ρ4 h4 H4 y z dy dz (.bl c') _ R4 ((d2.fut F3).fut F4) d4 (by simp [oB, show o2 h4 dy dz = some c' from e9]) fun v H5 ρ5 F5 R5 d5 => ⟨c', den_bl d5, ?_⟩
    have F05 := (F03.trans F4).trans F5
    cases c' with
    | false => cases e10; exact q _ H5 ρ5 F05 R5 (.bl false)
    | true =>
      obtain ⟨⟨dw, h6⟩, e11, e12⟩ := Option.bind_eq_some_iff.mp e10
      obtain ⟨c7, e13, e14⟩ := Option.map_eq_some_iff.mp e12
      cases e14
      refine iteT ⟨ρ5, { ms with h := h4 }, dw, _, R5, S.fut F05, e11, fun w H6 ρ6 F6 R6 d6 => ?_⟩
      exact p3 ρ6 _ H6 z w dz dw (.bl c7) _ R6 ((d4.fut F5).fut F6) d6 (by simp [oB, show o3 _ dz dw = some c7 from e13]) fun v H7 ρ7 F7 R7 d7 => q v H7 ρ7 ((F05.trans F6).trans F7) R7 d7
theorem ev_chain3 {a b c d : Expr} {pos : Pos} {op1 op2 op3 : CmpOp} {r1 r2 r3 : R2} {o1 o2 o3 : Cells → D → D → Option Bool} {f g k l : ME} (ho1 : OpR X (compareOp op1) r1) (p1 : Op2 X.K r1 (oB o1)) (ho2 : OpR X (compareOp op2) r2) (p2 : Op2 X.K r2 (oB o2)) (ho3 : OpR X (compareOp op3) r3) (p3 : Op2 X.K r3 (oB o3))
    (ha : EV X a f) (hb : EV X b g) (hc : EV X c k) (hd : EV X d l) (hm : lastMarks [op1, op2, op3] [b, c, d] = false := by with_unfolding_all rfl) : EV X (.Compare a [op1, op2, op3] [b, c, d] pos) (mChain3 o1 o2 o3 f g k l) :=
  pe_w (pe_ch3 ho1 ho2 ho3 ha hb hc hd hm) fun _ _ _ h => rd_ch3 p1 p2 p3 h
theorem tv_chain3 {a b c d : Expr} {pos : Pos} {op1 op2 op3 : CmpOp} {r1 r2 r3 : R2} {o1 o2 o3 : Cells → D → D → Option Bool} {f g k l : ME} (ho1 : OpR X (compareOp op1) r1) (p1 : Op2 X.K r1 (oB o1)) (ho2 : OpR X (compareOp op2) r2) (p2 : Op2 X.K r2 (oB o2)) (ho3 : OpR X (compareOp op3) r3) (p3 : Op2 X.K r3 (oB o3))
    (ha : EV X a f) (hb : EV X b g) (hc : EV X c k) (hd : EV X d l) (hm : lastMarks [op1, op2, op3] [b, c, d] = false := by with_unfolding_all rfl) : TV X (.Compare a [op1, op2, op3] [b, c, d] pos) (tB' (mChain3 o1 o2 o3 f g k l)) :=
  pt_w (pt_ch3 ho1 ho2 ho3 ha hb hc hd hm) fun σ H Q h => by
    refine rd_ch3 p1 p2 p3 ?_
    obtain ⟨ρ, ms, bb, h', R, S, ee, q⟩ := h
    obtain ⟨⟨d, h''⟩, e, ex⟩ := Option.bind_eq_some_iff.mp ee
    obtain ⟨bq, ey, ez⟩ := Option.map_eq_some_iff.mp ex
    cases ez
    refine ⟨ρ, ms, d, _, R, S, e, fun v H1 ρ1 F1 R1 d1 => ?_⟩
    cases d <;> simp only [asB] at ey <;> try (cases ey; done)
    cases ey
    exact ⟨_, den_bl d1, q H1 ρ1 F1 R1⟩
end Zm

set_option Elab.async false
set_option linter.all false
set_option maxRecDepth 100000
/-! Zl: the greatest common divisor of three. -/
namespace PySem.W
open PySem PySem.Calls
theorem args_gcd3 (a b c : Value) : argsOk "math.gcd" ⟨[a, b, c], []⟩ := by unfold argsOk; kernel_rfl
theorem run_gcd3 (a : Int) (t : Tok) (b : Int) (u : Tok) (c : Int) (v : Tok) :
    Gives (Builtin.«math.gcd» ⟨[.int a t, .int b u, .int c v], []⟩) (.int (((((Nat.gcd 0 a.natAbs).gcd b.natAbs).gcd c.natAbs : Nat) : Int))) :=
  .of_wp fun M A E s Q h => by obtain ⟨hp, g, d, tk, os⟩ := s; wp_walk; exact ⟨_, rfl, h⟩
end PySem.W
namespace PySem.W
open PySem PySem.Calls
section
variable {prog : Program} {w : World} {A : Around} {E : Value → Shared → Prop} {s : Shared} {Q : Value → Shared → Prop} {a b c : Int} {t u v : Tok}
theorem mg_gcd3 (h : Q (.int (((a.natAbs.gcd b.natAbs).gcd c.natAbs : Nat) : Int) s.toks) { s with toks := s.toks + 1 }) :
    wpAny (model prog w) A (call (.builtin "math.gcd") [.int a t, .int b u, .int c v]) Q E s := by
  have g := run_gcd3 a t b u c v
  rw [Nat.gcd_zero_left] at g
  exact call_function_meets MGF.kind_gcd MGF.plain_gcd MGF.entry_gcd (args_gcd3 _ _ _) g.meets h
end
end PySem.W
namespace Zm
open PySem L2
section
variable {X : Cx} {K : PySem.W.Frag}
def rG3 : List V → Hp → VK → Prop := fun vs H Q => ∃ a b c : Int, vs = [.int a, .int b, .int c] ∧ Q (.int (((a.natAbs.gcd b.natAbs).gcd c.natAbs : Nat) : Int)) H
theorem cr_gcd3 : CallR X (.builtin "math.gcd") rG3 := by
  intro pins s σ H vs us Q I r h
  obtain ⟨a, b, c, rfl, q⟩ := h
  cases r with
  | cons r1 r => cases r with
    | cons r2 r => cases r with
      | cons r3 r =>
        cases r
        obtain ⟨t, rfl⟩ := r1
        obtain ⟨u, rfl⟩ := r2
        obtain ⟨v, rfl⟩ := r3
        exact PySem.W.mg_gcd3 ⟨.int _, H, I.tok _, ⟨_, rfl⟩, q⟩
def oGcd3 : Cells → List D → Option D
  | _, [.int a, .int b, .int c] => some (.int (((a.natAbs.gcd b.natAbs).gcd c.natAbs : Nat) : Int))
  | _, _ => none
theorem c_gcd3 : OpC K rG3 oGcd3 := by
  intro ρ h H xs dxs d Q R a e k
  unfold oGcd3 at e
  split at e
  · cases e
    cases a with
    | cons a1 a => cases a with
      | cons a2 a => cases a with
        | cons a3 a =>
          cases a
          exact ⟨_, _, _, by rw [den_int a1, den_int a2, den_int a3], k _ _ ρ (.refl _ _) R (.int _)⟩
  · cases e
def oGcd2 : Cells → List D → Option D
  | _, [.int a, .int b] => some (.int ((a.natAbs.gcd b.natAbs : Nat) : Int))
  | _, _ => none
theorem c_gcd2 : OpC K rGcd oGcd2 := by
  intro ρ h H xs dxs d Q R a e k
  unfold oGcd2 at e
  split at e
  · cases e
    cases a with
    | cons a1 a => cases a with
      | cons a2 a =>
        cases a
        exact ⟨_, _, by rw [den_int a1, den_int a2], k _ _ ρ (.refl _ _) R (.int _)⟩
  · cases e
theorem ev_callF {id : String} {r : List V → Hp → VK → Prop} {o : Cells → List D → Option D} {x : Str} {e : Expr} {es : List Expr} {f : MA} {p pos : Pos} (hc : CallR X (.builtin id) r) (po : OpC X.K r o) (hm : X.mg x = some (.builtin id)) (ha : AV X (e :: es) f) (hg : Gl X x := by rfl) (hdb : (x == ("__debug__" : Str)) = false := by decide)
    (he : starEach (e :: es) X.env = (false, eval e X.env) :: starEach es X.env := by rfl) (hpl : (backTo pos (starEach es X.env)).any (·.1) = false := by rfl) : EV X (.Call (.Name x p) (e :: es) [] pos) (mCB o f) :=
  pe_w (pe_callBfun hc hg hm ha hdb he hpl) fun _ _ _ => rd_cb po
/-- an int within a tuple of a slot -/
def slT (ms : MS) (i j : Nat) : Nat := match ms.s[i]? with
  | some (some (.tup ds)) => (match ds[j]? with
    | some (.int x) => x.toNat
    | _ => 0)
  | _ => 0
end
end Zm

set_option Elab.async false
set_option linter.all false
set_option maxRecDepth 100000
/-! Zn: sorted, of rows of ints. -/
namespace SrtW
open PySem PySem.Spec PyProof.Rows SrtO
/-- the order of rows -/
def lexL : List Int → List Int → Bool
  | [], [] => false
  | [], _ :: _ => true
  | _ :: _, [] => false
  | x :: xs, y :: ys => bif decide (x = y) then lexL xs ys else decide (x < y)
theorem lexL_irr : ∀ x, lexL x x = false
  | [] => rfl
  | x :: xs => by simp [lexL, lexL_irr xs]
theorem lexL_asym : ∀ x y, lexL x y = true → lexL y x = false
  | [], [], h => by simp [lexL] at h
  | [], _ :: _, _ => rfl
  | _ :: _, [], h => by simp [lexL] at h
  | x :: xs, y :: ys, h => by
    unfold lexL at h ⊢
    by_cases e : x = y
    · subst e
      simp only [decide_true, cond_true] at h ⊢
      exact lexL_asym xs ys h
    · have e' : ¬ y = x := fun z => e z.symm
      simp only [e, e', decide_false, cond_false, decide_eq_true_eq, decide_eq_false_iff_not] at h ⊢
      omega
theorem lexL_tr : ∀ x y z, lexL x y = false → lexL y z = false → lexL x z = false
  | [], [], _, _, h => h
  | [], _ :: _, _, h, _ => by simp [lexL] at h
  | _ :: _, [], [], _, _ => rfl
  | _ :: _, [], _ :: _, _, h => by simp [lexL] at h
  | _ :: _, _ :: _, [], _, _ => rfl
  | x :: xs, y :: ys, z :: zs, h1, h2 => by
    unfold lexL at h1 h2 ⊢
    by_cases e : x = y
    · by_cases f : y = z
      · subst e f
        simp only [decide_true, cond_true] at h1 h2 ⊢
        exact lexL_tr xs ys zs h1 h2
      · subst e
        simp only [f, decide_false, cond_false, decide_eq_false_iff_not] at h2 ⊢
        exact h2
    · by_cases f : y = z
      · subst f
        simp only [e, decide_false, cond_false, decide_eq_false_iff_not] at h1 ⊢
        exact h1
      · simp only [e, f, decide_false, cond_false, decide_eq_false_iff_not] at h1 h2
        have g : ¬ x = z := by omega
        simp only [g, decide_false, cond_false, decide_eq_false_iff_not]
        omega
theorem lexL_tot : ∀ x y, lexL x y = false → lexL y x = false → x = y
  | [], [], _, _ => rfl
  | [], _ :: _, h, _ => by simp [lexL] at h
  | _ :: _, [], _, h => by simp [lexL] at h
  | x :: xs, y :: ys, h1, h2 => by
    unfold lexL at h1 h2
    by_cases e : x = y
    · subst e
      simp only [decide_true, cond_true] at h1 h2
      rw [lexL_tot xs ys h1 h2]
    · have e' : ¬ y = x := fun z => e z.symm
      simp only [e, e', decide_false, cond_false, decide_eq_false_iff_not] at h1 h2
      omega
theorem swoL {α : Type} (k : α → List Int) : Swo fun v u => lexL (k v) (k u) := ⟨fun x y => lexL_asym _ _, fun x y z a b => lexL_tr _ _ _ b a⟩
/-- sorting rows, plainly -/
def putL (x : List Int) : List (List Int) → List (List Int)
  | [] => [x]
  | y :: r => bif lexL y x then y :: putL x r else x :: y :: r
def sortL : List (List Int) → List (List Int)
  | [] => []
  | x :: r => putL x (sortL r)
abbrev Up (l : List (List Int)) : Prop := l.Pairwise fun a b => lexL b a = false
theorem putL_perm (x : List Int) : ∀ l, (putL x l).Perm (x :: l)
  | [] => .refl _
  | y :: r => by
    unfold putL
    cases lexL y x
    · exact .refl _
    · exact ((putL_perm x r).cons y).trans (.swap ..)
theorem sortL_perm : ∀ l, (sortL l).Perm l
  | [] => .refl _
  | x :: r => (putL_perm x (sortL r)).trans ((sortL_perm r).cons x)
theorem putL_up (x : List Int) : ∀ l, Up l → Up (putL x l)
  | [], _ => List.pairwise_singleton _ _
  | y :: r, h => by
    obtain ⟨h1, h2⟩ := List.pairwise_cons.mp h
    unfold putL
    cases e : lexL y x
    · refine List.pairwise_cons.mpr ⟨fun z hz => ?_, h⟩
      rcases List.mem_cons.mp hz with rfl | hz
      · exact e
      · exact lexL_tr z y x (h1 z hz) e
    · refine List.pairwise_cons.mpr ⟨fun z hz => ?_, putL_up x r h2⟩
      rcases List.mem_cons.mp ((putL_perm x r).mem_iff.mp hz) with rfl | hz
      · exact lexL_asym y z e
      · exact h1 z hz
theorem sortL_up : ∀ l, Up (sortL l)
  | [] => List.Pairwise.nil
  | x :: r => putL_up x _ (sortL_up r)
theorem up_uniq : ∀ {l m : List (List Int)}, Up l → Up m → l.Perm m → l = m
  | [], m, _, _, p => (List.Perm.eq_nil p.symm).symm
  | x :: l, [], _, _, p => absurd p.length_eq (by simp)
  | x :: l, y :: m, hl, hm, p => by
    obtain ⟨a1, a2⟩ := List.pairwise_cons.mp hl
    obtain ⟨b1, b2⟩ := List.pairwise_cons.mp hm
    have e : x = y := by
      refine lexL_tot x y ?_ ?_
      · rcases List.mem_cons.mp (p.mem_iff.mp (List.mem_cons_self (a := x) (l := l))) with e | hx
        · rw [e]; exact lexL_irr y
        · exact b1 x hx
      · rcases List.mem_cons.mp (p.mem_iff.mpr (List.mem_cons_self (a := y) (l := m))) with e | hy
        · rw [e]; exact lexL_irr x
        · exact a1 y hy
    subst e
    rw [up_uniq a2 b2 p.cons_inv]
theorem sortL_of {l m : List (List Int)} (h : Up l) (p : l.Perm m) : sortL m = l := (up_uniq h (sortL_up m) (p.trans (sortL_perm m).symm)).symm
theorem sortL_perm2 {l m : List (List Int)} (p : l.Perm m) : sortL l = sortL m := up_uniq (sortL_up l) (sortL_up m) ((sortL_perm l).trans (p.trans (sortL_perm m).symm))

/-! ### in the machine -/
section
variable {prog : Program} {w : World} {A : Around} {E : Value → Shared → Prop} {s : Shared}
theorem row_lex {Q : Bool → Shared → Prop} {b : Bool} : ∀ {xs ys : List Value} {ns ms : List Int} (i : Nat), IntsAre xs ns → IntsAre ys ms → Q (lexL ns ms) s →
    PySem.W.KatLex prog w A b (decide (ns.length < ms.length)) Q (xs.zip ys) i s
  | _, _, _, _, i, .nil, .nil, h => PySem.W.kat_nil (by simpa [lexL] using h)
  | _, _, _, _, i, .nil, .cons m u hy, h => PySem.W.kat_nil (by simpa [lexL] using h)
  | _, _, _, _, i, .cons n t hx, .nil, h => PySem.W.kat_nil (by simpa [lexL] using h)
  | _, _, _, _, i, @IntsAre.cons n t xs ns hx, @IntsAre.cons m u ys ms hy, h => by
    have e : decide ((n :: ns).length < (m :: ms).length) = decide (ns.length < ms.length) := decide_eq_decide.mpr (by simp)
    rw [e]
    show PySem.W.KatLex prog w A b _ Q ((Value.int n t, Value.int m u) :: xs.zip ys) i s
    refine PySem.W.kat_cons (wpAny_eqBool_int ?_)
    unfold lexL at h
    by_cases q : n = m
    · rw [decide_eq_true q, cond_true] at h
      rw [show (n == m) = true from beq_iff_eq.mpr q]
      exact PySem.W.kat_yes (row_lex (i + 1) hx hy h)
    · rw [decide_eq_false q, cond_false] at h
      rw [show (n == m) = false from beq_eq_false_iff_ne.mpr q]
      exact PySem.W.kat_no (TS.oneLt_ints _ h)
def Rows (h : Heap) (k : Value → List Int) (vs : List Value) : Prop := ∀ v ∈ vs, TS.TupInts h v (k v) ∧ k v ≠ []
theorem Rows.fut {h h' : Heap} {k : Value → List Int} {vs : List Value} (x : Rows h k vs) (keep : ∀ b o, h.get? b = some o → o.cls = .type "tuple" → h'.get? b = some o) : Rows h' k vs := fun v m => ⟨(x v m).1.keeps keep, (x v m).2⟩
theorem row_cmp {vs : List Value} {k : Value → List Int} (hp : Rows s.heap k vs) : Cmp prog w A s (tuples' true) (fun p => p.1 ∈ vs) (lt2 fun v u => lexL (k v) (k u)) := by
  intro p q hm hm'
  obtain ⟨⟨a, xs, e1, ⟨o, ho, _, n, hd⟩, i1⟩, _⟩ := hp _ hm
  obtain ⟨⟨c, ys, e2, ⟨o', ho', _, n', hd'⟩, i2⟩, _⟩ := hp _ hm'
  show wpAny (model prog w) A (keyLt' (tuples' true) p.1 q.1) (fun r s' => s' = s ∧ r = lexL (k p.1) (k q.1)) (fun _ _ => False) s
  generalize k p.1 = ns at i1 ⊢
  generalize k q.1 = ms at i2 ⊢
  rw [e1, e2]
  refine PySem.W.kat_lt ho hd ho' hd' ?_
  have z : decide (xs.size < ys.size) = decide (ns.length < ms.length) := by
    have l1 := i1.length
    have l2 := i2.length
    rw [Array.length_toList] at l1 l2
    rw [l1, l2]
  rw [z]
  exact row_lex (Q := fun r s' => s' = s ∧ r = lexL ns ms) 0 i1 i2 ⟨rfl, rfl⟩
theorem row_firsts {h : Heap} {k : Value → List Int} : ∀ vs : List Value, Rows h k vs → ∃ fs, PySem.W.KatTups h vs fs ∧ fs.length = vs.length ∧ ∀ f ∈ fs, ∃ n t, f = Value.int n t
  | [], _ => ⟨[], .nil, rfl, fun _ hf => nomatch hf⟩
  | v :: vs, x => by
    obtain ⟨fs, k1, k2, k3⟩ := row_firsts vs fun u m => x u (List.mem_cons_of_mem _ m)
    obtain ⟨⟨a, xs, e1, ⟨o, ho, hc, n, hd⟩, i1⟩, ne⟩ := x v List.mem_cons_self
    generalize k v = ns at i1 ne
    obtain ⟨L⟩ := xs
    cases i1 with
    | nil => exact absurd rfl ne
    | @cons m t us ns i1 =>
      subst e1
      refine ⟨.int m t :: fs, .cons ho hc hd (by simp) k1, by simp [k2], fun f hf => ?_⟩
      rcases List.mem_cons.mp hf with rfl | hf
      · exact ⟨m, t, rfl⟩
      · exact k3 f hf
theorem row_sortable {a : Addr} {vs : List Value} {k : Value → List Int} (h0 : 0 < vs.length) (hp : Rows s.heap k vs) (ha : ∀ o, s.heap.get? a = some o → o.cls ≠ .type "tuple") : SortableO prog w A s a vs fun v u => lexL (k v) (k u) := by
  intro h1 keep
  have hq : Rows h1 k vs := hp.fut fun b o e c => keep b o (fun z => ha o (z ▸ e) c) e
  obtain ⟨fs, k1, k2, k3⟩ := row_firsts vs hq
  refine ⟨tuples' true, fun Q E q => PySem.W.kat_kind (T := Value.type "int") k1 (by omega) (fun f hf => ?_) (by rfl) ?_, row_cmp hq⟩
  · obtain ⟨n, t, e⟩ := k3 f hf
    subst e
    exact PySem.W.Looks.now
  · have e : (Value.type "int" != Value.type "tuple") = true := by decide +kernel
    rw [e]
    exact q
end
end SrtW
namespace Zm
open PySem L2 PySem.Spec PyProof.Rows SrtW
section
variable {X : Cx} {K : PySem.W.Frag}
inductive RowsV (K : PySem.W.Frag) (H : Hp) : List V → List (List Int) → Prop
  | nil : RowsV K H [] []
  | cons {t ns xs rows} : SqT K H t (ns.map V.int) → RowsV K H xs rows → RowsV K H (.ref t :: xs) (ns :: rows)
def rSortL (K : PySem.W.Frag) : List V → Hp → VK → Prop := fun vs H Q => ∃ a xs rows, vs = [V.ref a] ∧ SqL K H a xs ∧ RowsV K H xs rows ∧ (∀ r ∈ rows, r ≠ []) ∧
  ∀ (zs : List (V × List Int)) p, zs.Perm (xs.zip rows) → Up (zs.map (·.2)) → H p = none → Q (.ref p) (upd H p (.lst (zs.map (·.1))))
theorem rowsV_refs {H : Hp} : ∀ {xs : List V} {rows : List (List Int)}, RowsV K H xs rows → ∀ x ∈ xs, ∃ a, x = V.ref a
  | _, _, .nil, _, h => nomatch h
  | _, _, .cons _ r, x, h => by
    rcases List.mem_cons.mp h with rfl | h
    · exact ⟨_, rfl⟩
    · exact rowsV_refs r x h
theorem rowsV_raw {pins : List (Addr × Obj)} {s : Shared} {σ : L2.St} {H : Hp} (I : Inv X pins σ H s) : ∀ {xs : List V} {rows : List (List Int)} {us : List Value}, RowsV X.K H xs rows → Vals xs us →
    xs.zip rows = us.map (fun u => (backV u, TS.intsOf s.heap u)) ∧ ∀ u ∈ us, TS.TupInts s.heap u (TS.intsOf s.heap u) ∧ TS.intsOf s.heap u ∈ rows
  | _, _, _, .nil, .nil => ⟨rfl, fun _ h => nomatch h⟩
  | _, _, u :: us, @RowsV.cons _ _ t ns xs rows hT r, .cons v vs => by
    obtain ⟨h1, h2⟩ := rowsV_raw I r vs
    obtain ⟨its, rv, tu, _⟩ := I.tuple hT
    cases v
    have z : TS.TupInts s.heap (.ref t) ns := ⟨t, its.toArray, rfl, tu, by simpa using rv.ints⟩
    refine ⟨?_, fun u hu => ?_⟩
    · rw [List.zip_cons_cons, List.map_cons, h1, z.ints]
      rfl
    · rcases List.mem_cons.mp hu with rfl | hu
      · rw [z.ints]
        exact ⟨z, List.mem_cons_self⟩
      · exact ⟨(h2 u hu).1, List.mem_cons_of_mem _ (h2 u hu).2⟩
theorem cr_sortL : CallR X (.builtin "sorted") (rSortL X.K) := by
  intro pins s σ H vs us Q I r h
  obtain ⟨a, xs, rows, rfl, hs, hr, hne, q⟩ := h
  obtain ⟨its, rv, hl, hz⟩ := I.list hs
  obtain ⟨u, rfl, ru⟩ := vals1 r
  obtain rfl : u = Value.ref a := ru
  obtain ⟨e1, e2⟩ := refs_back rv (rowsV_refs hr)
  obtain ⟨z1, z2⟩ := rowsV_raw I hr rv
  have hz' : its.length ≤ sizeLine := by rw [← rv.length]; exact hz
  have hR : Rows s.heap (TS.intsOf s.heap) its := fun v m => ⟨(z2 v m).1, hne _ (z2 v m).2⟩
  refine SrtO.sorted_ord (swoL (TS.intsOf s.heap)) hl.isList hz' (fun h2 h₁ c hc kk => ?_) fun out hs hb => ?_
  · refine row_sortable (s := { s with heap := h₁ }) (by omega) (hR.fut fun b o e _ => (kk b o e).2) fun o e f => ?_
    have g : some o = some (seqObj "list" its.toArray 0) := e.symm.trans hc
    cases g
    exact absurd (Value.type.inj f) (by decide)
  · have h3 : ∀ u ∈ out, ∃ a, u = Value.ref a := fun u hu => e2 u (hb.perm.mem_iff.mp hu)
    obtain ⟨n, hn⟩ := sortedAll_at s.heap its out.toArray
    have q' := q (out.map fun u => (backV u, TS.intsOf s.heap u)) (s.heap.objs.size + 1) (by rw [z1]; exact hb.perm.map _) (by
      rw [List.map_map]
      exact List.pairwise_map.mpr hs) (I.hok.fresh (Nat.le_succ _))
    rw [List.map_map] at q'
    refine ⟨.ref _, upd H (s.heap.objs.size + 1) (.lst (out.map backV)), I.laid (t' := s.toks) (fun b o e => sortedAll_old e) (Nat.le_succ _) ⟨?_, out, n, vals_back h3, hn⟩, rfl, q'⟩
    rw [List.length_map, hb.perm.length_eq]
    exact hz'
/-! ### over plain data -/
def rowI : D → Option (List Int)
  | .tup (d :: ds) => asInts (d :: ds)
  | _ => none
def rowsI : List D → Option (List (List Int))
  | [] => some []
  | d :: ds => (rowI d).bind fun r => (rowsI ds).map fun rs => r :: rs
abbrev rowD (r : List Int) : D := .tup (r.map D.int)
theorem rowI_mk {n : Int} {r : List Int} : rowI (rowD (n :: r)) = some (n :: r) := by
  have h : ∀ l : List Int, asInts (l.map D.int) = some l := fun l => by
    induction l with
    | nil => rfl
    | cons a l ih => simp only [List.map_cons, asInts, asInt, Option.bind_some, ih, Option.map_some]
  exact h (n :: r)
theorem rowI_ne {d : D} {r : List Int} (h : rowI d = some r) : r ≠ [] := by
  unfold rowI at h
  split at h
  · simp only [asInts] at h
    obtain ⟨i, _, h⟩ := Option.bind_eq_some_iff.mp h
    obtain ⟨j, _, h⟩ := Option.map_eq_some_iff.mp h
    subst h
    simp
  · cases h
theorem asInts_mk : ∀ {ds : List D} {r : List Int}, asInts ds = some r → ds = r.map D.int
  | [], r, h => by simp only [asInts] at h; cases h; rfl
  | d :: ds, r, h => by
    simp only [asInts] at h
    obtain ⟨i, h1, h⟩ := Option.bind_eq_some_iff.mp h
    obtain ⟨j, h2, h⟩ := Option.map_eq_some_iff.mp h
    subst h
    rw [asInts_mk h2]
    cases d <;> simp [asInt] at h1
    subst h1
    rfl
theorem rowI_den {ρ : Rho} {H : Hp} {x : V} {d : D} {r : List Int} (dn : Den K ρ H x d) (h : rowI d = some r) : (∃ t, x = .ref t ∧ SqT K H t (r.map V.int)) ∧ d = rowD r := by
  unfold rowI at h
  split at h
  · obtain ⟨a, vs, rfl, h1, h2⟩ := den_tup dn
    rw [dens_ints h2 h] at h1
    exact ⟨⟨a, rfl, h1⟩, by rw [asInts_mk h]⟩
  · cases h
theorem rowsI_den {ρ : Rho} {H : Hp} : ∀ {xs : List V} {ds : List D} {rows : List (List Int)}, Dens K ρ H xs ds → rowsI ds = some rows → RowsV K H xs rows ∧ (∀ r ∈ rows, r ≠ []) ∧ ∀ z ∈ xs.zip rows, Den K ρ H z.1 (rowD z.2)
  | _, [], rows, .nil, h => by
    simp only [rowsI] at h
    cases h
    exact ⟨.nil, fun _ h => absurd h List.not_mem_nil, fun _ h => absurd h List.not_mem_nil⟩
  | _, d :: ds, rows, .cons a b, h => by
    simp only [rowsI] at h
    obtain ⟨i, h1, h⟩ := Option.bind_eq_some_iff.mp h
    obtain ⟨j, h2, h⟩ := Option.map_eq_some_iff.mp h
    subst h
    obtain ⟨⟨t, rfl, g1⟩, g2⟩ := rowI_den a h1
    obtain ⟨f1, f2, f3⟩ := rowsI_den b h2
    refine ⟨.cons g1 f1, fun r hr => ?_, fun z hz => ?_⟩
    · rcases List.mem_cons.mp hr with rfl | hr
      · exact rowI_ne h1
      · exact f2 r hr
    · rw [List.zip_cons_cons] at hz
      rcases List.mem_cons.mp hz with rfl | hz
      · exact g2 ▸ a
      · exact f3 z hz
def sortD (ds : List D) : Option D := (rowsI ds).map fun rs => .lst ((sortL rs).map rowD)
def oSorted : Cells → List D → Option D
  | _, [.lst ds] => sortD ds
  | h, [.cell i] => (h[i]?).bind sortD
  | _, _ => none
theorem dens_rows {ρ : Rho} {H : Hp} : ∀ {zs : List (V × List Int)}, (∀ z ∈ zs, Den K ρ H z.1 (rowD z.2)) → Dens K ρ H (zs.map (·.1)) ((zs.map (·.2)).map rowD)
  | [], _ => .nil
  | z :: zs, h => .cons (h z List.mem_cons_self) (dens_rows fun y m => h y (List.mem_cons_of_mem _ m))
theorem zip_snd_perm {α β : Type} {zs : List (α × β)} {xs : List α} {ys : List β} (p : zs.Perm (xs.zip ys)) (l : ys.length ≤ xs.length) : (zs.map (·.2)).Perm ys := by
  have := p.map (·.2)
  rwa [List.map_snd_zip l] at this
theorem rowsV_len {H : Hp} : ∀ {xs : List V} {rows : List (List Int)}, RowsV K H xs rows → rows.length = xs.length
  | _, _, .nil => rfl
  | _, _, .cons _ r => by rw [List.length_cons, List.length_cons, rowsV_len r]
theorem sortD_run {ρ : Rho} {h : Cells} {H : Hp} {p : Addr} {xs : List V} {ds : List D} {d : D} {Q : VK} (R : Rel K ρ h H) (hs : SqL K H p xs) (a : Dens K ρ H xs ds) (e : sortD ds = some d)
    (k : ∀ v H' ρ', Fut ρ H ρ' H' → Rel K ρ' h H' → Den K ρ' H' v d → Q v H') : rSortL K [.ref p] H Q := by
  obtain ⟨rows, e1, e2⟩ := Option.map_eq_some_iff.mp e
  subst e2
  obtain ⟨f1, f2, f3⟩ := rowsI_den a e1
  refine ⟨p, xs, rows, rfl, hs, f1, f2, fun zs q pm up ho => ?_⟩
  have e3 : sortL rows = zs.map (·.2) := sortL_of up (zip_snd_perm pm (Nat.le_of_eq (rowsV_len f1)))
  refine k _ _ ρ (fut_new _ ho) (R.new _ ho) (.lst upd_same (R.out ho) ?_)
  rw [e3]
  exact (dens_rows fun z m => f3 z (pm.mem_iff.mp m)).fut (fut_new _ ho)
theorem c_sorted : OpC K (rSortL K) oSorted := by
  intro ρ h H xs dxs d Q R a e k
  unfold oSorted at e
  split at e
  · obtain ⟨x, rfl, a1⟩ := dens1 a
    obtain ⟨p, vs, rfl, hp⟩ := den_lst a1
    obtain ⟨s1, t1⟩ := hp ρ H (.refl _ _)
    exact sortD_run R s1 t1 e k
  · obtain ⟨x, rfl, a1⟩ := dens1 a
    obtain ⟨ds, e1, e2⟩ := Option.bind_eq_some_iff.mp e
    cases a1 with
    | cell c =>
      obtain ⟨vs, q1, q2⟩ := R.at_ _ _ _ c e1
      exact sortD_run R (SqL.of q1) q2 e2 k
  · cases e
end
end Zm

set_option Elab.async false
set_option linter.all false
set_option maxRecDepth 100000
/-! Zo: x[::-1] of lists and tuples. -/
namespace HT
open PySem PyProof.Rows
section
variable {prog : Program} {w : World} {A : Around} {E : Value → Shared → Prop} {s : Shared}
theorem back_places (n : Nat) : Builtin.Slice.slicePlaces ((n : Int) - 1) (-1) (-1) = n := by
  unfold Builtin.Slice.slicePlaces
  rw [if_neg (by omega)]
  by_cases h : (-1 : Int) < (n : Int) - 1
  · rw [if_pos h]
    have e : -(-1 : Int) = 1 := by omega
    rw [e, Int.ediv_one]
    omega
  · rw [if_neg h]
    omega
theorem back_adjust (n : Nat) : Builtin.Slice.sliceAdjust none none (-1) (n : Int) = ((n : Int) - 1, -1) := by
  unfold Builtin.Slice.sliceAdjust
  have h : (-1 : Int) < 0 := by omega
  simp only [h, if_true]
theorem back_applied {sl : Addr} {vl vu vs : Value} {n : Nat} {Q : Int × Int × Nat → Shared → Prop} (hs : s.heap.IsSliceOf sl vl vu vs) (pl : IsPart vl none) (pu : IsPart vu none) (ps : IsPart vs (some (-1)))
    (h : Q ((n : Int) - 1, -1, n) s) : wpAny (model prog w) A (Builtin.Slice.sliceApplied (.ref sl) (pure (n : Int))) Q E s := by
  obtain ⟨os, h1, h2, h3⟩ := id hs
  unfold Builtin.Slice.sliceApplied Builtin.Slice.sliceFields
  refine wpAny_bind (wpAny_bind (wpAny_field h1 h3 (x := vl) rfl (wpAny_bind (wpAny_field h1 h3 (x := vu) rfl (wpAny_bind (wpAny_field h1 h3 (x := vs) rfl (wpAny_pure ?_)))))))
  refine wpAny_bind (slicePart_ ps ?_)
  show wpAny _ _ (if ((-1 : Int) == 0) = true then _ else _) _ _ s
  rw [if_neg (by decide)]
  refine wpAny_bind (slicePart_ pl (wpAny_bind (slicePart_ pu (wpAny_bind (wpAny_pure ?_)))))
  show wpAny _ _ (match Builtin.Slice.sliceAdjust none none (-1) (n : Int) with | (lo, hi) => pure (lo, (-1 : Int), Builtin.Slice.slicePlaces lo hi (-1))) _ _ s
  rw [back_adjust]
  show wpAny _ _ (pure ((n : Int) - 1, (-1 : Int), Builtin.Slice.slicePlaces ((n : Int) - 1) (-1) (-1))) _ _ s
  rw [back_places]
  exact wpAny_pure h
theorem fm_congr {α β : Type} {f g : α → Option β} : ∀ {l : List α}, (∀ x ∈ l, f x = g x) → l.filterMap f = l.filterMap g
  | [], _ => rfl
  | x :: l, h => by
    rw [List.filterMap_cons, List.filterMap_cons, h x List.mem_cons_self, fm_congr fun y m => h y (List.mem_cons_of_mem _ m)]
theorem back_pick (xs : Array Value) : ((List.range xs.size).filterMap fun (k : Nat) => xs[((xs.size : Int) - 1 + (k : Int) * -1).toNat]?).toArray = xs.toList.reverse.toArray := by
  congr 1
  obtain ⟨l⟩ := xs
  show ((List.range l.length).filterMap fun (k : Nat) => l.toArray[((l.length : Int) - 1 + (k : Int) * -1).toNat]?) = l.reverse
  have e : (List.range l.length).filterMap (fun (k : Nat) => l.toArray[((l.length : Int) - 1 + (k : Int) * -1).toNat]?) = (List.range l.reverse.length).filterMap (fun k => l.reverse[k]?) := by
    rw [List.length_reverse]
    refine fm_congr fun k hk => ?_
    have hk' := List.mem_range.mp hk
    rw [List.getElem?_reverse hk']
    have : ((l.length : Int) - 1 + (k : Int) * -1).toNat = l.length - 1 - k := by omega
    rw [this, List.getElem?_toArray]
  rw [e]
  have := PySem.W.krv_all l.reverse.toArray
  simpa using this
theorem getItem_tuple_back {t sl : Addr} {items : Array Value} {vl vu vs : Value} {Q : Value → Shared → Prop} (ht : IsTup s.heap t items) (hs : s.heap.IsSliceOf sl vl vu vs) (pl : IsPart vl none) (pu : IsPart vu none) (ps : IsPart vs (some (-1)))
    (h : Q (.ref s.heap.objs.size) { s with heap := s.heap.push { cls := .type "tuple", data := .seq items.toList.reverse.toArray } }) (hsz : items.size ≤ sizeLine) : wpAny (model prog w) A (getItem (.ref t) (.ref sl)) Q E s := by
  have hk : sizeOk (.seq items.toList.reverse.toArray) := by
    show items.toList.reverse.toArray.size ≤ sizeLine
    simpa using hsz
  obtain ⟨os, h1, h2, h3⟩ := id hs
  have hTs : s.TypeIs (.ref sl) "slice" := ⟨os, h1, h2⟩
  unfold getItem
  try with_reducible refine wpAny_holding ?_
  first | refine wpAny_bind (wpAny_pure ?_) | skip
  refine wpAny_bind (wpAny_sequenceKey ht.typeIs (by decide) (wpAny_bind (wpAny_callSpecial?_slot (name := Str.ofString "__getitem__") ht.typeIs PyProof.Rows.slot_tuple_getitem (wpAny_call_entry PyProof.Rows.slot_tuple_getitem ht.typeIs entry_tuple_getitem ?_ (args_tuple_getitem _ _)))))
  show wpAny _ _ (Builtin.Tuple.tupleItemsOf (.ref t) >>= _) _ _ s
  refine wpAny_bind (tupleItemsOf_ ht (wpAny_bind (wpAny_typeOf hTs ?_)))
  rw [if_pos (by decide)]
  refine wpAny_bind (back_applied hs pl pu ps ?_)
  show wpAny _ _ (if (((items.size : Int) - 1 == 0 && (-1 : Int) == 1 && items.size == items.size)) = true then _ else _) _ _ s
  rw [if_neg (by simp), back_pick]
  first
    | exact wpAny_bind (m := Builtin.Tuple.tupleExact _) (wpAny_newObj_type (wpAny_pure ⟨_, rfl, wpAny_pure h⟩) hk)
    | exact wpAny_bind (m := Builtin.Tuple.tupleExact _) (wpAny_newObj_type (wpAny_bind (wpAny_pure (wpAny_pure ⟨_, rfl, wpAny_pure h⟩))) hk)
    | exact wpAny_bind (wpAny_bind (m := Builtin.Tuple.tupleExact _) (wpAny_newObj_type (wpAny_pure (wpAny_pure ⟨_, rfl, wpAny_pure h⟩)) hk))
    | exact wpAny_bind (wpAny_bind (m := Builtin.Tuple.tupleExact _) (wpAny_newObj_type (wpAny_pure ⟨_, rfl, wpAny_pure h⟩) hk))
end
end HT
namespace Zm
open PySem L2 PySem.Spec PyProof.Rows
section
variable {X : Cx} {K : PySem.W.Frag}
def tRevA (K : PySem.W.Frag) (te : TE) : TE := fun σ H Q => te σ H fun x H1 => ∃ a xs, x = .ref a ∧ ((SqL K H1 a xs ∧ ∀ p, H1 p = none → Q (.ref p) (upd H1 p (.lst xs.reverse))) ∨ (SqT K H1 a xs ∧ ∀ p, H1 p = none → Q (.ref p) (upd H1 p (.tup xs.reverse))))
theorem pe_revA {e : Expr} {te : TE} {k : Nat} {p1 p2 p3 pos : Pos} (he : PE X e te) : PE X (.Subscript e (.Slice none none (some (.UnaryOp .USub (.Constant (.int 1) k p1) p2)) p3) pos) (tRevA X.K te) := by
  refine ⟨fun pins s σ H Q I h => Subscript_ (thn (he.run pins s σ H _ I h) fun v s1 ⟨x, H1, I1, r1, q1⟩ => ?_)⟩
  obtain ⟨a, xs, ex, q⟩ := q1
  subst ex
  cases r1
  have hst : PO X (some (.UnaryOp .USub (.Constant (.int 1) k p1) p2)) (tPart (tUn (rU fun i => .int (-i)) (tC (.int 1)))) := po_some (pe_un un_neg pe_int)
  refine wpAny_Slice (thn (po_none.run pins s1 σ H1 (fun o G => o = none ∧ G = H1) I1 ⟨rfl, rfl⟩) fun vl s2 ⟨l, H2, I2, pl, el, e2⟩ => thn (po_none.run pins s2 σ H2 (fun o G => o = none ∧ G = H2) I2 ⟨rfl, rfl⟩) fun vu s3 ⟨u, H3, I3, pu, eu, e3⟩ =>
    thn (hst.run pins s3 σ H3 (fun o G => o = some (-1) ∧ G = H3) I3 ⟨1, rfl, -1, rfl, rfl, rfl⟩) fun vs s4 ⟨o, H4, I4, ps, eo, e4⟩ => ?_)
  subst el e2 eu e3 eo e4
  have I5 : Inv X pins σ H4 { s4 with heap := s4.heap.push { cls := .type "slice", data := .fields #[vl, vu, vs] } } := I4.kept (t' := s4.toks) fun b ob q => Heap.get?_push_of_some _ q
  show wpAny (model X.prog X.w) X.A (subscriptTail e (.Slice none none (some (.UnaryOp .USub (.Constant (.int 1) k p1) p2)) p3) (.ref a) (.ref s4.heap.objs.size)) (EP X pins σ Q) X.xe { s4 with heap := s4.heap.push { cls := .type "slice", data := .fields #[vl, vu, vs] } }
  rcases q with ⟨hx, q⟩ | ⟨hx, q⟩
  · obtain ⟨its, r, ht, hz⟩ := I5.list hx
    have hlen := r.length
    refine tail_any (ops := [.ref a, .ref s4.heap.objs.size]) ht.isList.typeIs (PySem.slot_list_getitem.lookup) (wpAny_getItem_list_slice ht.isList (Heap.IsSliceOf.new _ vl vu vs) pl pu ps (by decide) ?_ (by rw [List.size_toArray]; omega)) (by with_unfolding_all rfl)
    rw [PySem.W.krv_pick]
    exact ⟨.ref _, _, I5.laid (t' := s4.toks) (o := .lst xs.reverse) (fun b ob q => Heap.get?_push_of_some _ q) (Nat.le_refl _) ⟨by rw [List.length_reverse]; exact hz, _, 0, r.reverse, Heap.get?_push_size _ rfl⟩, rfl, q _ (I5.hok.fresh (Nat.le_refl _))⟩
  · obtain ⟨its, r, ht, hz⟩ := I5.tuple hx
    have hlen := r.length
    refine tail_any (ops := [.ref a, .ref s4.heap.objs.size]) ht.typeIs (PyProof.Rows.slot_tuple_getitem.lookup) (HT.getItem_tuple_back ht (Heap.IsSliceOf.new _ vl vu vs) pl pu ps ?_ (by rw [List.size_toArray]; omega)) (by with_unfolding_all rfl)
    exact ⟨.ref _, _, I5.laid (t' := s4.toks) (o := .tup xs.reverse) (fun b ob q => Heap.get?_push_of_some _ q) (Nat.le_refl _) ⟨by rw [List.length_reverse]; exact hz, _, r.reverse, IsTup.new _ _⟩, rfl, q _ (I5.hok.fresh (Nat.le_refl _))⟩
def oRev : Cells → D → Option D
  | _, .tup ds => some (.tup ds.reverse)
  | _, .lst ds => some (.lst ds.reverse)
  | _, .frl ds => some (.lst ds.reverse)
  | h, .cell i => (h[i]?).map fun ds => .lst ds.reverse
  | _, _ => none
def mRev (f : ME) : ME := fun ms => (f ms).bind fun r => (oRev r.2 r.1).map fun d => (d, r.2)
theorem dens_rev {ρ : Rho} {H : Hp} : ∀ {vs : List V} {ds : List D}, Dens K ρ H vs ds → Dens K ρ H vs.reverse ds.reverse
  | _, _, .nil => .nil
  | _, _, .cons a b => by
    rw [List.reverse_cons, List.reverse_cons]
    exact (dens_rev b).append (.cons a .nil)
theorem ev_rev {e : Expr} {k : Nat} {p1 p2 p3 pos : Pos} {f : ME} (he : EV X e f) : EV X (.Subscript e (.Slice none none (some (.UnaryOp .USub (.Constant (.int 1) k p1) p2)) p3) pos) (mRev f) := by
  refine pe_w (pe_revA he) fun σ H Q h => ?_
  obtain ⟨ρ, ms, d, h', R, S, e, q⟩ := h
  obtain ⟨⟨dx, h1⟩, e1, e2⟩ := Option.bind_eq_some_iff.mp e
  obtain ⟨y, e3, e4⟩ := Option.map_eq_some_iff.mp e2
  cases e4
  refine ⟨ρ, ms, dx, h1, R, S, e1, fun x H1 ρ1 F1 R1 dn => ?_⟩
  dsimp only at e3
  cases dx <;> simp only [oRev] at e3 <;> try (cases e3; done)
  · cases e3
    obtain ⟨p, vs, rfl, hp⟩ := den_tupF dn
    obtain ⟨s1, t1⟩ := hp ρ1 H1 (.refl _ _)
    exact ⟨p, vs, rfl, .inr ⟨s1, fun a ho => q _ _ ρ1 (F1.trans (fut_new _ ho)) (R1.new _ ho) (.tup (.inl upd_same) (R1.out ho) ((dens_rev t1).fut (fut_new _ ho)))⟩⟩
  · cases e3
    obtain ⟨p, vs, rfl, hp⟩ := den_lst dn
    obtain ⟨s1, t1⟩ := hp ρ1 H1 (.refl _ _)
    exact ⟨p, vs, rfl, .inl ⟨s1, fun a ho => q _ _ ρ1 (F1.trans (fut_new _ ho)) (R1.new _ ho) (.lst upd_same (R1.out ho) ((dens_rev t1).fut (fut_new _ ho)))⟩⟩
  · cases e3
    obtain ⟨p, vs, rfl, hp⟩ := den_frl dn
    obtain ⟨s1, t1⟩ := hp ρ1 H1 (.refl _ _)
    exact ⟨p, vs, rfl, .inl ⟨s1, fun a ho => q _ _ ρ1 (F1.trans (fut_new _ ho)) (R1.new _ ho) (.lst upd_same (R1.out ho) ((dens_rev t1).fut (fut_new _ ho)))⟩⟩
  · obtain ⟨ds, e5, e6⟩ := Option.map_eq_some_iff.mp e3
    cases e6
    cases dn with
    | cell c =>
      obtain ⟨vs, q1, q2⟩ := R1.at_ _ _ _ c e5
      exact ⟨_, vs, rfl, .inl ⟨SqL.of q1, fun a ho => q _ _ ρ1 (F1.trans (fut_new _ ho)) (R1.new _ ho) (.lst upd_same (R1.out ho) ((dens_rev q2).fut (fut_new _ ho)))⟩⟩
/-! ### list(x), tuple(x) -/
def rowsOf (h : Cells) : D → Option (List D)
  | .tup ds => some ds
  | .lst ds => some ds
  | .frl ds => some ds
  | .cell i => h[i]?
  | _ => none
theorem rowsOf_den {ρ : Rho} {h : Cells} {H : Hp} {x : V} {d : D} {ds : List D} (R : Rel K ρ h H) (dn : Den K ρ H x d) (e : rowsOf h d = some ds) : ∃ p vs, x = .ref p ∧ (SqL K H p vs ∨ SqT K H p vs) ∧ Dens K ρ H vs ds := by
  cases d <;> simp only [rowsOf] at e <;> try (cases e; done)
  · cases e
    obtain ⟨p, vs, rfl, hp⟩ := den_tupF dn
    obtain ⟨s1, t1⟩ := hp ρ H (.refl _ _)
    exact ⟨p, vs, rfl, .inr s1, t1⟩
  · cases e
    obtain ⟨p, vs, rfl, hp⟩ := den_lst dn
    obtain ⟨s1, t1⟩ := hp ρ H (.refl _ _)
    exact ⟨p, vs, rfl, .inl s1, t1⟩
  · cases e
    obtain ⟨p, vs, rfl, hp⟩ := den_frl dn
    obtain ⟨s1, t1⟩ := hp ρ H (.refl _ _)
    exact ⟨p, vs, rfl, .inl s1, t1⟩
  · cases dn with
    | cell c =>
      obtain ⟨vs, q1, q2⟩ := R.at_ _ _ _ c e
      exact ⟨_, vs, rfl, .inl (SqL.of q1), q2⟩
def oList : Cells → List D → Option D
  | h, [x] => (rowsOf h x).map .lst
  | _, _ => none
theorem c_list : OpC K (fun xs H Q => ∃ p ys, xs = [V.ref p] ∧ (SqL K H p ys ∨ SqT K H p ys) ∧ ∀ l, H l = none → Q (.ref l) (upd H l (.lst ys))) oList := by
  intro ρ h H xs dxs d Q R a e k
  unfold oList at e
  split at e
  · obtain ⟨ds, e1, e2⟩ := Option.map_eq_some_iff.mp e
    cases e2
    obtain ⟨x, rfl, a1⟩ := dens1 a
    obtain ⟨p, vs, rfl, s1, t1⟩ := rowsOf_den R a1 e1
    exact ⟨p, vs, rfl, s1, fun l ho => k _ _ ρ (fut_new _ ho) (R.new _ ho) (.lst upd_same (R.out ho) (t1.fut (fut_new _ ho)))⟩
  · cases e
end
end Zm

set_option Elab.async false
set_option linter.all false
set_option maxRecDepth 100000
/-! Zq: comprehensions of two clauses; the whole root; tuple(x). -/
namespace PySem.W
open PySem PySem.Calls
theorem mg_root {prog : Program} {w : World} {A : Around} {E : Value → Shared → Prop} {s : Shared} {Q : Value → Shared → Prop} {a : Int} {t : Tok} (h0 : 0 ≤ a) (h1 : a.toNat.log2 < 13000)
    (h : Q (.int ((Float64.isqrt a.toNat : Nat) : Int) s.toks) { s with toks := s.toks + 1 }) : wpAny (model prog w) A (call (.builtin "math.isqrt") [.int a t]) Q E s :=
  call_function_meets MGF.kind_isqrt MGF.plain_isqrt MGF.entry_isqrt (MGF.args_isqrt _) (mg_run_isqrt a t (by omega) (by omega) (by omega)).meets h
end PySem.W
namespace Zm
open PySem L2
section
variable {X : Cx} {K : PySem.W.Frag}
/-- what came after, though what is hidden may be written -/
structure FutV (ρ : Rho) (H : Hp) (ρ' : Rho) (H' : Hp) : Prop where
  keep : ∀ a o, a ∉ ρ → H a = some o → H' a = some o
  out : ∀ a o, a ∉ ρ → H a = some o → a ∉ ρ'
theorem FutV.refl (ρ : Rho) (H : Hp) : FutV ρ H ρ H := ⟨fun _ _ _ e => e, fun _ _ n _ => n⟩
theorem FutV.fut {ρ ρ1 ρ2 : Rho} {H H1 H2 : Hp} (a : FutV ρ H ρ1 H1) (b : Fut ρ1 H1 ρ2 H2) : FutV ρ H ρ2 H2 :=
  ⟨fun x o n e => b.keep x o (Rho.notIn (a.out x o n e)).1 (a.keep x o n e), fun x o n e => Fut.out (u := o) b (a.out x o n e) (.inl (a.keep x o n e))⟩
theorem FutV.poke {ρ ρ1 : Rho} {H H1 : Hp} {p : Addr} {o : HO} (a : FutV ρ H ρ1 H1) (hp : p ∈ ρ.v) : FutV ρ H ρ1 (upd H1 p o) :=
  ⟨fun x u n e => by rw [upd_ne (fun z : x = p => n (.inr (by rw [z]; exact hp)))]; exact a.keep x u n e, a.out⟩
def YieldsV (K : PySem.W.Frag) (ρ0 : Rho) (H0 : Hp) (J : It) (ds : List D) : Prop :=
  ∀ i ρ H h, FutV ρ0 H0 ρ H → Rel K ρ h H → (ds.length ≤ i → J.stop i H) ∧ ∀ d, ds[i]? = some d → J.go i H ∧ ∀ x H', J.yld i H x H' → Fut ρ H ρ H' ∧ Rel K ρ h H' ∧ Den K ρ H' x d
theorem yieldsV_rng {K : PySem.W.Frag} {ρ : Rho} {H : Hp} (lo : Int) (n : Nat) : YieldsV K ρ H (Itr lo n) (intsD lo n) := fun i ρ2 H2 h2 _ R2 => yields_rng lo n i ρ2 H2 h2 (.refl ρ2 H2) R2
/-- a source that yields the items whatever else happens -/
def rdIA (K : PySem.W.Frag) (f : MI) : TI := fun σ H Rk => ∃ ρ ms ds h', Rel K ρ ms.h H ∧ Slots K ρ H ms.s σ ∧ f ms = some (ds, h') ∧ ∀ J H' ρ', Fut ρ H ρ' H' → Rel K ρ' h' H' → YieldsV K ρ' H' J ds → Rk J H'
abbrev IVA (X : Cx) (tg iter : Expr) (f : MI) : Prop := PI X tg iter (rdIA X.K f)
theorem iva_range1 {tg a : Expr} {p pos : Pos} {f : MA} (hm : X.mg "range" = none) (ha : AV X [a] f) (hg : Gl X "range" := by rfl) (hs : starEach [a] X.env = [(false, eval a X.env)] := by rfl) : IVA X tg (.Call (.Name "range" p) [a] [] pos) (iR1 f) := by
  refine pi_w (pi_range1 hg hm ha hs) fun σ H Rk h => ?_
  obtain ⟨ρ, ms, ds, h', R, S, e, q⟩ := h
  obtain ⟨⟨xs, h1⟩, e1, e2⟩ := Option.bind_eq_some_iff.mp e
  dsimp only at e2
  split at e2
  · rename_i j
    obtain ⟨hb, e3⟩ := bif_some e2
    cases e3
    have hb' : -4611686018427387904 ≤ j ∧ j < 4611686018427387904 := of_decide_eq_true hb
    refine ⟨ρ, ms, _, _, R, S, e1, fun vs H1 ρ1 F1 R1 dn => ?_⟩
    obtain ⟨x, rfl, a1⟩ := dens1 dn
    exact ⟨j, by rw [den_int a1], by omega, by omega, q _ _ ρ1 F1 R1 (yieldsV_rng 0 j.toNat)⟩
  · cases e2
theorem iva_range2 {tg a b : Expr} {p pos : Pos} {f : MA} (hm : X.mg "range" = none) (ha : AV X [a, b] f) (hg : Gl X "range" := by rfl) (hs : starEach [a, b] X.env = [(false, eval a X.env), (false, eval b X.env)] := by rfl) (hs2 : starEach [b] X.env = [(false, eval b X.env)] := by rfl) : IVA X tg (.Call (.Name "range" p) [a, b] [] pos) (iR2 f) := by
  refine pi_w (pi_range2 hg hm ha hs hs2) fun σ H Rk h => ?_
  obtain ⟨ρ, ms, ds, h', R, S, e, q⟩ := h
  obtain ⟨⟨xs, h1⟩, e1, e2⟩ := Option.bind_eq_some_iff.mp e
  dsimp only at e2
  split at e2
  · rename_i i j
    obtain ⟨hb, e3⟩ := bif_some e2
    cases e3
    rw [Bool.and_eq_true] at hb
    have hb1 : -4611686018427387904 ≤ i ∧ i < 4611686018427387904 := of_decide_eq_true hb.1
    have hb2 : -4611686018427387904 ≤ j ∧ j < 4611686018427387904 := of_decide_eq_true hb.2
    refine ⟨ρ, ms, _, _, R, S, e1, fun vs H1 ρ1 F1 R1 dn => ?_⟩
    obtain ⟨x, y, rfl, a1, a2⟩ := dens2 dn
    exact ⟨i, j, by rw [den_int a1, den_int a2], ⟨by omega, by omega, by omega, by omega⟩, q _ _ ρ1 F1 R1 (yieldsV_rng i _)⟩
  · cases e2
theorem Slots.poke {ρ : Rho} {H : Hp} {s : List (Option D)} {σ : L2.St} (S : Slots K ρ H s σ) {p : Addr} (o : HO) (hp : p ∈ ρ.v) : Slots K ρ (upd H p o) s σ := ⟨S.1, fun i d h => by
  obtain ⟨v, e, dn⟩ := S.2 i d h
  exact ⟨v, e, dn.poke hp⟩⟩
def mComp2L (g : MG) (t : MT) (f1 : MI) (g1 : MG) (t1 : MT) (e : ME) (w : List (Option D)) (vs1 : List Nat) : List D → Cells → Option (List D × Cells)
  | [], h => some ([], h)
  | d :: ds, h => (g d ⟨w, h⟩).bind fun m1 => (t m1).bind fun b => bif b.1 then (f1 ⟨m1.s, b.2⟩).bind fun r => (mCompL g1 t1 e (wipeD m1.s vs1) r.1 r.2).bind fun q => (mComp2L g t f1 g1 t1 e w vs1 ds q.2).map fun z => (q.1 ++ z.1, z.2) else mComp2L g t f1 g1 t1 e w vs1 ds b.2
def mComp2 (f : MI) (g : MG) (t : MT) (f1 : MI) (g1 : MG) (t1 : MT) (e : ME) (vs vs1 : List Nat) : ME := fun ms => (f ms).bind fun r => (mComp2L g t f1 g1 t1 e (wipeD ms.s vs) vs1 r.1 r.2).bind fun q => bif decide (q.1.length ≤ line) then some (.lst q.1, q.2) else none
theorem wipe_back {vs : List Nat} {σ σ3 : L2.St} (hw : wipe σ3 vs = wipe (wipe σ vs) vs) : wipe σ3 vs = wipe σ vs := by
  apply List.ext_getElem?
  intro j
  have hw2 := congrArg (fun l => l[j]?) hw
  simp only [wipe_get, wipe_length] at hw2 ⊢
  by_cases hj : j ∈ vs
  · simpa [hj] using hw2
  · simpa [hj] using hw2
/-- what stands while the new list at Ad grows -/
structure Grow (K : PySem.W.Frag) (ρ1 : Rho) (H1 : Hp) (Ad : Addr) (ρ : Rho) (h : Cells) (H : Hp) (dacc : List D) : Prop where
  F : Fut ρ1 H1 ρ H
  R : Rel K ρ h H
  A : ∃ acc, H Ad = some (.lst acc) ∧ Dens K ρ H acc dacc
  v : Ad ∈ ρ.v
theorem Grow.nc {ρ1 ρ : Rho} {H1 H : Hp} {Ad : Addr} {h : Cells} {da : List D} (g : Grow K ρ1 H1 Ad ρ h H da) : Ad ∉ ρ.c := fun z => g.R.apart Ad z g.v
theorem Grow.fut {ρ1 ρ ρ2 : Rho} {H1 H H2 : Hp} {Ad : Addr} {h h2 : Cells} {da : List D} (g : Grow K ρ1 H1 Ad ρ h H da) (F : Fut ρ H ρ2 H2) (R : Rel K ρ2 h2 H2) : Grow K ρ1 H1 Ad ρ2 h2 H2 da := by
  obtain ⟨acc, e, d⟩ := g.A
  exact ⟨g.F.trans F, R, ⟨acc, F.keep _ _ g.nc e, d.fut F⟩, F.sub _ g.v⟩
theorem Grow.add {ρ1 ρ : Rho} {H1 H : Hp} {Ad : Addr} {h : Cells} {da : List D} {acc : List V} {v : V} {d : D} (g : Grow K ρ1 H1 Ad ρ h H da) (hAd : H1 Ad = none) (e : H Ad = some (.lst acc)) (dn : Dens K ρ H acc da) (dv : Den K ρ H v d) : Grow K ρ1 H1 Ad ρ h (upd H Ad (.lst (acc ++ [v]))) (da ++ [d]) := by
  refine ⟨⟨fun a o n e => ?_, g.F.ext, g.F.sub, g.F.hid, g.F.fresh⟩, g.R.poke _ g.v, ⟨acc ++ [v], upd_same, Dens.append (dn.poke g.v) (.cons (dv.poke g.v) .nil)⟩, g.v⟩
  rw [upd_ne (ne_of_none e hAd)]
  exact g.F.keep a o n e
theorem rd_lc2 {f f1 : MI} {g g1 : MG} {tG tG1 : TG} {t t1 : MT} {e : ME} {vs vs1 : List Nat} (hG : TgOk K tG g vs) (hG1 : TgOk K tG1 g1 vs1) {σ : L2.St} {H : Hp} {Q : VK} (h : rdE K (mComp2 f g t f1 g1 t1 e vs vs1) σ H Q) :
    tLc2 (rdI K f) tG (rdT K t) (rdIA K f1) tG1 (rdT K t1) (rdE K e) vs vs1 σ H Q := by
  obtain ⟨ρ, ms, d, h', R, S, e0, q⟩ := h
  obtain ⟨⟨ds, h1⟩, e1, e2⟩ := Option.bind_eq_some_iff.mp e0
  obtain ⟨⟨out, h2⟩, e3, e4⟩ := Option.bind_eq_some_iff.mp e2
  obtain ⟨hz, e5⟩ := bif_some e4
  cases e5
  have hz' : out.length ≤ line := of_decide_eq_true hz
  refine ⟨ρ, ms, ds, h1, R, S, e1, fun J H1 ρ1 F1 R1 Y Ad hAd => ?_⟩
  have nAc : Ad ∉ ρ1.c := (Rho.notIn (R1.out hAd)).1
  have room : ∀ {ρ : Rho} {H : Hp} {acc : List V} {da r : List D} {y : D}, Dens K ρ H acc da → da ++ y :: r = out → acc.length < sizeLine := fun dn eo => by
    rw [dn.length, ← line_eq]
    have z := congrArg List.length eo
    rw [List.length_append, List.length_cons] at z
    omega
  refine ⟨fun i m H2 => m = ds.length - i ∧ i ≤ ds.length ∧ ∃ ρ2 hh dacc rest, Grow K ρ1 H1 Ad ρ2 hh H2 dacc ∧ mComp2L g t f1 g1 t1 e (wipeD ms.s vs) vs1 (ds.drop i) hh = some (rest, h2) ∧ dacc ++ rest = out,
    ⟨_, rfl, Nat.zero_le _, ρ1.hide Ad, h1, [], out, ⟨fut_hide _ hAd nAc, R1.hide _ hAd, ⟨[], upd_same, .nil⟩, List.mem_cons_self⟩, e3, rfl⟩, ?_⟩
  rintro i m H2 ⟨rfl, hi, ρ2, hh, dacc, rest, G2, e6, e7⟩
  obtain ⟨ystop, ygo⟩ := Y i ρ2 H2 hh G2.F G2.R
  by_cases hl : i < ds.length
  · right
    obtain ⟨y1, y2⟩ := ygo _ (List.getElem?_eq_getElem hl)
    rw [List.drop_eq_getElem_cons hl] at e6
    simp only [mComp2L] at e6
    obtain ⟨m1, e8, e9⟩ := Option.bind_eq_some_iff.mp e6
    obtain ⟨⟨b, hb⟩, e10, e11⟩ := Option.bind_eq_some_iff.mp e9
    refine ⟨y1, fun H3 => ∃ ρ2 hh dacc rest, Grow K ρ1 H1 Ad ρ2 hh H3 dacc ∧ mComp2L g t f1 g1 t1 e (wipeD ms.s vs) vs1 (ds.drop (i + 1)) hh = some (rest, h2) ∧ dacc ++ rest = out, fun H' w => ⟨ds.length - (i + 1), by omega, rfl, hl, w⟩, fun x H' y => ?_⟩
    obtain ⟨Fy, Ry, dy⟩ := y2 x H' y
    have G3 := G2.fut Fy Ry
    refine hG ρ2 ⟨wipeD ms.s vs, hh⟩ m1 H' x _ _ _ ((S.fut (F1.trans G3.F)).wipe vs) dy e8 fun σ3 hw S3 hh3 => ⟨wipe_back hw, ?_⟩
    refine ⟨ρ2, m1, b, hb, by rw [hh3]; exact Ry, S3, e10, fun H4 ρ4 F4 R4 => ?_⟩
    have G4 := G3.fut F4 R4
    have S4 := S3.fut F4
    cases b with
    | false => exact iteF ⟨ρ4, hb, dacc, rest, G4, e11, e7⟩
    | true =>
      obtain ⟨⟨ds1, h5⟩, e12, e13⟩ := Option.bind_eq_some_iff.mp e11
      obtain ⟨⟨out1, h6⟩, e14, e15⟩ := Option.bind_eq_some_iff.mp e13
      obtain ⟨⟨rest2, h7⟩, e16, e17⟩ := Option.map_eq_some_iff.mp e15
      cases e17
      refine iteT ⟨ρ4, ⟨m1.s, hb⟩, ds1, h5, R4, S4, e12, fun J1 H5 ρ5 F5 R5 YA => ?_⟩
      have G5 := G4.fut F5 R5
      refine ⟨fun j k H6 => k = ds1.length - j ∧ j ≤ ds1.length ∧ ∃ ρ6 hh6 dacc rest1, FutV ρ5 H5 ρ6 H6 ∧ Grow K ρ1 H1 Ad ρ6 hh6 H6 dacc ∧ Slots K ρ6 H6 m1.s σ3 ∧ mCompL g1 t1 e (wipeD m1.s vs1) (ds1.drop j) hh6 = some (rest1, h6) ∧ dacc ++ (rest1 ++ rest2) = out,
        ⟨_, rfl, Nat.zero_le _, ρ5, h5, dacc, out1, .refl _ _, G5, S4.fut F5, e14, e7⟩, ?_⟩
      rintro j k H6 ⟨rfl, hj, ρ6, hh6, dacc6, rest1, V6, G6, S6, e18, e19⟩
      obtain ⟨zstop, zgo⟩ := YA j ρ6 H6 hh6 V6 G6.R
      by_cases hl1 : j < ds1.length
      · right
        obtain ⟨z1, z2⟩ := zgo _ (List.getElem?_eq_getElem hl1)
        rw [List.drop_eq_getElem_cons hl1] at e18
        simp only [mCompL] at e18
        obtain ⟨m2, e20, e21⟩ := Option.bind_eq_some_iff.mp e18
        obtain ⟨⟨b2, hb2⟩, e22, e23⟩ := Option.bind_eq_some_iff.mp e21
        refine ⟨z1, fun H7 => ∃ ρ6 hh6 dacc rest1, FutV ρ5 H5 ρ6 H7 ∧ Grow K ρ1 H1 Ad ρ6 hh6 H7 dacc ∧ Slots K ρ6 H7 m1.s σ3 ∧ mCompL g1 t1 e (wipeD m1.s vs1) (ds1.drop (j + 1)) hh6 = some (rest1, h6) ∧ dacc ++ (rest1 ++ rest2) = out, fun H' w => ⟨ds1.length - (j + 1), by omega, rfl, hl1, w⟩, fun x H' y => ?_⟩
        obtain ⟨Fz, Rz, dz⟩ := z2 x H' y
        have G7 := G6.fut Fz Rz
        have S7 := S6.fut Fz
        refine hG1 ρ6 ⟨wipeD m1.s vs1, hh6⟩ m2 H' x _ _ _ (S7.wipe vs1) dz e20 fun σ8 hw8 S8 hh8 => ⟨wipe_back hw8, ?_⟩
        refine ⟨ρ6, m2, b2, hb2, by rw [hh8]; exact Rz, S8, e22, fun H9 ρ9 F9 R9 => ?_⟩
        have G9 := G7.fut F9 R9
        cases b2 with
        | false => exact iteF ⟨ρ9, hb2, dacc6, rest1, (V6.fut Fz).fut F9, G9, S7.fut F9, e23, e19⟩
        | true =>
          obtain ⟨⟨yv, hy⟩, e24, e25⟩ := Option.bind_eq_some_iff.mp e23
          obtain ⟨⟨r2, h8⟩, e26, e27⟩ := Option.map_eq_some_iff.mp e25
          cases e27
          refine iteT ⟨ρ9, ⟨m2.s, hb2⟩, yv, hy, R9, S8.fut F9, e24, fun v HA ρA FA RA dv => ?_⟩
          have GA := G9.fut FA RA
          obtain ⟨acc, ea, da⟩ := GA.A
          have e19' : dacc6 ++ yv :: (r2 ++ rest2) = out := by simpa using e19
          exact ⟨acc, ea, room da e19', ρA, hy, dacc6 ++ [yv], r2, (((V6.fut Fz).fut F9).fut FA).poke G5.v, GA.add hAd ea da dv, ((S7.fut F9).fut FA).poke _ GA.v, e26, by simpa using e19⟩
      · left
        have hje : j = ds1.length := by omega
        rw [List.drop_eq_nil_of_le (Nat.le_of_not_lt hl1)] at e18
        cases e18
        exact ⟨zstop (Nat.le_of_not_lt hl1), ρ6, h6, dacc6, rest2, G6, e16, by simpa using e19⟩
  · left
    have hie : i = ds.length := by omega
    rw [List.drop_eq_nil_of_le (Nat.le_of_not_lt hl)] at e6
    cases e6
    refine ⟨ystop (Nat.le_of_not_lt hl), ?_⟩
    rw [List.append_nil] at e7
    subst e7
    obtain ⟨acc, hA, dn⟩ := G2.A
    have F2 := G2.F
    have F3 : Fut ρ1 H1 (ρ2.shows Ad) H2 := ⟨F2.keep, F2.ext, fun a ha => List.mem_filter.mpr ⟨F2.sub a ha, decide_eq_true fun z => by
      obtain ⟨o, q⟩ := R1.hidden a ha
      rw [z, hAd] at q; cases q⟩, fun a ha => F2.hid a (List.mem_filter.mp ha).1, F2.fresh⟩
    refine q _ H2 (ρ2.shows Ad) (F1.trans F3) G2.R.shows (.lst hA (Rho.out (fun z => G2.nc z) fun z => ?_) dn.shows)
    have := of_decide_eq_true (List.mem_filter.mp z).2
    exact this rfl
/-- [e for tg in src if t for tg1 in src1 if t1] -/
theorem ev_lc2 {elt tg iter tg1 iter1 : Expr} {ifs ifs1 : List Expr} {scope : Scope} {own : List (Str × Nat)} {vs vs1 : List Nat} {pos : Pos} {f f1 : MI} {g g1 : MG} {tG tG1 : TG} {t t1 : MT} {e : ME} (hc : X.calm = true) (hN : X.N.Nodup) (hi : IV X tg iter f) (hG : TgOk X.K tG g vs) (hG1 : TgOk X.K tG1 g1 vs1) (ok : BlkOk X.N X.env.scope scope own) (hvs : own.map (·.2) = vs) (hv : ∀ i ∈ vs1, i ∈ vs)
    (hg : ∀ (s : Shared) (H : Hp) (C : Addr) (cl : List (Str × Addr)) (fp : List Addr), PG (X.blk s H scope (compEnvC scope cl C X.env) fp) tg tG) (ht : ∀ (s : Shared) (H : Hp) (C : Addr) (cl : List (Str × Addr)) (fp : List Addr), PTs (X.blk s H scope (compEnvC scope cl C X.env) fp) ifs (rdT X.K t))
    (hi1 : ∀ (s : Shared) (H : Hp) (C : Addr) (cl : List (Str × Addr)) (fp : List Addr), PI (X.blk s H scope (compEnvC scope cl C X.env) fp) tg1 iter1 (rdIA X.K f1))
    (hg1 : ∀ (s : Shared) (H : Hp) (C : Addr) (cl : List (Str × Addr)) (fp : List Addr), PG (X.blk s H scope (compEnvC scope cl C X.env) fp) tg1 tG1) (ht1 : ∀ (s : Shared) (H : Hp) (C : Addr) (cl : List (Str × Addr)) (fp : List Addr), PTs (X.blk s H scope (compEnvC scope cl C X.env) fp) ifs1 (rdT X.K t1))
    (he : ∀ (s : Shared) (H : Hp) (C : Addr) (cl : List (Str × Addr)) (fp : List Addr), PE (X.blk s H scope (compEnvC scope cl C X.env) fp) elt (rdE X.K e)) (hs : ∀ x, foldedSetIterable iter X.env x = pure x := by intro _; rfl) (hs1 : ∀ env x, foldedSetIterable iter1 env x = pure x := by intro _ _; rfl) :
    EV X (.ListComp elt [⟨tg, iter, ifs, 0⟩, ⟨tg1, iter1, ifs1, 0⟩] scope pos) (mComp2 f g t f1 g1 t1 e vs vs1) := by
  subst hvs
  exact pe_w (pe_lc2 hc hN hi ok hv hg ht hi1 hg1 ht1 he hs hs1) fun _ _ _ h => rd_lc2 hG hG1 h
theorem bv_setLc2 {y : Str} {py : Pos} {elt tg iter tg1 iter1 : Expr} {ifs ifs1 : List Expr} {scope : Scope} {own : List (Str × Nat)} {vs vs1 : List Nat} {pos spos : Pos} {f f1 : MI} {g g1 : MG} {tG tG1 : TG} {t t1 : MT} {e : ME} (i : Nat) (hc : X.calm = true) (hN : X.N.Nodup) (hi : IV X tg iter f) (hG : TgOk X.K tG g vs) (hG1 : TgOk X.K tG1 g1 vs1) (ok : BlkOk X.N X.env.scope scope own) (hvs : own.map (·.2) = vs) (hv : ∀ i ∈ vs1, i ∈ vs)
    (hsw : swapsWith (.ListComp elt [⟨tg, iter, ifs, 0⟩, ⟨tg1, iter1, ifs1, 0⟩] scope pos) (some (.Name y py)) spos.line X.env = pure true)
    (hg : ∀ (s : Shared) (H : Hp) (C : Addr) (cl : List (Str × Addr)) (fp : List Addr), PG (X.blk s H scope (compEnvC scope cl C X.env) fp) tg tG) (ht : ∀ (s : Shared) (H : Hp) (C : Addr) (cl : List (Str × Addr)) (fp : List Addr), PTs (X.blk s H scope (compEnvC scope cl C X.env) fp) ifs (rdT X.K t))
    (hi1 : ∀ (s : Shared) (H : Hp) (C : Addr) (cl : List (Str × Addr)) (fp : List Addr), PI (X.blk s H scope (compEnvC scope cl C X.env) fp) tg1 iter1 (rdIA X.K f1))
    (hg1 : ∀ (s : Shared) (H : Hp) (C : Addr) (cl : List (Str × Addr)) (fp : List Addr), PG (X.blk s H scope (compEnvC scope cl C X.env) fp) tg1 tG1) (ht1 : ∀ (s : Shared) (H : Hp) (C : Addr) (cl : List (Str × Addr)) (fp : List Addr), PTs (X.blk s H scope (compEnvC scope cl C X.env) fp) ifs1 (rdT X.K t1))
    (he : ∀ (s : Shared) (H : Hp) (C : Addr) (cl : List (Str × Addr)) (fp : List Addr), PE (X.blk s H scope (compEnvC scope cl C X.env) fp) elt (rdE X.K e)) (hy : X.N[i]? = some y := by rfl) (hyl : X.env.scope.names.lookup y = some .local := by rfl) (hs : ∀ x, foldedSetIterable iter X.env x = pure x := by intro _; rfl) (hs1 : ∀ env x, foldedSetIterable iter1 env x = pure x := by intro _ _; rfl) :
    BV X (.Assign [.Name y py] (.ListComp elt [⟨tg, iter, ifs, 0⟩, ⟨tg1, iter1, ifs1, 0⟩] scope pos) spos) (mAsg (mComp2 f g t f1 g1 t1 e vs vs1) (gN i)) := by
  subst hvs
  exact ps_w (ps_setLc2 hc hN hy hyl hsw hi ok hv hg ht hi1 hg1 ht1 he hs hs1) fun D σ H h => rd_lc2 hG hG1 (by
    obtain ⟨ρ, ms, o, ms', R, S, e, q⟩ := h
    obtain ⟨⟨d, h1⟩, e1, e2⟩ := Option.bind_eq_some_iff.mp e
    cases e2
    exact ⟨ρ, ms, d, h1, R, S, e1, fun v H1 ρ1 F1 R1 dn => q H1 ρ1 F1 R1 _ ((S.fut F1).set i dn)⟩)
/-! ### isqrt -/
def rIsqrt : List V → Hp → VK → Prop := fun vs H Q => ∃ a : Int, vs = [.int a] ∧ 0 ≤ a ∧ a.toNat.log2 < 13000 ∧ Q (.int ((Float64.isqrt a.toNat : Nat) : Int)) H
theorem cr_isqrt : CallR X (.builtin "math.isqrt") rIsqrt := by
  intro pins s σ H vs us Q I r h
  obtain ⟨a, rfl, h0, h1, q⟩ := h
  obtain ⟨u, rfl, ru⟩ := vals1 r
  obtain ⟨t, rfl⟩ := ru
  exact PySem.W.mg_root h0 h1 ⟨.int _, H, I.tok _, ⟨_, rfl⟩, q⟩
def oIsqrt : Cells → List D → Option D
  | _, [.int a] => bif decide (0 ≤ a ∧ a.toNat.log2 < 13000) then some (.int ((Float64.isqrt a.toNat : Nat) : Int)) else none
  | _, _ => none
theorem c_isqrt : OpC K rIsqrt oIsqrt := by
  intro ρ h H xs dxs d Q R a e k
  unfold oIsqrt at e
  split at e
  · obtain ⟨c, e⟩ := bif_some e
    cases e
    have c' := of_decide_eq_true c
    obtain ⟨x, rfl, a1⟩ := dens1 a
    exact ⟨_, by rw [den_int a1], c'.1, c'.2, k _ _ ρ (.refl _ _) R (.int _)⟩
  · cases e
/-! ### tuple(x) -/
def oTup : Cells → List D → Option D
  | _, [.tup ds] => some (.tup ds)
  | _, [.lst ds] => some (.tup ds)
  | _, [.frl ds] => some (.tup ds)
  | h, [.cell i] => (h[i]?).map .tup
  | _, _ => none
theorem c_tuple : OpC K (fun xs H Q => ∃ p ys, xs = [V.ref p] ∧ ((SqL K H p ys ∧ ∀ l, H l = none → Q (.ref l) (upd H l (.tup ys))) ∨ (SqT K H p ys ∧ Q (.ref p) H))) oTup := by
  intro ρ h H xs dxs d Q R a e k
  unfold oTup at e
  split at e
  · cases e
    obtain ⟨x, rfl, a1⟩ := dens1 a
    obtain ⟨p, vs, rfl, hp⟩ := den_tupF a1
    exact ⟨p, vs, rfl, .inr ⟨(hp ρ H (.refl _ _)).1, k _ _ ρ (.refl _ _) R a1⟩⟩
  · cases e
    obtain ⟨x, rfl, a1⟩ := dens1 a
    obtain ⟨p, vs, rfl, hp⟩ := den_lst a1
    obtain ⟨s1, t1⟩ := hp ρ H (.refl _ _)
    exact ⟨p, vs, rfl, .inl ⟨s1, fun l ho => k _ _ ρ (fut_new _ ho) (R.new _ ho) (.tup (.inl upd_same) (R.out ho) (t1.fut (fut_new _ ho)))⟩⟩
  · cases e
    obtain ⟨x, rfl, a1⟩ := dens1 a
    obtain ⟨p, vs, rfl, hp⟩ := den_frl a1
    obtain ⟨s1, t1⟩ := hp ρ H (.refl _ _)
    exact ⟨p, vs, rfl, .inl ⟨s1, fun l ho => k _ _ ρ (fut_new _ ho) (R.new _ ho) (.tup (.inl upd_same) (R.out ho) (t1.fut (fut_new _ ho)))⟩⟩
  · obtain ⟨ds, e1, e2⟩ := Option.map_eq_some_iff.mp e
    cases e2
    obtain ⟨x, rfl, a1⟩ := dens1 a
    cases a1 with
    | cell c =>
      obtain ⟨vs, q1, q2⟩ := R.at_ _ _ _ c e1
      exact ⟨_, vs, rfl, .inl ⟨SqL.of q1, fun l ho => k _ _ ρ (fut_new _ ho) (R.new _ ho) (.tup (.inl upd_same) (R.out ho) (q2.fut (fut_new _ ho)))⟩⟩
  · cases e
end
end Zm

set_option Elab.async false
set_option linter.all false
set_option maxRecDepth 100000
/-! Zr: a + b of two lists that are cells. -/
namespace Zm
open PySem L2
section
variable {X : Cx} {K : PySem.W.Frag}
def oAddC : Cells → D → D → Option D
  | h, .cell i, .cell j => (h[i]?).bind fun a => (h[j]?).bind fun b => bif decide (a.length + b.length ≤ line) then some (.lst (a ++ b)) else none
  | h, x, y => oAdd h x y
theorem p_addC : Op2 K (rAddAll K) oAddC := by
  intro ρ h H x y dx dy d Q R a b e k
  by_cases z : ∃ i j, dx = .cell i ∧ dy = .cell j
  · obtain ⟨i, j, rfl, rfl⟩ := z
    simp only [oAddC] at e
    obtain ⟨ds, e1, e⟩ := Option.bind_eq_some_iff.mp e
    obtain ⟨es, e2, e⟩ := Option.bind_eq_some_iff.mp e
    obtain ⟨c, e⟩ := bif_some e
    cases e
    cases a with
    | cell a =>
      cases b with
      | cell b =>
        obtain ⟨vs, q1, t1⟩ := R.at_ _ _ _ a e1
        obtain ⟨ws, q2, t2⟩ := R.at_ _ _ _ b e2
        refine .inr (.inr (.inl ⟨_, _, vs, ws, rfl, rfl, q1, q2, by rw [t1.length, t2.length, ← line_eq]; exact of_decide_eq_true c, fun o ho => ?_⟩))
        exact k _ _ ρ (fut_new _ ho) (R.new _ ho) (.lst upd_same (R.out ho) ((t1.append t2).fut (fut_new _ ho)))
  · have e' : oAdd h dx dy = some d := by
      unfold oAddC at e
      split at e
      · exact absurd ⟨_, _, rfl, rfl⟩ z
      · exact e
    exact p_add ρ h H x y dx dy d Q R a b e' k
end
end Zm

set_option Elab.async false
set_option linter.all false
set_option maxRecDepth 100000
/-! Zs: a, b, .. = a list of that length. -/
namespace Zm
open PySem L2
section
variable {X : Cx}
def gTL (n : Nat) (gs : MGs) : MG := fun d ms => match d with
  | .lst ds => bif ds.length == n then gs ds ms else none
  | _ => none
theorem den_lst' {K : PySem.W.Frag} {ρ : Rho} {H : Hp} {v : V} {ds : List D} (h : Den K ρ H v (.lst ds)) : ∃ a vs, v = .ref a ∧ SqL K H a vs ∧ Dens K ρ H vs ds := by
  cases h with
  | lst r n d => exact ⟨_, _, rfl, .inl (.inl r), d⟩
theorem gv_lst {es : List Expr} {k : Nat} {pos : Pos} {gs : MGs} {n : Nat} (hc : X.calm = true) (h : GVs X es gs)
    (hn : (assignEach es X.env).length = n := by rfl) (hst : (assignEach es X.env).findIdx? (·.1) = none := by rfl) : GV X (.Tuple es k pos) (gTL n gs) := by
  refine pg_w (pg_lst hc h hn hst) fun v σ H Q h => ?_
  obtain ⟨ρ, ms, d, ms', R, S, dn, e, q⟩ := h
  cases d <;> simp only [gTL] at e <;> try (cases e; done)
  rename_i ds
  obtain ⟨a, vs, rfl, hq, dn⟩ := den_lst' dn
  cases hl : (ds.length == n) with
  | false => simp [hl] at e
  | true =>
    simp only [hl, cond_true] at e
    exact ⟨a, vs, rfl, hq, by rw [dn.length]; simpa using hl, ρ, ms, ds, ms', R, S, dn, e, q⟩
end
end Zm

set_option Elab.async false
set_option linter.all false
set_option maxRecDepth 100000
/-! Zt: sorted(set(xs)), xs a list of ints. -/
namespace L2
open PySem PySem.Spec PyProof.Rows
section
variable {P : Program} {w : World} {A : Around} {E : Value → Shared → Prop} {s : Shared}
/-- the empty set as it is made -/
abbrev oSet0 (w : World) : Obj := { cls := .type "set", dict := none, data := .set #[] 0 (.fresh 0 0 (!w.params.followText "set-order")) }
set_option maxHeartbeats 3200000 in
theorem set_of_list {l : Addr} {items : Array Value} (ns : List Int) {Q : Value → Shared → Prop} (hh : A.handled = none) (hl : s.heap.IsList l items) (hit : IntsAre items.toList ns) (hb : ns.length + 1 < scanBound)
    (h : ∀ (h' : Heap) (tk c : Nat), SetR w h' s.heap.objs.size (fun j => decide (j ∈ ns)) c → c ≤ ns.length → (∀ b o, s.heap.get? b = some o → h'.get? b = some o) → Q (.ref s.heap.objs.size) { s with heap := h', toks := tk }) :
    wpAny (model P w) A (call (.type "set") [.ref l]) Q E s := by
  have n : items.size = ns.length := by rw [← Array.length_toList]; exact IntsAre.length hit
  have big : l < s.heap.objs.size := by obtain ⟨o, ho, _⟩ := hl; exact Heap.lt_size ho
  have z1 : (s.heap.push (oSet0 w)).objs.size = s.heap.objs.size + 1 := Heap.size_push ..
  have at0 : (s.heap.push (oSet0 w)).get? s.heap.objs.size = some (oSet0 w) := Heap.get?_push_size _ rfl
  obtain ⟨c, tl, hmro⟩ := F.called_set.mro
  have hmade := F.called_set.made
  have hsub := F.called_set.sub
  refine wpAny_call (codeAny_of_tree ?_)
  show wpAny _ _ (callAny (.type "set") _) _ _ _
  refine wpAny_pure ⟨Code.quiet_builtin _ (by decide +kernel), codeAny_builtin F.entry_type_call ?_⟩
  rw [Around.under_plain (weight_type_call_type "set" [.ref l] []) rfl]
  have h1 := F.called_set.notType
  have h2 := F.called_set.canCreate
  have hct := F.typeCall_set_1 (.ref l)
  repeat (any_goals (first | assumption | wp_step))
  refine codeAny_mono (code_set_led1 (.ref l) (E := E) (Q₁ := fun obj s₁ => obj = .ref s.heap.objs.size ∧ s₁ = { s with heap := s.heap.push (oSet0 w) }) ⟨rfl, rfl⟩) fun r s₁ hr => ?_
  cases r with
  | error e => exact hr
  | ok fl =>
    cases fl with
    | ret obj =>
      obtain ⟨rfl, rfl⟩ := hr
      have hT : Shared.TypeIs { s with heap := s.heap.push (oSet0 w) } (.ref s.heap.objs.size) "set" := ⟨_, at0, rfl⟩
      have hli := F.called_set.init.lookup
      have hbi := F.called_set.init.bind (.ref s.heap.objs.size)
      repeat (any_goals (first | assumption | wp_step))
      refine codeAny_mono (codeAny_call_builtin (R := wants (fun r s₂ => r = .none ∧ ∃ h' tk c, s₂ = { s with heap := h', toks := tk } ∧ SetR w h' s.heap.objs.size (fun j => decide (j ∈ ns)) c ∧ c ≤ ns.length ∧
          (∀ b o, s.heap.get? b = some o → h'.get? b = some o)) E) F.called_set.init.plain F.entry_set_init (check_set_init_1 hT ?_)) fun r₂ s₂ hr₂ => ?_
      · have hl1 : (s.heap.push (oSet0 w)).IsList l items := hl.push _
        have hol := hl1
        obtain ⟨ol, hol, hcl, hrest⟩ := hol
        obtain ⟨ocls, odict, odata, oslots⟩ := ol
        simp only at hcl
        subst hcl
        have hsls := F.sub_list_set
        have hslf := F.sub_list_frozenset
        have hne : (Value.type "list" == Value.type "dict") = false := by decide
        unfold Builtin.«set.__init__» noKeywords Builtin.Frozenset.updateFrom
        generalize hPI : pyIter = PI
        wp_walk
        subst hPI
        refine wpAny_pyIter_list hl1 ?_
        refine wpAny_bind (wpAny_runValue ?_)
        have hh3 : A.in1.in1.in1.handled = none := by simp [hh]
        refine set_update_ints ((Walks.list hh3 (s.heap.push (oSet0 w)).objs.size l (by rw [z1]; exact Nat.ne_of_lt (Nat.lt_succ_of_lt big)) items).toS) s.heap.objs.size (by rw [z1]; simp only [List.mem_cons, List.not_mem_nil, or_false, not_or]; exact ⟨Nat.ne_of_lt (Nat.lt_succ_self _), Nat.ne_of_gt big⟩) ns n hb (fun i v hv => ?_) (items.size - 0) 0 _ (by omega) (Nat.zero_le _)
          ⟨⟨_, Heap.get?_push_size _ rfl, rfl, rfl⟩, hl1.push _⟩ ⟨0, Nat.le_refl 0, setR_new_at (Heap.get?_push_of_some _ at0)⟩ fun s' c' hm hc' hS' => ?_
        · have hi : i < ns.length := by rw [← n]; exact (Array.getElem?_eq_some_iff.mp hv).1
          obtain ⟨t, e⟩ := IntsAre.int_at hit i v (by rw [Array.getElem?_toList]; exact hv)
          exact ⟨ns[i], t, List.getElem?_eq_getElem hi, by rw [e, List.getD_eq_getElem?_getD, List.getElem?_eq_getElem hi]; rfl⟩
        · obtain ⟨h', g2, d', tk', os'⟩ := s'
          have eg : g2 = s.gens := hm.gens
          have ed : d' = s.drawn := hm.drawn
          have eo : os' = s.os := hm.os
          subst eg; subst ed; subst eo
          show wpAny _ _ _ _ _ _
          refine wpAny_pure ?_
          show wpAny _ _ (ret Value.none) _ _ _
          refine wpAny_pure ⟨rfl, h', tk', c', rfl, hS', by rw [← n]; exact hc', fun b o e => ?_⟩
          have b0 := Heap.lt_size e
          exact hm.heap b o (by rw [z1]; simp only [List.mem_cons, List.not_mem_nil, or_false, not_or]; exact ⟨Nat.ne_of_lt b0, Nat.ne_of_lt (Nat.lt_succ_of_lt b0)⟩) (Heap.get?_push_of_some _ (Heap.get?_push_of_some _ e))
      · cases r₂ with
        | error e => exact hr₂
        | ok f2 =>
          cases f2 with
          | ret v2 =>
            obtain ⟨rfl, h', tk, c2, rfl, hS2, hc2, hk⟩ := hr₂
            repeat (any_goals (first | assumption | wp_step))
            exact h h' tk c2 hS2 hc2 hk
          | _ => exact hr₂
    | _ => exact hr
end
/-- set(xs), xs a list of ints -/
def rSetU (K : PySem.W.Frag) (w : World) : List V → Hp → VK → Prop := fun vs H Q => ∃ (l : Addr) (ns : List Int), vs = [V.ref l] ∧ SqL K H l (ns.map V.int) ∧ ns.length < 60 ∧
  ∀ (p : Addr) (n : Nat), H p = none → n ≤ ns.length → Q (.ref p) (upd H p (SetO w p (fun j => decide (j ∈ ns)) n))
theorem cr_setL {X : Cx} (hc : X.calm = true) : CallR X (.type "set") (rSetU X.K X.w) := by
  intro pins s σ H vs us Q I r h
  obtain ⟨l, ns, rfl, hq, hn, q⟩ := h
  rw [Vals.ref1 r]
  obtain ⟨its, rv, pl, hz⟩ := I.list hq
  refine set_of_list ns (I.ok.hd hc) pl.isList (by simpa using ints_of_vals rv) (by unfold scanBound; omega) fun h' tk c R hc k => ?_
  exact ⟨.ref _, _, I.laid (t' := tk) k (Nat.le_refl _) (setO_new R), rfl, q _ c (I.hok.fresh (Nat.le_refl _)) hc⟩
end L2
namespace Zm
open PySem L2
def insU (x : Int) : List Int → List Int
  | [] => [x]
  | y :: l => if x < y then x :: y :: l else if x = y then y :: l else y :: insU x l
def sortU (l : List Int) : List Int := l.foldr insU []
theorem mem_insU {x k : Int} : ∀ {l : List Int}, k ∈ insU x l ↔ k = x ∨ k ∈ l
  | [] => by simp [insU]
  | y :: l => by
    unfold insU
    by_cases a : x < y
    · rw [if_pos a]; simp
    · rw [if_neg a]
      by_cases b : x = y
      · rw [if_pos b]; subst b; simp
      · rw [if_neg b, List.mem_cons, mem_insU, List.mem_cons]
        constructor
        · rintro (h | h | h)
          · exact .inr (.inl h)
          · exact .inl h
          · exact .inr (.inr h)
        · rintro (h | h | h)
          · exact .inr (.inl h)
          · exact .inl h
          · exact .inr (.inr h)
theorem asc_insU {x : Int} : ∀ {l : List Int}, l.Pairwise (· < ·) → (insU x l).Pairwise (· < ·)
  | [], _ => by simp [insU]
  | y :: l, h => by
    obtain ⟨h1, h2⟩ := List.pairwise_cons.mp h
    unfold insU
    by_cases a : x < y
    · rw [if_pos a]
      exact List.pairwise_cons.mpr ⟨fun z hz => by
        rcases List.mem_cons.mp hz with e | m
        · rw [e]; exact a
        · have := h1 z m; omega, h⟩
    · rw [if_neg a]
      by_cases b : x = y
      · rw [if_pos b]; exact h
      · rw [if_neg b]
        exact List.pairwise_cons.mpr ⟨fun z hz => by
          rcases mem_insU.mp hz with e | m
          · omega
          · exact h1 z m, asc_insU h2⟩
theorem mem_sortU {k : Int} : ∀ {l : List Int}, k ∈ sortU l ↔ k ∈ l
  | [] => by simp [sortU]
  | x :: l => by
    show k ∈ insU x (sortU l) ↔ _
    rw [mem_insU, mem_sortU, List.mem_cons]
theorem asc_sortU : ∀ l : List Int, (sortU l).Pairwise (· < ·)
  | [] => .nil
  | x :: l => asc_insU (asc_sortU l)
theorem asc_eq : ∀ {a b : List Int}, a.Pairwise (· < ·) → b.Pairwise (· < ·) → (∀ k, k ∈ a ↔ k ∈ b) → a = b
  | [], [], _, _, _ => rfl
  | [], y :: b, _, _, h => by have := (h y).mpr List.mem_cons_self; simp at this
  | x :: a, [], _, _, h => by have := (h x).mp List.mem_cons_self; simp at this
  | x :: a, y :: b, ha, hb, h => by
    obtain ⟨a1, a2⟩ := List.pairwise_cons.mp ha
    obtain ⟨b1, b2⟩ := List.pairwise_cons.mp hb
    have e : x = y := by
      rcases List.mem_cons.mp ((h x).mp List.mem_cons_self) with e | m
      · exact e
      · rcases List.mem_cons.mp ((h y).mpr List.mem_cons_self) with e | m2
        · exact e.symm
        · have := b1 x m; have := a1 y m2; omega
    subst e
    rw [asc_eq a2 b2 fun k => ⟨fun m => ?_, fun m => ?_⟩]
    · rcases List.mem_cons.mp ((h k).mp (List.mem_cons_of_mem _ m)) with e | m2
      · have := a1 k m; omega
      · exact m2
    · rcases List.mem_cons.mp ((h k).mpr (List.mem_cons_of_mem _ m)) with e | m2
      · have := b1 k m; omega
      · exact m2
def intsO : List D → Option (List Int)
  | [] => some []
  | .int i :: r => (intsO r).map (i :: ·)
  | _ => none
theorem intsO_eq : ∀ {ds : List D} {ns : List Int}, intsO ds = some ns → ds = ns.map D.int
  | [], ns, h => by cases h; rfl
  | .int i :: r, ns, h => by
    obtain ⟨m, h1, h2⟩ := Option.map_eq_some_iff.mp h
    subst h2
    rw [intsO_eq h1]; rfl
section
variable {X : Cx} {K : PySem.W.Frag}
theorem dens_ofI {ρ : Rho} {H : Hp} : ∀ ns : List Int, Dens K ρ H (ns.map V.int) (ns.map D.int)
  | [] => .nil
  | n :: ns => .cons (.int n) (dens_ofI ns)
theorem dens_toI {ρ : Rho} {H : Hp} : ∀ {ns : List Int} {vs : List V}, Dens K ρ H vs (ns.map D.int) → vs = ns.map V.int
  | [], _, .nil => rfl
  | n :: ns, _, .cons a b => by
    cases a
    rw [dens_toI b]; rfl
/-- sorted(set(xs)) -/
def mSS (f : ME) : ME := fun ms => (f ms).bind fun r => match r.1 with
  | .lst ds => (intsO ds).bind fun ns => bif decide (ns.length < 60) then some (.lst ((sortU ns).map D.int), r.2) else none
  | _ => none
theorem rd_ss {w : World} {f : ME} {σ : L2.St} {H : Hp} {Q : VK} (h : rdE K (mSS f) σ H Q) : tCB (rSortedSet w) (tCons (tCB (rSetU K w) (tCons (rdE K f) tNil)) tNil) σ H Q := by
  obtain ⟨ρ, ms, d, h', R, S, e, q⟩ := h
  obtain ⟨r, e1, e2⟩ := Option.bind_eq_some_iff.mp e
  obtain ⟨x, h1⟩ := r
  cases x <;> dsimp only at e2 <;> try (cases e2; done)
  rename_i ds
  obtain ⟨ns, e3, e4⟩ := Option.bind_eq_some_iff.mp e2
  obtain ⟨c, e5⟩ := bif_some e4
  cases e5
  have l := of_decide_eq_true c
  have := intsO_eq e3
  subst this
  refine ⟨ρ, ms, _, _, R, S, e1, fun v H1 ρ1 F1 R1 dn => ?_⟩
  obtain ⟨a, vs, rfl, hq, dv⟩ := den_lst' dn
  have := dens_toI dv
  subst this
  refine ⟨a, ns, rfl, hq, l, fun p n hp hn => ⟨p, _, n, rfl, upd_same, by omega, fun out p2 hs hm hl2 hp2 => ?_⟩⟩
  have eo : out = sortU ns := asc_eq hs (asc_sortU ns) fun k => by rw [hm, mem_sortU]; simp
  subst eo
  exact q _ _ ρ1 (F1.trans ((fut_new _ hp).trans (fut_new _ hp2))) ((R1.new _ hp).new _ hp2) (.lst upd_same ((R1.new _ hp).out hp2) (dens_ofI _))
theorem ev_sortSet {e : Expr} {f : ME} {p p2 pos pos2 : Pos} (hc : X.calm = true) (hm : X.mg "sorted" = none) (hv : bootBuiltins "sorted" = some (.builtin "sorted")) (hm2 : X.mg "set" = none) (hv2 : bootBuiltins "set" = some (.type "set")) (he : EV X e f)
    (hg : Gl X "sorted" := by rfl) (hg2 : Gl X "set" := by rfl)
    (s1 : starEach [e] X.env = (false, eval e X.env) :: starEach [] X.env := by rfl)
    (s2 : starEach [Expr.Call (.Name "set" p2) [e] [] pos2] X.env = (false, eval (Expr.Call (.Name "set" p2) [e] [] pos2) X.env) :: starEach [] X.env := by rfl) :
    EV X (.Call (.Name "sorted" p) [.Call (.Name "set" p2) [e] [] pos2] [] pos) (mSS f) :=
  pe_w (pe_callB (cr_sortedSet hc) hg hm hv (pa_cons (pe_callTy (cr_setL hc) hg2 hm2 hv2 (pa_cons he pa_nil s1) (by decide) (by decide) s1 rfl) pa_nil s2) (by decide) (by decide) s2 rfl) fun _ _ _ => rd_ss
end
end Zm

set_option Elab.async false
set_option linter.all false
set_option maxRecDepth 100000
/-! Zu: sorted(set(xs)), xs a list of tuples of ints. -/
namespace SrtW
open PySem L2 PySem.Spec PyProof.Rows
theorem perm_unmap {α β : Type} {f : α → β} {vs M : List β} (p : vs.Perm M) : ∀ {L : List α}, M = L.map f → ∃ L1 : List α, L1.Perm L ∧ vs = L1.map f := by
  induction p with
  | nil => intro L e; cases L with
    | nil => exact ⟨[], .nil, rfl⟩
    | cons a l => cases e
  | cons x p ih => intro L e; cases L with
    | nil => cases e
    | cons a l =>
      rw [List.map_cons] at e
      injection e with e1 e2
      obtain ⟨L1, h1, h2⟩ := ih e2
      exact ⟨a :: L1, h1.cons a, by rw [List.map_cons, e1, h2]⟩
  | swap x y l => intro L e; match L, e with
    | a :: b :: l', e =>
      rw [List.map_cons, List.map_cons] at e
      injection e with e1 e2
      injection e2 with e2 e3
      exact ⟨b :: a :: l', List.Perm.swap a b l', by rw [List.map_cons, List.map_cons, e1, e2, e3]⟩
  | trans p1 p2 ih1 ih2 =>
    intro L e
    obtain ⟨L1, h1, h2⟩ := ih2 e
    obtain ⟨L0, h3, h4⟩ := ih1 h2
    exact ⟨L0, h3.trans h1, h4⟩
section
variable {P : Program} {w : World} {A : Around} {E : Value → Shared → Prop} {s : Shared}
theorem sorted_setL {a : Addr} {L : List (Addr × List Int)} {es : Array (Int × Value)} {ep : Nat} {t : SetTable} {Q : Value → Shared → Prop} (R : SetTR P w s.heap a L es ep t) (hh : A.handled = none)
    (hne : ∀ p ∈ L, p.2 ≠ [])
    (hQ : ∀ s' p (out : Array Value) (c : Nat) (L' : List (Addr × List Int)), (∀ b o, s.heap.get? b = some o → s'.heap.get? b = some o) → s'.gens = s.gens → s'.os = s.os → s.heap.objs.size ≤ p →
      s'.heap.get? p = some (seqObj "list" out c) → out.toList = L'.map (fun q => Value.ref q.1) → L'.Perm L → Up (L'.map (·.2)) → Q (.ref p) s') :
    wpAny (model P w) A (call (.builtin "sorted") [.ref a]) Q E s := by
  obtain ⟨o, ho, hex, hd⟩ := R.ob
  have hsz := R.size
  have hfew := R.few
  refine Calls.call_function_entry kind_sorted plain_sorted entry_sorted (args_sorted1 _) ?_
  unfold Builtin.«sorted»
  refine wpAny_bind (m := checkCount "sorted" 1 1 _) (wpAny_pure ?_)
  refine wpAny_bind (collect_set (A := A.in1) hh ⟨o, ho, hex.1, hd⟩ R.fits (by unfold scanBound; omega) R.tab.ris R.led fun s1 vs k1 hz g1 o1 pm => ?_)
  have hes : es.toList.map (·.2) = L.map fun q => Value.ref q.1 := by
    rw [R.rows]
    unfold rowsOf
    rw [List.map_map] <;> rfl
  obtain ⟨L1, p1, e1⟩ := perm_unmap (f := fun q : Addr × List Int => Value.ref q.1) pm hes
  subst e1
  have hl : (L1.map fun q => Value.ref q.1).length < 64 := by rw [List.length_map, p1.length_eq]; exact hfew
  refine wpAny_bind (wpAny_newList ?_ (by rw [sizeLine_eq]; omega))
  generalize hH : s1.heap.push (seqObj "list" (L1.map fun q => Value.ref q.1).toArray 0) = h2
  have k2 : ∀ b o, s1.heap.get? b = some o → h2.get? b = some o := fun b o e => by rw [← hH]; exact Heap.get?_push_of_some _ e
  have hoL : h2.get? s1.heap.objs.size = some (seqObj "list" (L1.map fun q => Value.ref q.1).toArray 0) := by rw [← hH]; exact Heap.get?_push_size _ rfl
  have tk : ∀ q ∈ L, TS.TupInts h2 (.ref q.1) q.2 := fun q hq => tupInts_of (P := P) (w := w) (isT_keep (R.tup q hq) fun b u e => k2 b u (k1 b u e))
  have hR : Rows h2 (TS.intsOf h2) (L1.map fun q => Value.ref q.1) := fun v hv => by
    obtain ⟨q, hq, rfl⟩ := List.mem_map.mp hv
    have x := tk q (p1.mem_iff.mp hq)
    rw [x.ints]
    exact ⟨x, hne q (p1.mem_iff.mp hq)⟩
  refine wpAny_bind (wpAny_holding (wpAny_call_entry slot_list_sort ⟨_, hoL, rfl⟩ entry_list_sort (SrtO.list_sort_ord (s := { s1 with heap := h2 }) (swoL (TS.intsOf h2)) hoL (by rw [sizeLine_eq]; omega) (fun g2 => ?_) fun out hs hb => ⟨_, rfl, ?_⟩) (args_list_sort _)))
  · refine row_sortable (s := { s1 with heap := h2 }) (by omega) hR fun o e f => ?_
    have g := e.symm.trans hoL
    cases g
    exact absurd (Value.type.inj f) (by decide)
  · obtain ⟨L', p2, e2⟩ := perm_unmap (f := fun q : Addr × List Int => Value.ref q.1) hb.perm rfl
    obtain ⟨c, hc⟩ := sortedHeap_at (vs := L1.map fun q => Value.ref q.1) (out := out.toArray) hoL
    have pL := p2.trans p1
    have up : Up (L'.map (·.2)) := by
      have e3 : L'.map (·.2) = out.map (TS.intsOf h2) := by
        rw [e2, List.map_map]
        exact List.map_congr_left fun q hq => ((tk q (pL.mem_iff.mp hq)).ints).symm
      rw [e3]
      exact List.pairwise_map.mpr hs
    refine wpAny_pure ⟨_, rfl, hQ _ s1.heap.objs.size out.toArray c L' (fun b u e => ?_) g1 o1 hz hc (by simpa using e2) pL up⟩
    have q := k1 b u e
    have hlt := Heap.lt_size q
    show (sortedHeap h2 s1.heap.objs.size _ out.toArray).get? b = some u
    rw [sortedHeap_old (Nat.ne_of_lt hlt) (by rw [← hH, size_push']; exact Nat.lt_succ_of_lt hlt)]
    exact k2 b u q
end
end SrtW
namespace Zm
open PySem L2 PySem.Spec PyProof.Rows SrtW
section
variable {X : Cx} {K : PySem.W.Frag}
/-- sorted(set), the set of any rows -/
def rSortedS (K : PySem.W.Frag) (P : Program) (w : World) : List V → Hp → VK → Prop := fun vs H Q => ∃ (a : Addr) (L : List (Addr × List Int)), vs = [V.ref a] ∧ H a = some (SetTO P w a L) ∧ (∀ p ∈ L, SqT K H p.1 (p.2.map V.int)) ∧ (∀ p ∈ L, p.2 ≠ []) ∧
  ∀ (L' : List (Addr × List Int)) (p : Addr), L'.Perm L → (L'.map (·.2)).Nodup → L'.length < 64 → Up (L'.map (·.2)) → H p = none → Q (.ref p) (upd H p (.lst (L'.map fun q => V.ref q.1)))
theorem cr_sortedS (hc : X.calm = true) : CallR X (.builtin "sorted") (rSortedS X.K X.prog X.w) := by
  intro pins s σ H vs us Q I r h
  obtain ⟨a, L, rfl, ha, hk, hne, q⟩ := h
  have R0 : SetT0 X.prog X.w s.heap a L := (I.hok a _ ha).1
  obtain ⟨es, ep, t, R⟩ := R0.full fun p hp => I.isT (hk p hp)
  rw [Vals.ref1 r]
  refine sorted_setL R (I.ok.hd hc) hne fun s' p out c L' k g o hp hg hout pm up => ?_
  have few : L'.length < 64 := by rw [pm.length_eq]; exact R.few
  have hv : Vals (L'.map fun q => V.ref q.1) out.toList := by rw [hout]; exact vals_of_refs L'
  have J : Inv X pins σ (upd H p (.lst (L'.map fun q => V.ref q.1))) { s with heap := s'.heap, gens := s'.gens, drawn := s'.drawn, toks := s'.toks } :=
    I.call (ch := []) (Un.laid k hp (I.hok.fresh hp)) (I.hok.laid k hp ⟨by rw [List.length_map, sizeLine_eq]; omega, out.toList, c, hv, hg⟩) (by rw [g]; exact I.bare) (fun _ z => nomatch z)
  have e : s' = { s with heap := s'.heap, gens := s'.gens, drawn := s'.drawn, toks := s'.toks } := by
    cases s'; cases s; cases o; rfl
  rw [e]
  exact ⟨.ref p, _, J, rfl, q L' p pm ((pm.map (·.2)).nodup_iff.mpr R.nd) few up (I.hok.fresh hp)⟩
/-- the rows of a list of data: with their places -/
theorem rows_pairs {ρ : Rho} {H : Hp} : ∀ {vs : List V} {ds : List D} {rows : List (List Int)}, Dens K ρ H vs ds → rowsI ds = some rows → ∃ ks : List (Addr × List Int), vs = (ks.map fun p => V.ref p.1) ∧ ks.map (·.2) = rows ∧ (∀ p ∈ ks, SqT K H p.1 (p.2.map V.int)) ∧ (∀ p ∈ ks, p.2 ≠ []) ∧ ∀ p ∈ ks, Den K ρ H (.ref p.1) (rowD p.2)
  | [], _, rows, .nil, h => by cases h; exact ⟨[], rfl, rfl, (fun _ z => by cases z), (fun _ z => by cases z), (fun _ z => by cases z)⟩
  | v :: vs, d :: ds, rows, .cons a b, h => by
    simp only [rowsI] at h
    obtain ⟨i, h1, h⟩ := Option.bind_eq_some_iff.mp h
    obtain ⟨j, h2, h⟩ := Option.map_eq_some_iff.mp h
    subst h
    obtain ⟨⟨t, rfl, g1⟩, g2⟩ := rowI_den a h1
    obtain ⟨ks, f1, f2, f3, f4, f5⟩ := rows_pairs b h2
    refine ⟨(t, i) :: ks, by rw [f1]; rfl, by rw [List.map_cons, f2], fun p hp => ?_, fun p hp => ?_, fun p hp => ?_⟩ <;> rcases List.mem_cons.mp hp with rfl | hp
    · exact g1
    · exact f3 p hp
    · exact rowI_ne h1
    · exact f4 p hp
    · exact g2 ▸ a
    · exact f5 p hp
/-- the rows, each once, ascending -/
def oneL : List (List Int) → List (List Int)
  | [] => []
  | x :: l => if x ∈ l then oneL l else x :: oneL l
theorem mem_oneL {x : List Int} : ∀ {l : List (List Int)}, x ∈ oneL l ↔ x ∈ l
  | [] => Iff.rfl
  | y :: l => by
    unfold oneL
    by_cases z : y ∈ l
    · rw [if_pos z, mem_oneL, List.mem_cons]
      exact ⟨.inr, fun h => h.elim (fun e => e ▸ z) id⟩
    · rw [if_neg z, List.mem_cons, mem_oneL, List.mem_cons]
theorem nodup_oneL : ∀ l : List (List Int), (oneL l).Nodup
  | [] => .nil
  | y :: l => by
    unfold oneL
    by_cases z : y ∈ l
    · rw [if_pos z]; exact nodup_oneL l
    · rw [if_neg z]; exact List.nodup_cons.mpr ⟨fun m => z (mem_oneL.mp m), nodup_oneL l⟩
/-- sorted(set(xs)), xs a list of rows -/
def mSSR (f : ME) : ME := fun ms => (f ms).bind fun r => match r.1 with
  | .lst ds => (rowsI ds).bind fun rs => bif decide (rs.length < 64) then some (.lst ((sortL (oneL rs)).map rowD), r.2) else none
  | _ => none
theorem rd_ssr {P : Program} {w : World} {f : ME} {σ : L2.St} {H : Hp} {Q : VK} (h : rdE K (mSSR f) σ H Q) : tCB (rSortedS K P w) (tCons (tCB (rSetOfT K P w) (tCons (rdE K f) tNil)) tNil) σ H Q := by
  obtain ⟨ρ, ms, d, h', R, S, e, q⟩ := h
  obtain ⟨r, e1, e2⟩ := Option.bind_eq_some_iff.mp e
  obtain ⟨x, h1⟩ := r
  cases x <;> dsimp only at e2 <;> try (cases e2; done)
  rename_i ds
  obtain ⟨rs, e3, e4⟩ := Option.bind_eq_some_iff.mp e2
  obtain ⟨c, e5⟩ := bif_some e4
  cases e5
  have l := of_decide_eq_true c
  refine ⟨ρ, ms, _, _, R, S, e1, fun v H1 ρ1 F1 R1 dn => ?_⟩
  obtain ⟨a, vs, rfl, hq, dv⟩ := den_lst' dn
  obtain ⟨ks, f1, f2, f3, f4, f5⟩ := rows_pairs dv e3
  subst f1
  refine ⟨a, ks, rfl, hq, f3, by rw [← f2, List.length_map] at l; exact l, fun p L hp sub all => ⟨p, L, rfl, upd_same, fun q hq => ?_, fun q hq => f4 q (sub q hq), fun L' p2 pm nd few up hp2 => ?_⟩⟩
  · obtain ⟨b, us, e, sq, dd⟩ := den_tup ((f5 q (sub q hq)).fut (fut_new (SetTO P w p L) hp))
    cases e
    have := dens_toI dd
    subst this
    exact sq
  · have ee : sortL (oneL rs) = L'.map (·.2) := sortL_of up ((List.perm_ext_iff_of_nodup nd (nodup_oneL rs)).mpr fun x => by
      rw [mem_oneL, ← f2]
      constructor
      · intro m
        obtain ⟨q, hq, rfl⟩ := List.mem_map.mp m
        exact List.mem_map.mpr ⟨q, sub q (pm.mem_iff.mp hq), rfl⟩
      · intro m
        obtain ⟨q, hq, rfl⟩ := List.mem_map.mp m
        exact (pm.map (·.2)).mem_iff.mpr (all q hq))
    have dl : Dens K ρ1 (upd (upd H1 p (SetTO P w p L)) p2 (.lst (L'.map fun q => V.ref q.1))) (L'.map fun q => V.ref q.1) ((sortL (oneL rs)).map rowD) := by
      rw [ee]
      have g : ∀ M : List (Addr × List Int), (∀ q ∈ M, Den K ρ1 H1 (.ref q.1) (rowD q.2)) → Dens K ρ1 H1 (M.map fun q => V.ref q.1) ((M.map (·.2)).map rowD) := by
        intro M
        induction M with
        | nil => intro _; exact .nil
        | cons y M ih => intro hM; exact .cons (hM y List.mem_cons_self) (ih fun q m => hM q (List.mem_cons_of_mem _ m))
      exact ((g L' fun q m => f5 q (sub q (pm.mem_iff.mp m))).fut (fut_new _ hp)).fut (fut_new _ hp2)
    exact q _ _ ρ1 (F1.trans ((fut_new _ hp).trans (fut_new _ hp2))) ((R1.new _ hp).new _ hp2) (.lst upd_same ((R1.new _ hp).out hp2) dl)
end
end Zm

set_option Elab.async false
set_option linter.all false
set_option maxRecDepth 100000
/-! Zv: set(t), t a tuple of rows; sorted(set(..)) of whatever of these. -/
namespace SrtW
open PySem L2 PySem.Spec PyProof.Rows
section
variable {P : Program} {w : World} {A : Around} {E : Value → Shared → Prop} {s : Shared}
set_option maxHeartbeats 3200000 in
theorem set_of_tup {l : Addr} {items : Array Value} (ks : List (Addr × List Int)) {Q : Value → Shared → Prop} (hh : A.handled = none) (hl : s.heap.IsTuple l items) (hit : items.toList = ks.map fun p => Value.ref p.1)
    (hk : ∀ p ∈ ks, IsT P w s.heap p.2 p.1) (hfew : ks.length < 64) (hu : A.units + 3 < cLine)
    (h : ∀ (h' : Heap) (tk : Nat) L es ep t, SetTR P w h' s.heap.objs.size L es ep t → Got ks ks.length L → (∀ b o, s.heap.get? b = some o → h'.get? b = some o) → Q (.ref s.heap.objs.size) { s with heap := h', toks := tk }) :
    wpAny (model P w) A (call (.type "set") [.ref l]) Q E s := by
  have n : items.size = ks.length := by rw [← Array.length_toList, hit, List.length_map]
  have big : l < s.heap.objs.size := by obtain ⟨o, ho, _⟩ := hl; exact Heap.lt_size ho
  have z1 : (s.heap.push (oSet0 w)).objs.size = s.heap.objs.size + 1 := Heap.size_push ..
  have at0 : (s.heap.push (oSet0 w)).get? s.heap.objs.size = some (oSet0 w) := Heap.get?_push_size _ rfl
  have none_of : ∀ b, s.heap.objs.size ≤ b → s.heap.get? b = none := fun b hb => by
    cases q : s.heap.get? b with
    | none => rfl
    | some o => exact absurd (Nat.lt_of_lt_of_le (Heap.lt_size q) hb) (Nat.lt_irrefl _)
  obtain ⟨c, tl, hmro⟩ := F.called_set.mro
  have hmade := F.called_set.made
  have hsub := F.called_set.sub
  refine wpAny_call (codeAny_of_tree ?_)
  show wpAny _ _ (callAny (.type "set") _) _ _ _
  refine wpAny_pure ⟨Code.quiet_builtin _ (by decide +kernel), codeAny_builtin F.entry_type_call ?_⟩
  rw [Around.under_plain (weight_type_call_type "set" [.ref l] []) rfl]
  have h1 := F.called_set.notType
  have h2 := F.called_set.canCreate
  have hct := F.typeCall_set_1 (.ref l)
  repeat (any_goals (first | assumption | wp_step))
  refine codeAny_mono (code_set_led1 (.ref l) (E := E) (Q₁ := fun obj s₁ => obj = .ref s.heap.objs.size ∧ s₁ = { s with heap := s.heap.push (oSet0 w) }) ⟨rfl, rfl⟩) fun r s₁ hr => ?_
  cases r with
  | error e => exact hr
  | ok fl =>
    cases fl with
    | ret obj =>
      obtain ⟨rfl, rfl⟩ := hr
      have hT : Shared.TypeIs { s with heap := s.heap.push (oSet0 w) } (.ref s.heap.objs.size) "set" := ⟨_, at0, rfl⟩
      have hli := F.called_set.init.lookup
      have hbi := F.called_set.init.bind (.ref s.heap.objs.size)
      repeat (any_goals (first | assumption | wp_step))
      refine codeAny_mono (codeAny_call_builtin (R := wants (fun r s₂ => r = .none ∧ ∃ h' tk L es ep t, s₂ = { s with heap := h', toks := tk } ∧ SetTR P w h' s.heap.objs.size L es ep t ∧ Got ks ks.length L ∧
          (∀ b o, s.heap.get? b = some o → h'.get? b = some o)) E) F.called_set.init.plain F.entry_set_init (check_set_init_1 hT ?_)) fun r₂ s₂ hr₂ => ?_
      · have hl1 : (s.heap.push (oSet0 w)).IsTuple l items := hl.push _
        have hol := hl1
        obtain ⟨ol, hol, hcl, hrest⟩ := hol
        obtain ⟨ocls, odict, odata, oslots⟩ := ol
        simp only at hcl
        subst hcl
        have hsls := F.sub_tuple_set
        have hslf := F.sub_tuple_frozenset
        have hne : (Value.type "tuple" == Value.type "dict") = false := by decide
        unfold Builtin.«set.__init__» noKeywords Builtin.Frozenset.updateFrom
        generalize hPI : pyIter = PI
        wp_walk
        subst hPI
        refine wpAny_pyIter_tuple hl1 ?_
        refine wpAny_bind (wpAny_runValue ?_)
        have hh3 : A.in1.in1.in1.handled = none := by simp [hh]
        refine set_update_tups ((Walks.tuple hh3 (s.heap.push (oSet0 w)).objs.size l (by rw [z1]; exact Nat.ne_of_lt (Nat.lt_succ_of_lt big)) items).toS) s.heap.objs.size (by rw [z1]; simp only [List.mem_cons, List.not_mem_nil, or_false, not_or]; exact ⟨Nat.ne_of_lt (Nat.lt_succ_self _), Nat.ne_of_gt big⟩)
          ks n hfew (fun i v hv => ?_) s.heap hk (none_of _ (Nat.le_refl _)) (fun b hb => none_of b (by rw [List.mem_singleton.mp hb, z1]; exact Nat.le_succ _)) hu (items.size - 0) 0 _ (by omega) (Nat.zero_le _)
          ⟨⟨_, Heap.get?_push_size _ rfl, rfl, rfl⟩, hl1.push _⟩ (fun b o e => Heap.get?_push_of_some _ (Heap.get?_push_of_some _ e)) ⟨[], #[], 0, _, setTR_fresh (Heap.get?_push_of_some _ at0), Got.zero ks⟩ fun s' L es ep t hm hS' g' hkp => ?_
        · have q : items.toList[i]? = some v := by rw [Array.getElem?_toList]; exact hv
          rw [hit, List.getElem?_map] at q
          obtain ⟨p, q1, q2⟩ := Option.map_eq_some_iff.mp q
          exact ⟨p, q1, q2.symm⟩
        · obtain ⟨h', g2, d', tk', os'⟩ := s'
          have eg : g2 = s.gens := hm.gens
          have ed : d' = s.drawn := hm.drawn
          have eo : os' = s.os := hm.os
          subst eg; subst ed; subst eo
          show wpAny _ _ _ _ _ _
          refine wpAny_pure ?_
          show wpAny _ _ (ret Value.none) _ _ _
          rw [n] at g'
          exact wpAny_pure ⟨rfl, h', tk', L, es, ep, t, rfl, hS', g', hkp⟩
      · cases r₂ with
        | error e => exact hr₂
        | ok f2 =>
          cases f2 with
          | ret v2 =>
            obtain ⟨rfl, h', tk, L, es, ep, t, rfl, hS', g', hk'⟩ := hr₂
            repeat (any_goals (first | assumption | wp_step))
            exact h _ _ _ _ _ _ hS' g' hk'
          | _ => exact hr₂
    | _ => exact hr
end
end SrtW
namespace Zm
open PySem L2 PySem.Spec PyProof.Rows SrtW
section
variable {X : Cx} {K : PySem.W.Frag}
/-- set(t), t a tuple of rows -/
def rSetTup (K : PySem.W.Frag) (P : Program) (w : World) : List V → Hp → VK → Prop := fun xs H Q => ∃ (l : Addr) (ks : List (Addr × List Int)), xs = [V.ref l] ∧ SqT K H l (ks.map fun p => V.ref p.1) ∧ (∀ p ∈ ks, SqT K H p.1 (p.2.map V.int)) ∧ ks.length < 64 ∧
  ∀ a L, H a = none → (∀ p ∈ L, p ∈ ks) → (∀ p ∈ ks, p.2 ∈ L.map (·.2)) → Q (.ref a) (upd H a (SetTO P w a L))
theorem cr_setTup (hc : X.calm = true) (hu : X.A.units + 64 < cLine) : CallR X (.type "set") (rSetTup X.K X.prog X.w) := by
  intro pins s σ H xs us Q I r h
  obtain ⟨l, ks, rfl, hl, hk, hf, q⟩ := h
  rw [Vals.ref1 r]
  obtain ⟨its, rv, pl, hz⟩ := I.tuple hl
  refine set_of_tup (P := X.prog) (w := X.w) ks (I.ok.hd hc) (show s.heap.IsTuple l its.toArray from pl) (by simpa using refs_of_vals rv) (fun p hp => I.isT (hk p hp)) hf (by omega) fun h' tk L es ep t R g k => ?_
  refine ⟨.ref s.heap.objs.size, upd H s.heap.objs.size (SetTO X.prog X.w s.heap.objs.size L), I.laid (t' := tk) k (Nat.le_refl _) (setTO_new R.t0), rfl, q _ L (I.hok.fresh (Nat.le_refl _)) (fun p hp => ?_) fun p hp => ?_⟩
  · exact List.mem_of_mem_take (g.sub p hp)
  · exact g.all p (by rw [List.take_length]; exact hp)
theorem cr_alt {v : Value} {r1 r2 : List V → Hp → VK → Prop} (a : CallR X v r1) (b : CallR X v r2) : CallR X v (fun xs H Q => r1 xs H Q ∨ r2 xs H Q) := fun pins s σ H xs us Q I r h => h.elim (a pins s σ H xs us Q I r) (b pins s σ H xs us Q I r)
/-- sorted(set(xs)) of ints or of rows -/
def ssD : D → Option (List D)
  | .lst ds => match intsO ds with
    | some ns => bif decide (ns.length < 60) then some ((sortU ns).map D.int) else none
    | none => (rowsI ds).bind fun rs => bif decide (rs.length < 64) then some ((sortL (oneL rs)).map rowD) else none
  | .tup ds => (rowsI ds).bind fun rs => bif decide (rs.length < 64) then some ((sortL (oneL rs)).map rowD) else none
  | _ => none
def mSSX (f : ME) : ME := fun ms => (f ms).bind fun r => (ssD r.1).map fun l => (.lst l, r.2)
abbrev rSo (K : PySem.W.Frag) (P : Program) (w : World) : List V → Hp → VK → Prop := fun xs H Q => rSortedSet w xs H Q ∨ rSortedS K P w xs H Q
abbrev rSe (K : PySem.W.Frag) (P : Program) (w : World) : List V → Hp → VK → Prop := fun xs H Q => rSetU K w xs H Q ∨ (rSetOfT K P w xs H Q ∨ rSetTup K P w xs H Q)
/-- from the rows' set on -/
theorem rows_fin {P : Program} {w : World} {ρ0 ρ1 : Rho} {h1 : Cells} {H0 H1 : Hp} {Q : VK} {rs : List (List Int)} {ks : List (Addr × List Int)} (F1 : Fut ρ0 H0 ρ1 H1) (R1 : Rel K ρ1 h1 H1) (f2 : ks.map (·.2) = rs) (f4 : ∀ p ∈ ks, p.2 ≠ [])
    (f5 : ∀ p ∈ ks, Den K ρ1 H1 (.ref p.1) (rowD p.2)) (q : ∀ v H' ρ', Fut ρ0 H0 ρ' H' → Rel K ρ' h1 H' → Den K ρ' H' v (.lst ((sortL (oneL rs)).map rowD)) → Q v H')
    (p : Addr) (L : List (Addr × List Int)) (hp : H1 p = none) (sub : ∀ x ∈ L, x ∈ ks) (all : ∀ x ∈ ks, x.2 ∈ L.map (·.2)) : rSortedS K P w [.ref p] (upd H1 p (SetTO P w p L)) Q := by
  refine ⟨p, L, rfl, upd_same, fun q hq => ?_, fun q hq => f4 q (sub q hq), fun L' p2 pm nd few up hp2 => ?_⟩
  · obtain ⟨b, us, e, sq, dd⟩ := den_tup ((f5 q (sub q hq)).fut (fut_new (SetTO P w p L) hp))
    cases e
    have := dens_toI dd
    subst this
    exact sq
  · have ee : sortL (oneL rs) = L'.map (·.2) := sortL_of up ((List.perm_ext_iff_of_nodup nd (nodup_oneL rs)).mpr fun x => by
      rw [mem_oneL, ← f2]
      constructor
      · intro m
        obtain ⟨q, hq, rfl⟩ := List.mem_map.mp m
        exact List.mem_map.mpr ⟨q, sub q (pm.mem_iff.mp hq), rfl⟩
      · intro m
        obtain ⟨q, hq, rfl⟩ := List.mem_map.mp m
        exact (pm.map (·.2)).mem_iff.mpr (all q hq))
    have g : ∀ M : List (Addr × List Int), (∀ q ∈ M, Den K ρ1 H1 (.ref q.1) (rowD q.2)) → Dens K ρ1 H1 (M.map fun q => V.ref q.1) ((M.map (·.2)).map rowD) := by
      intro M
      induction M with
      | nil => intro _; exact .nil
      | cons y M ih => intro hM; exact .cons (hM y List.mem_cons_self) (ih fun q m => hM q (List.mem_cons_of_mem _ m))
    have dl := ((g L' fun q m => f5 q (sub q (pm.mem_iff.mp m))).fut (fut_new (SetTO P w p L) hp)).fut (fut_new (.lst (L'.map fun q => V.ref q.1)) hp2)
    rw [← ee] at dl
    exact q _ _ ρ1 (F1.trans ((fut_new _ hp).trans (fut_new _ hp2))) ((R1.new _ hp).new _ hp2) (.lst upd_same ((R1.new _ hp).out hp2) dl)
theorem rd_ssx {P : Program} {w : World} {f : ME} {σ : L2.St} {H : Hp} {Q : VK} (h : rdE K (mSSX f) σ H Q) : tCB (rSo K P w) (tCons (tCB (rSe K P w) (tCons (rdE K f) tNil)) tNil) σ H Q := by
  obtain ⟨ρ, ms, d, h', R, S, e, q⟩ := h
  obtain ⟨r, e1, e2⟩ := Option.bind_eq_some_iff.mp e
  obtain ⟨x, h1⟩ := r
  obtain ⟨y, e3, e4⟩ := Option.map_eq_some_iff.mp e2
  cases e4
  refine ⟨ρ, ms, x, h1, R, S, e1, fun v H1 ρ1 F1 R1 dn => ?_⟩
  cases x <;> dsimp only [ssD] at e3 <;> try (cases e3; done)
  · rename_i ds
    obtain ⟨rs, e5, e6⟩ := Option.bind_eq_some_iff.mp e3
    obtain ⟨c, e7⟩ := bif_some e6
    cases e7
    have l := of_decide_eq_true c
    obtain ⟨a, vs, rfl, hq, dv⟩ := den_tup dn
    obtain ⟨ks, f1, f2, f3, f4, f5⟩ := rows_pairs dv e5
    subst f1
    exact .inr (.inr ⟨a, ks, rfl, hq, f3, by rw [← f2, List.length_map] at l; exact l, fun p L hp sub all => .inr (rows_fin F1 R1 f2 f4 f5 q p L hp sub all)⟩)
  · rename_i ds
    cases ei : intsO ds with
    | some ns =>
      rw [ei] at e3
      obtain ⟨c, e5⟩ := bif_some e3
      cases e5
      have l := of_decide_eq_true c
      have := intsO_eq ei
      subst this
      obtain ⟨a, vs, rfl, hq, dv⟩ := den_lst' dn
      have := dens_toI dv
      subst this
      refine .inl ⟨a, ns, rfl, hq, l, fun p n hp hn => .inl ⟨p, _, n, rfl, upd_same, by omega, fun out p2 hs hm hl2 hp2 => ?_⟩⟩
      have eo : out = sortU ns := asc_eq hs (asc_sortU ns) fun k => by rw [hm, mem_sortU]; simp
      subst eo
      exact q _ _ ρ1 (F1.trans ((fut_new _ hp).trans (fut_new _ hp2))) ((R1.new _ hp).new _ hp2) (.lst upd_same ((R1.new _ hp).out hp2) (dens_ofI _))
    | none =>
      rw [ei] at e3
      obtain ⟨rs, e5, e6⟩ := Option.bind_eq_some_iff.mp e3
      obtain ⟨c, e7⟩ := bif_some e6
      cases e7
      have l := of_decide_eq_true c
      obtain ⟨a, vs, rfl, hq, dv⟩ := den_lst' dn
      obtain ⟨ks, f1, f2, f3, f4, f5⟩ := rows_pairs dv e5
      subst f1
      exact .inr (.inl ⟨a, ks, rfl, hq, f3, by rw [← f2, List.length_map] at l; exact l, fun p L hp sub all => .inr (rows_fin F1 R1 f2 f4 f5 q p L hp sub all)⟩)
theorem ev_sortSetX {e : Expr} {f : ME} {p p2 pos pos2 : Pos} (hc : X.calm = true) (hu : X.A.units + 64 < cLine) (hm : X.mg "sorted" = none) (hv : bootBuiltins "sorted" = some (.builtin "sorted")) (hm2 : X.mg "set" = none) (hv2 : bootBuiltins "set" = some (.type "set")) (he : EV X e f)
    (hg : Gl X "sorted" := by rfl) (hg2 : Gl X "set" := by rfl)
    (s1 : starEach [e] X.env = (false, eval e X.env) :: starEach [] X.env := by rfl)
    (s2 : starEach [Expr.Call (.Name "set" p2) [e] [] pos2] X.env = (false, eval (Expr.Call (.Name "set" p2) [e] [] pos2) X.env) :: starEach [] X.env := by rfl) :
    EV X (.Call (.Name "sorted" p) [.Call (.Name "set" p2) [e] [] pos2] [] pos) (mSSX f) :=
  pe_w (pe_callB (cr_alt (cr_sortedSet hc) (cr_sortedS hc)) hg hm hv (pa_cons (pe_callTy (cr_alt (cr_setL hc) (cr_alt (cr_setOfT hc hu) (cr_setTup hc hu))) hg2 hm2 hv2 (pa_cons he pa_nil s1) (by decide) (by decide) s1 rfl) pa_nil s2) (by decide) (by decide) s2 rfl) fun _ _ _ => rd_ssx
end
end Zm

set_option Elab.async false
set_option linter.all false
set_option maxRecDepth 100000
/-! Zw: list(x) that is to change; l.pop(i). -/
namespace Zm
open PySem L2 PySem.Spec PyProof.Rows
section
variable {X : Cx} {K : PySem.W.Frag}
def mListC (f : ME) : ME := fun ms => (f ms).bind fun r => (rowsOf r.2 r.1).map fun ds => (.cell r.2.length, r.2 ++ [ds])
theorem rd_listC {f : ME} {σ : L2.St} {H : Hp} {Q : VK} (h : rdE K (mListC f) σ H Q) : tCB (fun xs H Q => ∃ p ys, xs = [V.ref p] ∧ (SqL K H p ys ∨ SqT K H p ys) ∧ ∀ l, H l = none → Q (.ref l) (upd H l (.lst ys))) (tCons (rdE K f) tNil) σ H Q := by
  obtain ⟨ρ, ms, d, h', R, S, e, q⟩ := h
  obtain ⟨⟨x, h1⟩, e1, e2⟩ := Option.bind_eq_some_iff.mp e
  obtain ⟨ds, e3, e4⟩ := Option.map_eq_some_iff.mp e2
  cases e4
  refine ⟨ρ, ms, x, h1, R, S, e1, fun v H1 ρ1 F1 R1 dn => ?_⟩
  obtain ⟨p, vs, rfl, s1, t1⟩ := rowsOf_den R1 dn e3
  exact ⟨p, vs, rfl, s1, fun l ho => q _ _ (ρ1.add l) (F1.trans (fut_cell _ ho)) (R1.more ho t1) (.cell (by rw [← R1.len]; simp [Rho.add]))⟩
theorem ev_listC {e : Expr} {f : ME} {p pos : Pos} (hm : X.mg "list" = none) (hv : bootBuiltins "list" = some (.type "list")) (he : EV X e f) (hg : Gl X "list" := by rfl)
    (s1 : starEach [e] X.env = (false, eval e X.env) :: starEach [] X.env := by rfl) : EV X (.Call (.Name "list" p) [e] [] pos) (mListC f) :=
  pe_w (pe_callTy call_list_of hg hm hv (pa_cons he pa_nil s1) (by decide) (by decide) s1 rfl) fun _ _ _ => rd_listC
theorem dens_drop {ρ : Rho} {H : Hp} : ∀ {vs : List V} {ds : List D} (j : Nat), Dens K ρ H vs ds → Dens K ρ H (vs.eraseIdx j) (ds.eraseIdx j)
  | _ :: _, _ :: _, 0, .cons a b => b
  | _ :: _, _ :: _, j + 1, .cons a b => .cons a (dens_drop j b)
  | [], [], j, .nil => .nil
def mPop (f : ME) (g : MA) : ME := fun ms => (f ms).bind fun r => (g { ms with h := r.2 }).bind fun s => match r.1, s.1 with
  | .cell i, [.int k] => (s.2[i]?).bind fun ds => bif big62 k then (seqIndex? k ds.length).bind fun j => (ds[j]?).map fun d => (d, s.2.set i (ds.eraseIdx j)) else none
  | _, _ => none
theorem ev_pop {o e : Expr} {apos cpos : Pos} {f : ME} {g : MA} (ho : EV X o f) (ha : AV X [e] g) (hbase : attributeBase o "pop" X.env (eval o X.env) = eval o X.env := by rfl)
    (hfew : ((backTo cpos (starEach [e] X.env)).all (fun x => !x.1) && (backToKw cpos (keywordEach [] X.env)).all (fun x => x.1.isSome)
      && decide (([e] : List Expr).length + ([] : List Keyword).length + (if ([] : List Keyword).isEmpty then 0 else 1) < 30)) = true := by rfl)
    (hline : (apos.endLine == cpos.line) = true := by rfl) (hs : starEach [e] X.env = (false, eval e X.env) :: starEach [] X.env := by rfl) (hplain : (backTo cpos (starEach [] X.env)).any (·.1) = false := by rfl) :
    EV X (.Call (.Attribute o "pop" apos) [e] [] cpos) (mPop f g) := by
  refine pe_w (pe_bm PySem.F.plainAttrs_list PySem.F.slot_list_pop PySem.F.type_list_pop mt_popAt ho ha hbase hfew hline hs hplain) fun σ H Q h => ?_
  obtain ⟨ρ, ms, d, h', R, S, e, q⟩ := h
  obtain ⟨⟨dx, h1⟩, e1, e2⟩ := Option.bind_eq_some_iff.mp e
  obtain ⟨⟨ds, h2⟩, e3, e4⟩ := Option.bind_eq_some_iff.mp e2
  dsimp only at e4
  split at e4
  · rename_i i k
    obtain ⟨es, e5, e6⟩ := Option.bind_eq_some_iff.mp e4
    have c : big62 k = true := by
      cases z : big62 k with
      | true => rfl
      | false => rw [z] at e6; cases e6
    have e7 := e6
    rw [c] at e7
    simp only [cond_true] at e7
    obtain ⟨j, e8, e9⟩ := Option.bind_eq_some_iff.mp e7
    obtain ⟨y, e10, e11⟩ := Option.map_eq_some_iff.mp e9
    cases e11
    have c := of_decide_eq_true c
    refine ⟨ρ, ms, .cell i, h1, R, S, e1, fun x H1 ρ1 F1 R1 dn1 => ?_⟩
    have dn1' := dn1
    cases dn1 with
    | cell g1 =>
      rename_i a
      have hl : i < h1.length := by
        obtain ⟨z, _⟩ := List.getElem?_eq_some_iff.mp g1
        rw [← R1.len]; exact z
      obtain ⟨vs0, q0, _⟩ := R1.at_ _ _ _ g1 (List.getElem?_eq_getElem hl)
      refine ⟨Or.inl ⟨rfl, _, SqL.of q0⟩, ρ1, { ms with h := h1 }, [.int k], h2, R1, S.fut F1, e3, fun xs H2 ρ2 F2 R2 dn2 => ?_⟩
      obtain ⟨x2, rfl, dn3⟩ := dens1 dn2
      cases dn3
      have g2 := F2.cellAt g1
      obtain ⟨vs, q1, q2⟩ := R2.at_ _ _ _ g2 e5
      obtain ⟨v, w1, w2⟩ := q2.get e10
      refine ⟨a, vs, k, j, v, rfl, rfl, q1, by omega, by omega, by rw [q2.length]; exact e8, w1, ?_⟩
      exact q _ _ ρ2 ((F1.trans F2).trans (fut_wr _ g2)) (R2.wr g2 (dens_drop j q2)) (w2.fut (fut_wr _ g2))
  · cases e4
end
end Zm

set_option Elab.async false
set_option linter.all false
set_option maxRecDepth 100000
/-! Zx: powers of great numbers, small exponents. -/
namespace Zm
open PySem L2 PyProof.Rows
section
variable {X : Cx} {K : PySem.W.Frag}
def CPowW (i j : Int) : Prop := 0 ≤ j ∧ j ≤ 100 ∧ i.natAbs.log2 < 1000000
theorem bits_powW {i j : Int} (h0 : 0 ≤ j) (h1 : j ≤ 100) (h2 : i.natAbs.log2 < 1000000) : (Builtin.Int.intBits i : Int) * j ≤ 2 ^ 27 := by
  have hb : (Builtin.Int.intBits i : Int) ≤ 1000000 := by
    unfold Builtin.Int.intBits
    split <;> omega
  have hb0 : (0 : Int) ≤ (Builtin.Int.intBits i : Int) := Int.natCast_nonneg _
  calc (Builtin.Int.intBits i : Int) * j ≤ 1000000 * 100 := Int.mul_le_mul hb h1 h0 (by decide)
    _ ≤ 2 ^ 27 := by decide
theorem op_powW : OpR X (binaryOp .Pow) (rI CPowW fun i j => .int (i ^ j.toNat)) := opI fun _ _ _ _ _ _ _ hc q => pow_int hc.1 (bits_powW hc.1 hc.2.1 hc.2.2) q
def powC (i j : Int) : Bool := decide (0 ≤ j ∧ j ≤ 100 ∧ i.natAbs.log2 < 1000000)
def oPowW : Cells → D → D → Option D
  | _, .int i, .int j => bif powC i j then some (.int (i ^ j.toNat)) else none
  | _, _, _ => none
theorem p_powW : Op2 K (rI CPowW fun i j => .int (i ^ j.toNat)) oPowW := by
  intro ρ h H x y dx dy d Q R a b e k
  cases dx <;> cases dy <;> simp only [oPowW] at e <;> try (cases e; done)
  obtain ⟨c, e⟩ := bif_some e
  cases e
  rename_i i j
  have c' : 0 ≤ j ∧ j ≤ 100 ∧ i.natAbs.log2 < 1000000 := of_decide_eq_true c
  exact ⟨_, _, den_int a, den_int b, c', k _ _ ρ (.refl _ _) R (.int _)⟩
end
end Zm
namespace Zm
open PySem L2
section
variable {X : Cx} {K : PySem.W.Frag}
/-! a + b of lists, a new cell -/
def rowL (h : Cells) : D → Option (List D)
  | .lst ds => some ds
  | .cell i => h[i]?
  | _ => none
theorem rowL_den {ρ : Rho} {h : Cells} {H : Hp} {v : V} {d : D} {ds : List D} (R : Rel K ρ h H) (a : Den K ρ H v d) (e : rowL h d = some ds) : ∃ p vs, v = .ref p ∧ H p = some (.lst vs) ∧ Dens K ρ H vs ds := by
  cases d <;> simp only [rowL] at e <;> try (cases e; done)
  · cases e
    obtain ⟨p, vs, rfl, hp, _, t⟩ := den_len a
    exact ⟨p, vs, rfl, hp, t⟩
  · cases a with
    | cell g =>
      obtain ⟨vs, q, t⟩ := R.at_ _ _ _ g e
      exact ⟨_, vs, rfl, q, t⟩
def mAddL (f g : ME) : ME := fun ms => (f ms).bind fun r => (g { ms with h := r.2 }).bind fun s => (rowL s.2 r.1).bind fun a => (rowL s.2 s.1).bind fun b => bif decide (a.length + b.length ≤ line) then some (.cell s.2.length, s.2 ++ [a ++ b]) else none
theorem ev_addL {a b : Expr} {pos : Pos} {f g : ME} (ha : EV X a f) (hb : EV X b g) : EV X (.BinOp a .Add b pos) (mAddL f g) := by
  refine pe_w (pe_op or_addAll ha hb) fun σ H Q h => ?_
  obtain ⟨ρ, ms, d, h', R, S, e, q⟩ := h
  obtain ⟨⟨dx, h1⟩, e1, e2⟩ := Option.bind_eq_some_iff.mp e
  obtain ⟨⟨dy, h2⟩, e3, e4⟩ := Option.bind_eq_some_iff.mp e2
  obtain ⟨xs, e5, e6⟩ := Option.bind_eq_some_iff.mp e4
  obtain ⟨ys, e7, e8⟩ := Option.bind_eq_some_iff.mp e6
  obtain ⟨c, e9⟩ := bif_some e8
  cases e9
  have c := of_decide_eq_true c
  refine ⟨ρ, ms, dx, h1, R, S, e1, fun x H1 ρ1 F1 R1 dn1 => ?_⟩
  refine ⟨ρ1, { ms with h := h1 }, dy, h2, R1, S.fut F1, e3, fun y H2 ρ2 F2 R2 dn2 => ?_⟩
  obtain ⟨p, vs, rfl, s1, t1⟩ := rowL_den R2 (dn1.fut F2) e5
  obtain ⟨r, ws, rfl, s2, t2⟩ := rowL_den R2 dn2 e7
  refine .inr (.inr (.inl ⟨p, r, vs, ws, rfl, rfl, s1, s2, by rw [t1.length, t2.length, ← line_eq]; exact c, fun o ho => ?_⟩))
  exact q _ _ (ρ2.add o) ((F1.trans F2).trans (fut_cell _ ho)) (R2.more ho (t1.append t2)) (.cell (by rw [← R2.len]; simp [Rho.add]))
/-! for, over a list that is a cell -/
abbrev MIC := MS → Option (Nat × Cells)
def YieldsC (K : PySem.W.Frag) (ρ0 : Rho) (H0 : Hp) (J : It) (c : Nat) : Prop :=
  ∀ i ρ H h ds, Fut ρ0 H0 ρ H → Rel K ρ h H → h[c]? = some ds → (ds.length ≤ i → J.stop i H) ∧ ∀ d, ds[i]? = some d → J.go i H ∧ ∀ x H', J.yld i H x H' → Fut ρ H ρ H' ∧ Rel K ρ h H' ∧ Den K ρ H' x d
def rdIC (K : PySem.W.Frag) (f : MIC) : TI := fun σ H Rk => ∃ ρ ms c h' ds, Rel K ρ ms.h H ∧ Slots K ρ H ms.s σ ∧ f ms = some (c, h') ∧ h'[c]? = some ds ∧ ∀ J H' ρ', Fut ρ H ρ' H' → Rel K ρ' h' H' → YieldsC K ρ' H' J c → Rk J H'
def iC (f : ME) : MIC := fun ms => (f ms).bind fun r => match r.1 with | .cell c => some (c, r.2) | _ => none
theorem bif_some' {α : Type} {c : Bool} {x : Option α} {z : α} (h : (bif c then x else none) = some z) : c = true ∧ x = some z := by
  cases c
  · cases h
  · exact ⟨rfl, h⟩
theorem iv_cell {tg l : Expr} {f : ME} (h : EV X l f) : PI X tg l (rdIC X.K (iC f)) := by
  refine pi_w (pi_list h) fun σ H Rk h => ?_
  obtain ⟨ρ, ms, c, h', ds, R, S, e, hc, q⟩ := h
  obtain ⟨⟨d, h1⟩, e1, e2⟩ := Option.bind_eq_some_iff.mp e
  cases d <;> try (cases e2; done)
  cases e2
  refine ⟨ρ, ms, _, _, R, S, e1, fun v H1 ρ1 F1 R1 dn => ?_⟩
  cases dn with
  | cell g =>
    rename_i a
    obtain ⟨vs, q1, t1⟩ := R1.at_ _ _ _ g hc
    refine ⟨a, rfl, ⟨vs, SqL.of q1⟩, q _ _ ρ1 F1 R1 fun i ρ2 H2 h2 es F2 R2 h2c => ?_⟩
    obtain ⟨ws, q2, t2⟩ := R2.at_ _ _ _ (F2.cellAt g) h2c
    refine ⟨fun hl => ⟨ws, SqL.of q2, by rw [t2.length]; exact hl⟩, fun d hd => ?_⟩
    obtain ⟨x, hx, dx⟩ := t2.get hd
    refine ⟨⟨ws, x, SqL.of q2, hx⟩, fun y H' hy => ?_⟩
    obtain ⟨rfl, hy⟩ := hy
    have hy' := hy ws (SqL.of q2)
    rw [hx] at hy'
    cases hy'
    exact ⟨.refl _ _, R2, dx⟩
def mForCL (c n : Nat) (g : MG) (b : MB) : Nat → MB
  | 0, ms => (ms.h[c]?).bind fun ds => bif decide (ds.length = n) then some (.nx, ms) else none
  | k + 1, ms => (ms.h[c]?).bind fun ds => bif decide (ds.length = n) then (ds[n - (k + 1)]?).bind fun d => (g d ms).bind fun m1 => (b m1).bind fun t => match t.1 with
      | .nx => mForCL c n g b k t.2
      | .ct => mForCL c n g b k t.2
      | .bk => some (.nx, t.2)
      | .ret d => some (.ret d, t.2) else none
def mForC (f : MIC) (g : MG) (b : MB) : MB := fun ms => (f ms).bind fun r => (r.2[r.1]?).bind fun ds => mForCL r.1 ds.length g b ds.length { ms with h := r.2 }
theorem bv_forC {tg iter : Expr} {body : List Stmt} {pos : Pos} {f : MIC} {g : MG} {b : MB} (hi : PI X tg iter (rdIC X.K f)) (hg : GV X tg g) (hb : BVs X body b) (hc : X.calm = true) (hp : PassesOwn (model X.prog X.w) X.A X.env X.xe)
    (hs : ∀ x, foldedSetIterable iter X.env x = pure x := by intro _; rfl) : BV X (.For tg iter body [] pos) (mForC f g b) := by
  refine ps_w (ps_for hp hc hi hg hb hs) fun D σ H h => ?_
  obtain ⟨ρ, ms, o, ms', R, S, e, q⟩ := h
  obtain ⟨⟨c, h1⟩, e1, e2⟩ := Option.bind_eq_some_iff.mp e
  obtain ⟨ds, e0, e2⟩ := Option.bind_eq_some_iff.mp e2
  refine ⟨ρ, ms, c, h1, ds, R, S, e1, e0, fun J H1 ρ1 F1 R1 Y => ?_⟩
  refine ⟨fun i m σ2 H2 => m = ds.length - i ∧ i ≤ ds.length ∧ ∃ ρ2 ms2, Fut ρ1 H1 ρ2 H2 ∧ Rel X.K ρ2 ms2.h H2 ∧ Slots X.K ρ2 H2 ms2.s σ2 ∧ mForCL c ds.length g b (ds.length - i) ms2 = some (o, ms'), ⟨_, rfl, Nat.zero_le _, ρ1, { ms with h := h1 }, .refl ρ1 H1, R1, S.fut F1, e2⟩, ?_⟩
  rintro i m σ2 H2 ⟨rfl, hi, ρ2, ms2, F2, R2, S2, e3⟩
  by_cases hl : i < ds.length
  · right
    obtain ⟨k, hk⟩ : ∃ k, ds.length - i = k + 1 := ⟨ds.length - i - 1, by omega⟩
    rw [hk] at e3
    obtain ⟨es, e30, e31⟩ := Option.bind_eq_some_iff.mp e3
    obtain ⟨c1, e32⟩ := bif_some' e31
    have c1 := of_decide_eq_true c1
    obtain ⟨d, hd, e33⟩ := Option.bind_eq_some_iff.mp e32
    have hik : ds.length - (k + 1) = i := by omega
    rw [hik] at hd
    obtain ⟨ystop, ygo⟩ := Y i ρ2 H2 ms2.h es F2 R2 e30
    obtain ⟨g1, g2⟩ := ygo _ hd
    obtain ⟨m1, e4, e5⟩ := Option.bind_eq_some_iff.mp e33
    obtain ⟨u, e6, e7⟩ := Option.bind_eq_some_iff.mp e5
    obtain ⟨o3, ms3⟩ := u
    refine ⟨g1, fun σ3 H3 => ∃ ρ3 ms3, Fut ρ1 H1 ρ3 H3 ∧ Rel X.K ρ3 ms3.h H3 ∧ Slots X.K ρ3 H3 ms3.s σ3 ∧ mForCL c ds.length g b (ds.length - (i + 1)) ms3 = some (o, ms'), fun σ' H' w => ⟨ds.length - (i + 1), by omega, rfl, hl, w⟩, fun x H' y => ?_⟩
    have hk2 : ds.length - (i + 1) = k := by omega
    rw [hk2]
    obtain ⟨Fy, Ry, dy⟩ := g2 x H' y
    refine ⟨ρ2, ms2, _, m1, Ry, S2.fut Fy, dy, e4, fun H4 ρ4 σ4 F4 R4 S4 => ?_⟩
    refine ⟨ρ4, m1, o3, ms3, R4, S4, e6, fun H5 ρ5 F5 R5 => ?_⟩
    have F15 := ((F2.trans Fy).trans F4).trans F5
    cases o3 with
    | nx => exact fun σ5 S5 => ⟨ρ5, ms3, F15, R5, S5, e7⟩
    | ct => exact fun σ5 S5 => ⟨ρ5, ms3, F15, R5, S5, e7⟩
    | bk => cases e7; exact fun σ5 S5 => q H5 ρ5 (F1.trans F15) R5 σ5 S5
    | ret d => cases e7; exact fun v dn => q H5 ρ5 (F1.trans F15) R5 v dn
  · left
    have z : ds.length - i = 0 := by omega
    rw [z] at e3
    obtain ⟨es, e30, e31⟩ := Option.bind_eq_some_iff.mp e3
    obtain ⟨c1, e32⟩ := bif_some' e31
    have c1 := of_decide_eq_true c1
    obtain ⟨ystop, ygo⟩ := Y i ρ2 H2 ms2.h es F2 R2 e30
    cases e32
    exact ⟨ystop (by omega), q H2 ρ2 (F1.trans F2) R2 σ2 S2⟩
end
end Zm

set_option Elab.async false
set_option linter.all false
set_option maxRecDepth 100000
/-! Zm: repr of a list of great ints, up to 4,300 figures. -/
namespace Bg
open PySem PySem.W PyProof.Rows
/-- what the statics don't name at the base, they don't name later -/
theorem no_static {K : Frag} {h : Heap} {mc : Str → Option Value} {n : Str} (kin : K.In h) (ns : h.Ns cStatics mc) (z : nsIn K cStatics n = some none) : mc n = none := by
  obtain ⟨ob, es, ep, at_, data, keys, names⟩ := ns
  unfold nsIn at z
  split at z
  · rename_i c d es' n' sl q
    have same := kin _ _ q
    rw [at_] at same
    cases same
    cases data
    split at z
    · cases z
    · rename_i no
      have := names n
      unfold nsFind findBy at this
      rw [← Array.find?_toList, no] at this
      exact this.symm
  · cases z
theorem few_digits {K : Frag} {h : Heap} (kin : K.In h) (lim : h.NoLimit) (z : nsIn K cStatics "sys.int_max_str_digits" = some none) : h.NoDigits := by
  obtain ⟨mc, ns, _⟩ := lim
  exact ⟨mc, ns, no_static kin ns z⟩
def bigT (ns : List Int) : List Str := ns.map fun n => ((toString n : String) : Str)
section
variable {prog : Program} {w : World}
theorem repr_big {h₀ : Heap} {n : Int} {t : Tok} (dg : h₀.NoDigits) (small : n.natAbs < 10 ^ 4300) (as : List Addr) (d : Nat) : ReprK prog w as h₀ (d + 1) (.int n t) ((toString n : String) : Str) :=
  fun base room A g E s Q hg hcl hu hk hQ => by
    have rm : base ≤ sizeLine := by omega
    rw [pyReprUnder_leaf (v := .int n t) rm (fun _ e => nomatch e)]
    unfold pyRepr
    refine wpAny_bind (wpAny_pyReprObj_slot (by omega) (typeIs_int s n t) F.slot_int_repr.toG ?_)
    -- the statics stand as before, so no limit of figures is set
    have dg' : s.heap.NoDigits := dg.keeps hk
    refine wpAny_call_entry F.slot_int_repr (typeIs_int s n t) F.entry_int_repr ?_ (F.args_int_repr_1 _)
    unfold Builtin.«int.__repr__»
    show wpAny _ _ (do let lim ← Builtin.overDigitLimit? n; _) _ _ s
    refine wpAny_bind (overDigitLimit_any dg' (fun few => ?_) fun ge => absurd small (Nat.not_lt.mpr ge))
    exact wpAny_bind (wpAny_mkStr (wpAny_pure ⟨_, rfl, _, _, rfl, wpAny_pure (hQ s.heap _ fun _ _ e => e)⟩) (int_text_fits10 few))
end
end Bg
namespace Zm
open PySem PySem.Spec L2 PyProof.Rows
theorem ints_at {its : List Value} {ns : List Int} (h : IntsAre its ns) : ∀ (i : Nat) (y : Value), its[i]? = some y → ∃ k t, y = Value.int k t ∧ ns[i]? = some k := by
  induction h with
  | nil => intro i y e; cases e
  | cons k t r ih =>
    intro i y e
    cases i with
    | zero => cases e; exact ⟨k, t, rfl, rfl⟩
    | succ i => exact ih i y e
/-- repr(xs), xs a list of great ints, not empty -/
def rReprB (K : PySem.W.Frag) : List V → Hp → VK → Prop := fun xs H Q => ∃ (a : Addr) (k : Int) (ns : List Int), xs = [V.ref a] ∧ SqL K H a ((k :: ns).map V.int) ∧ (∀ i ∈ k :: ns, i.natAbs < 10 ^ 4300) ∧ (listText (Bg.bigT (k :: ns))).length ≤ sizeLine ∧ Q (.str (listText (Bg.bigT (k :: ns)))) H
theorem call_reprB {X : Cx} (dg : PySem.W.nsIn X.K cStatics "sys.int_max_str_digits" = some none) (hg : X.A.guards = some []) (hu : X.A.units + 64 < cLine) : CallR X (.builtin "repr") (rReprB X.K) := by
  intro pins s σ H xs us Q I r h
  obtain ⟨a, k, ns, rfl, sq, small, fits, q⟩ := h
  obtain ⟨its, rv, ⟨o, e, at_, cls, dict, data⟩, hz⟩ := I.list sq
  rw [Vals.ref1 r]
  have areI := rv.ints
  have ll := Paired.length rv
  have digits := Bg.few_digits I.kIn I.nolimit dg
  refine call_repr_slot (by omega) ⟨o, at_, cls⟩ F.slot_list_repr.toG ?_
  cases its with
  | nil => cases areI
  | cons x l =>
    have len : (Bg.bigT (k :: ns)).length = (x :: l).toArray.size := by
      unfold Bg.bigT
      simp at ll ⊢
      omega
    refine call_list_reprK (h₀ := s.heap) (as := []) (d := 1) at_ cls data (by simp) len (fun i y ey => ?_) hg (fun b _ => Clear.nil b) (by show X.A.units + 1 + (1 + 1) < cLine; omega) (fun _ _ z => z) (fun h' u tk keep => ⟨_, _, rfl, .str _, H, I.kept keep, ⟨u, rfl⟩, q⟩) fits
    obtain ⟨m, t, rfl, em⟩ := ints_at areI i y (by simpa using ey)
    refine ⟨((toString m : String) : Str), ?_, Bg.repr_big digits (small m (List.mem_of_getElem? em)) [] 0⟩
    unfold Bg.bigT
    rw [List.getElem?_map, em]
    rfl
/-- all of them have fewer than 2,200 bits -/
def bigB (ns : List Int) : Bool := ns.all fun i => decide (i.natAbs < 2 ^ 2200)
def oReprB : Cells → List D → Option D
  | _, [.lst (d :: ds)] => (intsO (d :: ds)).bind fun ns => bif bigB ns && decide (ns.length ≤ 100) then some (.str (listText (Bg.bigT ns))) else none
  | _, _ => none
theorem big_pow : (2 : Nat) ^ 2200 ≤ 10 ^ 4300 := by decide +kernel
theorem big_dig : (2 : Nat) ^ 2200 ≤ 10 ^ 700 := by decide +kernel
theorem big_text {ns : List Int} (h : ∀ i ∈ ns, i.natAbs < 2 ^ 2200) (l : ns.length ≤ 100) : (listText (Bg.bigT ns)).length ≤ sizeLine := by
  have hX : (listText (Bg.bigT ns)).length = (textFrom 0 "[" (Bg.bigT ns)).length + 1 := by
    show (textFrom 0 "[" (Bg.bigT ns) ++ "]").length = _
    rw [strLen_append]; rfl
  have e := textFrom_len_le (Bg.bigT ns) 0 "["
  have one : ∀ i : Int, i.natAbs < 2 ^ 2200 → (((toString i : String) : Str)).length ≤ 701 := fun i hi => by
    have := int_text_length_le10 (a := i) (k := 700) (by decide) (Nat.lt_of_lt_of_le hi big_dig)
    rw [PySem.ofString_length]; exact this
  have sum : ∀ ms : List Int, (∀ i ∈ ms, i.natAbs < 2 ^ 2200) → ((Bg.bigT ms).map (·.length)).sum ≤ 701 * ms.length := fun ms => by
    induction ms with
    | nil => intro _; exact Nat.le_refl _
    | cons i ms ih =>
      intro hm
      have a := one i (hm i List.mem_cons_self)
      have b := ih fun j hj => hm j (List.mem_cons_of_mem _ hj)
      have : ((Bg.bigT (i :: ms)).map (·.length)).sum = (((toString i : String) : Str)).length + ((Bg.bigT ms).map (·.length)).sum := rfl
      rw [this, List.length_cons]
      omega
  have s := sum ns h
  have ln : (Bg.bigT ns).length = ns.length := List.length_map _
  have l1 : ("[" : Str).length = 1 := by decide +kernel
  rw [hX, sizeLine_eq]
  rw [ln, l1] at e
  omega
theorem c_reprB {K : PySem.W.Frag} : OpC K (rReprB K) oReprB := by
  intro ρ h H xs dxs d Q R a e k
  unfold oReprB at e
  split at e
  · rename_i d0 ds
    obtain ⟨ns, e1, e2⟩ := Option.bind_eq_some_iff.mp e
    obtain ⟨c, e3⟩ := bif_some e2
    cases e3
    rw [Bool.and_eq_true, decide_eq_true_eq] at c
    obtain ⟨c1, c2⟩ := c
    have sm : ∀ i ∈ ns, i.natAbs < 2 ^ 2200 := fun i hi => of_decide_eq_true (List.all_eq_true.mp c1 i hi)
    have en := intsO_eq e1
    cases ns with
    | nil => cases en
    | cons n ns =>
      obtain ⟨x, rfl, a1⟩ := dens1 a
      obtain ⟨p, vs, rfl, s1, t1⟩ := den_lst' a1
      rw [en] at t1
      have := dens_toI t1
      subst this
      exact ⟨p, n, ns, rfl, s1, fun i hi => Nat.lt_of_lt_of_le (sm i hi) big_pow, big_text sm c2, k _ _ ρ (.refl _ _) R (.str _)⟩
  · cases e
end Zm

set_option Elab.async false
set_option linter.all false
set_option maxRecDepth 100000
set_option maxHeartbeats 4000000
namespace Law
open PySem L2 Zm
def top (i : Nat) : Stmt := PySem.Challenge.pw_classprimes_k27_phi_by_own_sums_and_prod.main.body.getD i (.Pass ⟨0, 0, 0, 0⟩)
structure Blt (K : PySem.W.Frag) (mg : Str → Option Value) : Prop where
  dg : PySem.W.nsIn K cStatics "sys.int_max_str_digits" = some none
  b_abs : mg "abs" = none
  b_bool : mg "bool" = none
  b_divmod : mg "divmod" = none
  b_int : mg "int" = none
  b_isinstance : mg "isinstance" = none
  b_len : mg "len" = none
  b_max : mg "max" = none
  b_min : mg "min" = none
  b_range : mg "range" = none
  b_repr : mg "repr" = none
theorem bt_abs : bootBuiltins "abs" = some (.builtin "abs") := by decide +kernel
theorem bt_bool : bootBuiltins "bool" = some (.type "bool") := by decide +kernel
theorem bt_divmod : bootBuiltins "divmod" = some (.builtin "divmod") := by decide +kernel
theorem bt_int : bootBuiltins "int" = some (.type "int") := by decide +kernel
theorem bt_isinstance : bootBuiltins "isinstance" = some (.builtin "isinstance") := by decide +kernel
theorem bt_len : bootBuiltins "len" = some (.builtin "len") := by decide +kernel
theorem bt_max : bootBuiltins "max" = some (.builtin "max") := by decide +kernel
theorem bt_min : bootBuiltins "min" = some (.builtin "min") := by decide +kernel
theorem bt_range : bootBuiltins "range" = some (.type "range") := by decide +kernel
theorem bt_repr : bootBuiltins "repr" = some (.builtin "repr") := by decide +kernel
theorem hu {k : Nat} {A : Around} (h : RoomG k A) : A.units + 64 < cLine := h.r.units
theorem hu1 {A : Around} (h : A.units + 64 < cLine) : A.units + 1 < cLine := by omega
theorem hu65 {k : Nat} {A : Around} (h : RoomG k A) : A.units + 65 < cLine := by have := h.r.un; omega
section
variable {P : Program} {w : World} {K : PySem.W.Frag} {mg : Str → Option Value} {base : Heap}
abbrev s_is_whole : Stmt := top 1
abbrev N_is_whole : List Str := ["value"]
theorem sc_is_whole : FnScope ["value"] ["value"] (defScope s_is_whole) := ⟨rfl, rfl, rfl, by decide +kernel, rfl, by decide +kernel, by decide +kernel⟩
def b_is_whole : MB :=
    (mRet (mAndV (mCB oIsi (mCons (mVar 0) (mCons (mC (.ty "int")) mNil))) (mNotV (mCB oIsi (mCons (mVar 0) (mCons (mC (.ty "bool")) mNil))))))
def F_is_whole : MF := mFun 1 1 b_is_whole
theorem ok_is_whole (B : Blt K mg) {f : Addr} {fd : FuncData} (F : Fun K "is_whole" "is_whole" s_is_whole f fd) : FnG P w K mg base CX0 1 f fd ["value"] (spF K 1 F_is_whole) :=
  (fn_ok (b := b_is_whole) F sc_is_whole rfl rfl fun cdv A outer s H E hr =>
    (bvs_one (bv_ret (ev_and (ev_callB call_isi c_isi B.b_isinstance bt_isinstance (av_cons (ev_var 0) (av_cons (ev_ty B.b_int bt_int) av_nil))) (ev_one (ev_not (ev_callB call_isi c_isi B.b_isinstance bt_isinstance (av_cons (ev_var 0) (av_cons (ev_ty B.b_bool bt_bool) av_nil)))))))))
abbrev s_is_whole_between : Stmt := top 2
abbrev N_is_whole_between : List Str := ["value", "low", "high"]
theorem sc_is_whole_between : FnScope ["value", "low", "high"] ["value", "low", "high"] (defScope s_is_whole_between) := ⟨rfl, rfl, rfl, by decide +kernel, rfl, by decide +kernel, by decide +kernel⟩
def b_is_whole_between : MB :=
    (mRet (mAndV (mCall 1 F_is_whole (mCons (mVar 0) mNil)) (mChain cLe cLe (mVar 1) (mVar 0) (mVar 2))))
def F_is_whole_between : MF := mFun 3 3 b_is_whole_between
theorem ok_is_whole_between (B : Blt K mg) {f : Addr} {fd : FuncData} (F : Fun K "is_whole_between" "is_whole_between" s_is_whole_between f fd) (d_is_whole : Knows P w K mg base 1 "is_whole" 1 F_is_whole) : FnG P w K mg base CX0 2 f fd ["value", "low", "high"] (spF K 3 F_is_whole_between) :=
  (fn_ok (b := b_is_whole_between) F sc_is_whole_between rfl rfl fun cdv A outer s H E hr =>
    (bvs_one (bv_ret (ev_and (ev_def d_is_whole (hr.mono (by decide)) (av_cons (ev_var 0) av_nil)) (ev_one (ev_chain op_le (p_cI (p := fun i j => decide (i ≤ j))) op_le (p_cI (p := fun i j => decide (i ≤ j))) (ev_var 1) (ev_var 0) (ev_var 2)))))))
abbrev s_check_step : Stmt := top 8
abbrev N_check_step : List Str := ["step"]
theorem sc_check_step : FnScope ["step"] ["step"] (defScope s_check_step) := ⟨rfl, rfl, rfl, by decide +kernel, rfl, by decide +kernel, by decide +kernel⟩
def b_check_step : MB :=
    (mIfS (mNot (mTru (mCall 3 F_is_whole_between (mCons (mVar 0) (mCons (mC (.int 2)) (mCons (mC (.int 3)) mNil)))))) mNev mNx)
def F_check_step : MF := mFun 1 1 b_check_step
theorem ok_check_step (B : Blt K mg) {f : Addr} {fd : FuncData} (F : Fun K "check_step" "check_step" s_check_step f fd) (d_is_whole_between : Knows P w K mg base 2 "is_whole_between" 3 F_is_whole_between) : FnG P w K mg base CX0 3 f fd ["step"] (spF K 1 F_check_step) :=
  (fn_ok (b := b_check_step) F sc_check_step rfl rfl fun cdv A outer s H E hr =>
    (bvs_one (bv_if (tv_not (tv_val (ev_def d_is_whole_between (hr.mono (by decide)) (av_cons (ev_var 0) (av_cons ev_int (av_cons ev_int av_nil)))))) (bvs_one bv_never) bvs_nil)))
abbrev s_phi_by_2 : Stmt := top 10
abbrev N_phi_by_2 : List Str := ["x", "y"]
theorem sc_phi_by_2 : FnScope ["x", "y"] ["x", "y"] (defScope s_phi_by_2) := ⟨rfl, rfl, rfl, by decide +kernel, rfl, by decide +kernel, by decide +kernel⟩
def b_phi_by_2 : MB :=
    (mRet (mBin oSub (mBin oAdd (mBin oAdd (mBin oSub (mBin oAdd (mBin oSub (mBin oAdd (mBin oPowW (mVar 0) (mC (.int 3))) (mBin oPowW (mVar 1) (mC (.int 3)))) (mBin oMulA (mBin oPowW (mVar 0) (mC (.int 2))) (mBin oPowW (mVar 1) (mC (.int 2))))) (mBin oMulA (mC (.int 1488)) (mBin oAdd (mBin oMulA (mBin oPowW (mVar 0) (mC (.int 2))) (mVar 1)) (mBin oMulA (mVar 0) (mBin oPowW (mVar 1) (mC (.int 2))))))) (mBin oMulA (mC (.int 162000)) (mBin oAdd (mBin oPowW (mVar 0) (mC (.int 2))) (mBin oPowW (mVar 1) (mC (.int 2)))))) (mBin oMulA (mBin oMulA (mC (.int 40773375)) (mVar 0)) (mVar 1))) (mBin oMulA (mC (.int 8748000000)) (mBin oAdd (mVar 0) (mVar 1)))) (mC (.int 157464000000000))))
def F_phi_by_2 : MF := mFun 2 2 b_phi_by_2
theorem ok_phi_by_2 (B : Blt K mg) {f : Addr} {fd : FuncData} (F : Fun K "phi_by_2" "phi_by_2" s_phi_by_2 f fd) : FnG P w K mg base CX0 1 f fd ["x", "y"] (spF K 2 F_phi_by_2) :=
  (fn_ok (b := b_phi_by_2) F sc_phi_by_2 rfl rfl fun cdv A outer s H E hr =>
    (bvs_one (bv_ret (ev_bin op_sub p_sub (ev_bin or_addAll p_add (ev_bin or_addAll p_add (ev_bin op_sub p_sub (ev_bin or_addAll p_add (ev_bin op_sub p_sub (ev_bin or_addAll p_add (ev_bin op_powW p_powW (ev_var 0) ev_int) (ev_bin op_powW p_powW (ev_var 1) ev_int)) (ev_bin or_mul p_mulA (ev_bin op_powW p_powW (ev_var 0) ev_int) (ev_bin op_powW p_powW (ev_var 1) ev_int))) (ev_bin or_mul p_mulA ev_int (ev_bin or_addAll p_add (ev_bin or_mul p_mulA (ev_bin op_powW p_powW (ev_var 0) ev_int) (ev_var 1)) (ev_bin or_mul p_mulA (ev_var 0) (ev_bin op_powW p_powW (ev_var 1) ev_int))))) (ev_bin or_mul p_mulA ev_int (ev_bin or_addAll p_add (ev_bin op_powW p_powW (ev_var 0) ev_int) (ev_bin op_powW p_powW (ev_var 1) ev_int)))) (ev_bin or_mul p_mulA (ev_bin or_mul p_mulA ev_int (ev_var 0)) (ev_var 1))) (ev_bin or_mul p_mulA ev_int (ev_bin or_addAll p_add (ev_var 0) (ev_var 1)))) ev_int))))
abbrev s_phi_by_3 : Stmt := top 11
abbrev N_phi_by_3 : List Str := ["x", "y"]
theorem sc_phi_by_3 : FnScope ["x", "y"] ["x", "y"] (defScope s_phi_by_3) := ⟨rfl, rfl, rfl, by decide +kernel, rfl, by decide +kernel, by decide +kernel⟩
def b_phi_by_3 : MB :=
    (mRet (mBin oAdd (mBin oSub (mBin oAdd (mBin oAdd (mBin oAdd (mBin oAdd (mBin oSub (mBin oAdd (mBin oSub (mBin oAdd (mBin oPowW (mVar 0) (mC (.int 4))) (mBin oPowW (mVar 1) (mC (.int 4)))) (mBin oMulA (mBin oPowW (mVar 0) (mC (.int 3))) (mBin oPowW (mVar 1) (mC (.int 3))))) (mBin oMulA (mC (.int 2232)) (mBin oAdd (mBin oMulA (mBin oPowW (mVar 0) (mC (.int 3))) (mBin oPowW (mVar 1) (mC (.int 2)))) (mBin oMulA (mBin oPowW (mVar 0) (mC (.int 2))) (mBin oPowW (mVar 1) (mC (.int 3))))))) (mBin oMulA (mC (.int 1069956)) (mBin oAdd (mBin oMulA (mBin oPowW (mVar 0) (mC (.int 3))) (mVar 1)) (mBin oMulA (mVar 0) (mBin oPowW (mVar 1) (mC (.int 3))))))) (mBin oMulA (mC (.int 36864000)) (mBin oAdd (mBin oPowW (mVar 0) (mC (.int 3))) (mBin oPowW (mVar 1) (mC (.int 3)))))) (mBin oMulA (mBin oMulA (mC (.int 2587918086)) (mBin oPowW (mVar 0) (mC (.int 2)))) (mBin oPowW (mVar 1) (mC (.int 2))))) (mBin oMulA (mC (.int 8900222976000)) (mBin oAdd (mBin oMulA (mBin oPowW (mVar 0) (mC (.int 2))) (mVar 1)) (mBin oMulA (mVar 0) (mBin oPowW (mVar 1) (mC (.int 2))))))) (mBin oMulA (mC (.int 452984832000000)) (mBin oAdd (mBin oPowW (mVar 0) (mC (.int 2))) (mBin oPowW (mVar 1) (mC (.int 2)))))) (mBin oMulA (mBin oMulA (mC (.int 770845966336000000)) (mVar 0)) (mVar 1))) (mBin oMulA (mC (.int 1855425871872000000000)) (mBin oAdd (mVar 0) (mVar 1)))))
def F_phi_by_3 : MF := mFun 2 2 b_phi_by_3
theorem ok_phi_by_3 (B : Blt K mg) {f : Addr} {fd : FuncData} (F : Fun K "phi_by_3" "phi_by_3" s_phi_by_3 f fd) : FnG P w K mg base CX0 1 f fd ["x", "y"] (spF K 2 F_phi_by_3) :=
  (fn_ok (b := b_phi_by_3) F sc_phi_by_3 rfl rfl fun cdv A outer s H E hr =>
    (bvs_one (bv_ret (ev_bin or_addAll p_add (ev_bin op_sub p_sub (ev_bin or_addAll p_add (ev_bin or_addAll p_add (ev_bin or_addAll p_add (ev_bin or_addAll p_add (ev_bin op_sub p_sub (ev_bin or_addAll p_add (ev_bin op_sub p_sub (ev_bin or_addAll p_add (ev_bin op_powW p_powW (ev_var 0) ev_int) (ev_bin op_powW p_powW (ev_var 1) ev_int)) (ev_bin or_mul p_mulA (ev_bin op_powW p_powW (ev_var 0) ev_int) (ev_bin op_powW p_powW (ev_var 1) ev_int))) (ev_bin or_mul p_mulA ev_int (ev_bin or_addAll p_add (ev_bin or_mul p_mulA (ev_bin op_powW p_powW (ev_var 0) ev_int) (ev_bin op_powW p_powW (ev_var 1) ev_int)) (ev_bin or_mul p_mulA (ev_bin op_powW p_powW (ev_var 0) ev_int) (ev_bin op_powW p_powW (ev_var 1) ev_int))))) (ev_bin or_mul p_mulA ev_int (ev_bin or_addAll p_add (ev_bin or_mul p_mulA (ev_bin op_powW p_powW (ev_var 0) ev_int) (ev_var 1)) (ev_bin or_mul p_mulA (ev_var 0) (ev_bin op_powW p_powW (ev_var 1) ev_int))))) (ev_bin or_mul p_mulA ev_int (ev_bin or_addAll p_add (ev_bin op_powW p_powW (ev_var 0) ev_int) (ev_bin op_powW p_powW (ev_var 1) ev_int)))) (ev_bin or_mul p_mulA (ev_bin or_mul p_mulA ev_int (ev_bin op_powW p_powW (ev_var 0) ev_int)) (ev_bin op_powW p_powW (ev_var 1) ev_int))) (ev_bin or_mul p_mulA ev_int (ev_bin or_addAll p_add (ev_bin or_mul p_mulA (ev_bin op_powW p_powW (ev_var 0) ev_int) (ev_var 1)) (ev_bin or_mul p_mulA (ev_var 0) (ev_bin op_powW p_powW (ev_var 1) ev_int))))) (ev_bin or_mul p_mulA ev_int (ev_bin or_addAll p_add (ev_bin op_powW p_powW (ev_var 0) ev_int) (ev_bin op_powW p_powW (ev_var 1) ev_int)))) (ev_bin or_mul p_mulA (ev_bin or_mul p_mulA ev_int (ev_var 0)) (ev_var 1))) (ev_bin or_mul p_mulA ev_int (ev_bin or_addAll p_add (ev_var 0) (ev_var 1)))))))
abbrev s_phi : Stmt := top 9
abbrev N_phi : List Str := ["step", "x", "y", "number"]
theorem sc_phi : FnScope ["step", "x", "y", "number"] ["step", "x", "y"] (defScope s_phi) := ⟨rfl, rfl, rfl, by decide +kernel, rfl, by decide +kernel, by decide +kernel⟩
def b_phi : MB :=
    (mSeq (mDrop (mCall 1 F_check_step (mCons (mVar 0) mNil)))
    (mSeq (mFor (iS (mTup (mCons (mVar 1) (mCons (mVar 2) mNil)))) (gN 3) (mIfS (mNot (mTru (mCall 1 F_is_whole (mCons (mVar 3) mNil)))) mNev mNx))
    (mRet (mIf (mTBin oEq (mVar 0) (mC (.int 2))) (mCall 2 F_phi_by_2 (mCons (mVar 1) (mCons (mVar 2) mNil))) (mCall 2 F_phi_by_3 (mCons (mVar 1) (mCons (mVar 2) mNil)))))))
def F_phi : MF := mFun 4 3 b_phi
theorem ok_phi (B : Blt K mg) {f : Addr} {fd : FuncData} (F : Fun K "phi" "phi" s_phi f fd) (d_check_step : Knows P w K mg base 3 "check_step" 1 F_check_step) (d_is_whole : Knows P w K mg base 1 "is_whole" 1 F_is_whole) (d_phi_by_2 : Knows P w K mg base 1 "phi_by_2" 2 F_phi_by_2) (d_phi_by_3 : Knows P w K mg base 1 "phi_by_3" 2 F_phi_by_3) : FnG P w K mg base CX0 4 f fd ["step", "x", "y"] (spF K 3 F_phi) :=
  (fn_ok (b := b_phi) F sc_phi rfl rfl fun cdv A outer s H E hr =>
    (bvs_cons (bv_expr (ev_def d_check_step (hr.mono (by decide)) (av_cons (ev_var 0) av_nil)))
    (bvs_cons (bv_for (iv_seq (ev_tup (av_cons (ev_var 1) (av_cons (ev_var 2) av_nil)))) (gv_name 3 sc_phi.nd) (bvs_one (bv_if (tv_not (tv_val (ev_def d_is_whole (hr.mono (by decide)) (av_cons (ev_var 3) av_nil)))) (bvs_one bv_never) bvs_nil)) rfl PassesOwn.never)
    (bvs_one (bv_ret (ev_if (tv_cmp (or_eq (hu hr)) p_eq (ev_var 0) ev_int (nomark _)) (ev_def d_phi_by_2 (hr.mono (by decide)) (av_cons (ev_var 1) (av_cons (ev_var 2) av_nil))) (ev_def d_phi_by_3 (hr.mono (by decide)) (av_cons (ev_var 1) (av_cons (ev_var 2) av_nil)))))))))
abbrev s__law_is : Stmt := top 16
abbrev N__law_is : List Str := ["told", "due"]
theorem sc__law_is : FnScope ["told", "due"] ["told", "due"] (defScope s__law_is) := ⟨rfl, rfl, rfl, by decide +kernel, rfl, by decide +kernel, by decide +kernel⟩
def b__law_is : MB :=
    (mRet (mBin (oB oEq) (mCB oReprB (mCons (mVar 0) mNil)) (mCB oReprB (mCons (mVar 1) mNil))))
def F__law_is : MF := mFun 2 2 b__law_is
theorem ok__law_is (B : Blt K mg) {f : Addr} {fd : FuncData} (F : Fun K "_law_is" "_law_is" s__law_is f fd) : FnG P w K mg base CX0 1 f fd ["told", "due"] (spF K 2 F__law_is) :=
  (fn_ok (b := b__law_is) F sc__law_is rfl rfl fun cdv A outer s H E hr =>
    (bvs_one (bv_ret (ev_cmp (or_eq (hu hr)) p_eq (ev_callB (call_reprB B.dg hr.g (hu hr)) c_reprB B.b_repr bt_repr (av_cons (ev_var 0) av_nil)) (ev_callB (call_reprB B.dg hr.g (hu hr)) c_reprB B.b_repr bt_repr (av_cons (ev_var 1) av_nil)) (nomark _)))))
abbrev s__law_phi : Stmt := top 17
abbrev N__law_phi : List Str := ["step", "x", "y", "s", "t", "found", "two"]
theorem sc__law_phi : FnScope ["step", "x", "y", "s", "t", "found", "two"] ["step", "x", "y"] (defScope s__law_phi) := ⟨rfl, rfl, rfl, by decide +kernel, rfl, by decide +kernel, by decide +kernel⟩
def b__law_phi : MB :=
    (mSeq (mPar 3 4 (mCons (mBin oAdd (mVar 1) (mVar 2)) (mCons (mBin oMulA (mVar 1) (mVar 2)) mNil)))
    (mSeq (mIfS (mTBin oEq (mVar 0) (mC (.int 2))) (mSeq (mAsg (mBin oAdd (mBin oSub (mBin oAdd (mBin oSub (mBin oSub (mBin oMulA (mBin oMulA (mVar 3) (mVar 3)) (mVar 3)) (mBin oMulA (mBin oMulA (mC (.int 3)) (mVar 3)) (mVar 4))) (mBin oMulA (mVar 4) (mVar 4))) (mBin oMulA (mBin oMulA (mC (.int 1488)) (mVar 3)) (mVar 4))) (mBin oMulA (mC (.int 162000)) (mBin oSub (mBin oMulA (mVar 3) (mVar 3)) (mBin oMulA (mC (.int 2)) (mVar 4))))) (mBin oMulA (mC (.int 40773375)) (mVar 4))) (gN 5))
    (mRet (mBin oSub (mBin oAdd (mVar 5) (mBin oMulA (mC (.int 8748000000)) (mVar 3))) (mC (.int 157464000000000))))) mNx)
    (mSeq (mAsg (mBin oSub (mBin oMulA (mVar 3) (mVar 3)) (mBin oMulA (mC (.int 2)) (mVar 4))) (gN 6))
    (mSeq (mAsg (mBin oSub (mBin oAdd (mBin oSub (mBin oSub (mBin oMulA (mVar 6) (mVar 6)) (mBin oMulA (mBin oMulA (mC (.int 2)) (mVar 4)) (mVar 4))) (mBin oMulA (mBin oMulA (mVar 4) (mVar 4)) (mVar 4))) (mBin oMulA (mBin oMulA (mBin oMulA (mC (.int 2232)) (mVar 3)) (mVar 4)) (mVar 4))) (mBin oMulA (mBin oMulA (mC (.int 1069956)) (mVar 6)) (mVar 4))) (gN 5))
    (mSeq (mAsg (mBin oAdd (mBin oAdd (mBin oAdd (mVar 5) (mBin oMulA (mC (.int 36864000)) (mBin oSub (mBin oMulA (mBin oMulA (mVar 3) (mVar 3)) (mVar 3)) (mBin oMulA (mBin oMulA (mC (.int 3)) (mVar 3)) (mVar 4))))) (mBin oMulA (mBin oMulA (mC (.int 2587918086)) (mVar 4)) (mVar 4))) (mBin oMulA (mBin oMulA (mC (.int 8900222976000)) (mVar 3)) (mVar 4))) (gN 5))
    (mRet (mBin oAdd (mBin oSub (mBin oAdd (mVar 5) (mBin oMulA (mC (.int 452984832000000)) (mVar 6))) (mBin oMulA (mC (.int 770845966336000000)) (mVar 4))) (mBin oMulA (mC (.int 1855425871872000000000)) (mVar 3)))))))))
def F__law_phi : MF := mFun 7 3 b__law_phi
theorem ok__law_phi (B : Blt K mg) {f : Addr} {fd : FuncData} (F : Fun K "_law_phi" "_law_phi" s__law_phi f fd) : FnG P w K mg base CX0 1 f fd ["step", "x", "y"] (spF K 3 F__law_phi) :=
  (fn_ok (b := b__law_phi) F sc__law_phi rfl rfl fun cdv A outer s H E hr =>
    (bvs_cons (bv_par 3 4 rfl sc__law_phi.nd (av_cons (ev_bin or_addAll p_add (ev_var 1) (ev_var 2)) (av_cons (ev_bin or_mul p_mulA (ev_var 1) (ev_var 2)) av_nil)))
    (bvs_cons (bv_if (tv_cmp (or_eq (hu hr)) p_eq (ev_var 0) ev_int (nomark _)) (bvs_cons (bv_set 5 sc__law_phi.nd (ev_bin or_addAll p_add (ev_bin op_sub p_sub (ev_bin or_addAll p_add (ev_bin op_sub p_sub (ev_bin op_sub p_sub (ev_bin or_mul p_mulA (ev_bin or_mul p_mulA (ev_var 3) (ev_var 3)) (ev_var 3)) (ev_bin or_mul p_mulA (ev_bin or_mul p_mulA ev_int (ev_var 3)) (ev_var 4))) (ev_bin or_mul p_mulA (ev_var 4) (ev_var 4))) (ev_bin or_mul p_mulA (ev_bin or_mul p_mulA ev_int (ev_var 3)) (ev_var 4))) (ev_bin or_mul p_mulA ev_int (ev_bin op_sub p_sub (ev_bin or_mul p_mulA (ev_var 3) (ev_var 3)) (ev_bin or_mul p_mulA ev_int (ev_var 4))))) (ev_bin or_mul p_mulA ev_int (ev_var 4))))
    (bvs_one (bv_ret (ev_bin op_sub p_sub (ev_bin or_addAll p_add (ev_var 5) (ev_bin or_mul p_mulA ev_int (ev_var 3))) ev_int)))) bvs_nil)
    (bvs_cons (bv_set 6 sc__law_phi.nd (ev_bin op_sub p_sub (ev_bin or_mul p_mulA (ev_var 3) (ev_var 3)) (ev_bin or_mul p_mulA ev_int (ev_var 4))))
    (bvs_cons (bv_set 5 sc__law_phi.nd (ev_bin op_sub p_sub (ev_bin or_addAll p_add (ev_bin op_sub p_sub (ev_bin op_sub p_sub (ev_bin or_mul p_mulA (ev_var 6) (ev_var 6)) (ev_bin or_mul p_mulA (ev_bin or_mul p_mulA ev_int (ev_var 4)) (ev_var 4))) (ev_bin or_mul p_mulA (ev_bin or_mul p_mulA (ev_var 4) (ev_var 4)) (ev_var 4))) (ev_bin or_mul p_mulA (ev_bin or_mul p_mulA (ev_bin or_mul p_mulA ev_int (ev_var 3)) (ev_var 4)) (ev_var 4))) (ev_bin or_mul p_mulA (ev_bin or_mul p_mulA ev_int (ev_var 6)) (ev_var 4))))
    (bvs_cons (bv_set 5 sc__law_phi.nd (ev_bin or_addAll p_add (ev_bin or_addAll p_add (ev_bin or_addAll p_add (ev_var 5) (ev_bin or_mul p_mulA ev_int (ev_bin op_sub p_sub (ev_bin or_mul p_mulA (ev_bin or_mul p_mulA (ev_var 3) (ev_var 3)) (ev_var 3)) (ev_bin or_mul p_mulA (ev_bin or_mul p_mulA ev_int (ev_var 3)) (ev_var 4))))) (ev_bin or_mul p_mulA (ev_bin or_mul p_mulA ev_int (ev_var 4)) (ev_var 4))) (ev_bin or_mul p_mulA (ev_bin or_mul p_mulA ev_int (ev_var 3)) (ev_var 4))))
    (bvs_one (bv_ret (ev_bin or_addAll p_add (ev_bin op_sub p_sub (ev_bin or_addAll p_add (ev_var 5) (ev_bin or_mul p_mulA ev_int (ev_var 6))) (ev_bin or_mul p_mulA ev_int (ev_var 4))) (ev_bin or_mul p_mulA ev_int (ev_var 3)))))))))))
abbrev s__law_pull : Stmt := top 14
abbrev N__law_pull : List Str := ["urn", "many", "figure", "mixed"]
theorem sc__law_pull : FnScope ["urn", "many", "figure", "mixed"] ["urn", "many"] (defScope s__law_pull) := ⟨rfl, rfl, rfl, by decide +kernel, rfl, by decide +kernel, by decide +kernel⟩
def b__law_pull : MB :=
    (mSeq (mIfS (mTBin cGt (mBin oIx (mVar 0) (mC (.int 0))) (mC (.int 0))) (mSeq (mAsg (mCB oDivmod (mCons (mBin oIx (mVar 0) (mC (.int 0))) (mCons (mVar 1) mNil))) (gT 2 (gsCons (gSubD (mVar 0) (mC (.int 0))) (gsCons (gN 2) gsNil))))
    (mRet (mVar 2))) mNx)
    (mSeq (mAsg (mBin oAdd (mBin oIx (mVar 0) (mC (.int 2))) (mC (.int 1))) (gSubD (mVar 0) (mC (.int 2))))
    (mSeq (mAsg (mBin oMod (mCB oInt (mCons (mBin oAdd (mBin oMulA (mBin oIx (mVar 0) (mC (.int 1))) (mC (.int 41023))) (mBin oMulA (mC (.int 60029)) (mBin oIx (mVar 0) (mC (.int 2))))) mNil)) (mC (.int 2147483399))) (gN 3))
    (mSeq (mAsg (mBin oMod (mCB oInt (mCons (mBin oAdd (mBin oMulA (mVar 3) (mBin oAdd (mBin oMod (mCB oInt (mCons (mVar 3) mNil)) (mC (.int 5011))) (mC (.int 20029)))) (mBin oMulA (mC (.int 41)) (mBin oIx (mVar 0) (mC (.int 2))))) mNil)) (mC (.int 2147483399))) (gSubD (mVar 0) (mC (.int 1))))
    (mRet (mBin oMod (mCB oInt (mCons (mBin oDiv (mBin oIx (mVar 0) (mC (.int 1))) (mC (.int 739))) mNil)) (mVar 1)))))))
def F__law_pull : MF := mFun 4 2 b__law_pull
theorem ok__law_pull (B : Blt K mg) {f : Addr} {fd : FuncData} (F : Fun K "_law_pull" "_law_pull" s__law_pull f fd) : FnG P w K mg base CX0 1 f fd ["urn", "many"] (spF K 2 F__law_pull) :=
  (fn_ok (b := b__law_pull) F sc__law_pull rfl rfl fun cdv A outer s H E hr =>
    (bvs_cons (bv_if (tv_cmp op_gt (p_cI (p := fun i j => decide (j < i))) (ev_ix (ev_var 0) ev_int) ev_int (nomark _)) (bvs_cons (bv_asg (ev_callB call_dm c_dm B.b_divmod bt_divmod (av_cons (ev_ix (ev_var 0) ev_int) (av_cons (ev_var 1) av_nil))) (gv_tup rfl (gvs_cons (gv_sub (ev_var 0) ev_int) (gvs_cons (gv_name 2 sc__law_pull.nd) gvs_nil))))
    (bvs_one (bv_ret (ev_var 2)))) bvs_nil)
    (bvs_cons (bv_asg (ev_bin or_addAll p_add (ev_ix (ev_var 0) ev_int) ev_int) (gv_sub (ev_var 0) ev_int))
    (bvs_cons (bv_set 3 sc__law_pull.nd (ev_bin op_mod p_mod (ev_callTy call_int1 c_int B.b_int bt_int (av_cons (ev_bin or_addAll p_add (ev_bin or_mul p_mulA (ev_ix (ev_var 0) ev_int) ev_int) (ev_bin or_mul p_mulA ev_int (ev_ix (ev_var 0) ev_int))) av_nil)) ev_int))
    (bvs_cons (bv_asg (ev_bin op_mod p_mod (ev_callTy call_int1 c_int B.b_int bt_int (av_cons (ev_bin or_addAll p_add (ev_bin or_mul p_mulA (ev_var 3) (ev_bin or_addAll p_add (ev_bin op_mod p_mod (ev_callTy call_int1 c_int B.b_int bt_int (av_cons (ev_var 3) av_nil)) ev_int) ev_int)) (ev_bin or_mul p_mulA ev_int (ev_ix (ev_var 0) ev_int))) av_nil)) ev_int) (gv_sub (ev_var 0) ev_int))
    (bvs_one (bv_ret (ev_bin op_mod p_mod (ev_callTy call_int1 c_int B.b_int bt_int (av_cons (ev_bin op_fdivW p_div (ev_ix (ev_var 0) ev_int) ev_int) av_nil)) (ev_var 1)))))))))
abbrev s__law_one : Stmt := top 15
abbrev N__law_one : List Str := ["urn", "some"]
theorem sc__law_one : FnScope ["urn", "some"] ["urn", "some"] (defScope s__law_one) := ⟨rfl, rfl, rfl, by decide +kernel, rfl, by decide +kernel, by decide +kernel⟩
def b__law_one : MB :=
    (mRet (mBin oIx (mVar 1) (mCall 2 F__law_pull (mCons (mVar 0) (mCons (mCB oLen (mCons (mVar 1) mNil)) mNil)))))
def F__law_one : MF := mFun 2 2 b__law_one
theorem ok__law_one (B : Blt K mg) {f : Addr} {fd : FuncData} (F : Fun K "_law_one" "_law_one" s__law_one f fd) (d__law_pull : Knows P w K mg base 1 "_law_pull" 2 F__law_pull) : FnG P w K mg base CX0 2 f fd ["urn", "some"] (spF K 2 F__law_one) :=
  (fn_ok (b := b__law_one) F sc__law_one rfl rfl fun cdv A outer s H E hr =>
    (bvs_one (bv_ret (ev_ix (ev_var 1) (ev_def d__law_pull (hr.mono (by decide)) (av_cons (ev_var 0) (av_cons (ev_callB call_len c_len B.b_len bt_len (av_cons (ev_var 1) av_nil)) av_nil)))))))
abbrev s__law_number : Stmt := top 18
abbrev N__law_number : List Str := ["urn", "way", "far"]
theorem sc__law_number : FnScope ["urn", "way", "far"] ["urn"] (defScope s__law_number) := ⟨rfl, rfl, rfl, by decide +kernel, rfl, by decide +kernel, by decide +kernel⟩
def b__law_number : MB :=
    (mSeq (mAsg (mCall 2 F__law_pull (mCons (mVar 0) (mCons (mC (.int 5)) mNil))) (gN 1))
    (mSeq (mIfS (mTBin oEq (mVar 1) (mC (.int 0))) (mRet (mCall 2 F__law_one (mCons (mVar 0) (mCons (mTup (mCons (mC (.int 0)) (mCons (mC (.int 1728)) (mCons (mUn oNeg (mC (.int 3375))) (mCons (mC (.int 8000)) (mCons (mUn oNeg (mC (.int 32768))) (mCons (mC (.int 54000)) (mCons (mC (.int 287496)) (mCons (mUn oNeg (mC (.int 12288000))) (mCons (mC (.int 16581375)) mNil)))))))))) mNil)))) mNx)
    (mSeq (mIfS (mTBin oEq (mVar 1) (mC (.int 1))) (mRet (mBin oSub (mCall 2 F__law_pull (mCons (mVar 0) (mCons (mC (.int 41)) mNil))) (mC (.int 20)))) mNx)
    (mSeq (mIfS (mTBin oEq (mVar 1) (mC (.int 2))) (mRet (mBin oMulA (mCall 2 F__law_one (mCons (mVar 0) (mCons (mTup (mCons (mC (.int 1)) (mCons (mUn oNeg (mC (.int 1))) mNil))) mNil))) (mBin oAdd (mCall 2 F__law_pull (mCons (mVar 0) (mCons (mBin oPow (mC (.int 10)) (mC (.int 9))) mNil))) (mBin oMulA (mBin oPow (mC (.int 10)) (mC (.int 12))) (mCall 2 F__law_pull (mCons (mVar 0) (mCons (mBin oPow (mC (.int 10)) (mC (.int 9))) mNil))))))) mNx)
    (mSeq (mIfS (mTBin oEq (mVar 1) (mC (.int 3))) (mSeq (mAsg (mBin oMulA (mBin oMulA (mCall 2 F__law_one (mCons (mVar 0) (mCons (mTup (mCons (mBin oPow (mC (.int 10)) (mC (.int 50))) (mCons (mBin oAdd (mBin oPow (mC (.int 10)) (mC (.int 49))) (mC (.int 7))) mNil))) mNil))) (mBin oAdd (mC (.int 1)) (mCall 2 F__law_pull (mCons (mVar 0) (mCons (mBin oPow (mC (.int 10)) (mC (.int 9))) mNil))))) (mBin oPow (mC (.int 10)) (mC (.int 40)))) (gN 2))
    (mRet (mCall 2 F__law_one (mCons (mVar 0) (mCons (mTup (mCons (mVar 2) (mCons (mBin oSub (mC (.int 0)) (mVar 2)) mNil))) mNil))))) mNx)
    (mRet (mBin oSub (mCall 2 F__law_pull (mCons (mVar 0) (mCons (mC (.int 4001)) mNil))) (mC (.int 2000)))))))))
def F__law_number : MF := mFun 3 1 b__law_number
theorem ok__law_number (B : Blt K mg) {f : Addr} {fd : FuncData} (F : Fun K "_law_number" "_law_number" s__law_number f fd) (d__law_one : Knows P w K mg base 2 "_law_one" 2 F__law_one) (d__law_pull : Knows P w K mg base 1 "_law_pull" 2 F__law_pull) : FnG P w K mg base CX0 3 f fd ["urn"] (spF K 1 F__law_number) :=
  (fn_ok (b := b__law_number) F sc__law_number rfl rfl fun cdv A outer s H E hr =>
    (bvs_cons (bv_set 1 sc__law_number.nd (ev_def d__law_pull (hr.mono (by decide)) (av_cons (ev_var 0) (av_cons ev_int av_nil))))
    (bvs_cons (bv_if (tv_cmp (or_eq (hu hr)) p_eq (ev_var 1) ev_int (nomark _)) (bvs_one (bv_ret (ev_def d__law_one (hr.mono (by decide)) (av_cons (ev_var 0) (av_cons (ev_tup (av_cons ev_int (av_cons ev_int (av_cons (ev_un un_neg p_neg ev_int) (av_cons ev_int (av_cons (ev_un un_neg p_neg ev_int) (av_cons ev_int (av_cons ev_int (av_cons (ev_un un_neg p_neg ev_int) (av_cons ev_int av_nil)))))))))) av_nil))))) bvs_nil)
    (bvs_cons (bv_if (tv_cmp (or_eq (hu hr)) p_eq (ev_var 1) ev_int (nomark _)) (bvs_one (bv_ret (ev_bin op_sub p_sub (ev_def d__law_pull (hr.mono (by decide)) (av_cons (ev_var 0) (av_cons ev_int av_nil))) ev_int))) bvs_nil)
    (bvs_cons (bv_if (tv_cmp (or_eq (hu hr)) p_eq (ev_var 1) ev_int (nomark _)) (bvs_one (bv_ret (ev_bin or_mul p_mulA (ev_def d__law_one (hr.mono (by decide)) (av_cons (ev_var 0) (av_cons (ev_tup (av_cons ev_int (av_cons (ev_un un_neg p_neg ev_int) av_nil))) av_nil))) (ev_bin or_addAll p_add (ev_def d__law_pull (hr.mono (by decide)) (av_cons (ev_var 0) (av_cons (ev_bin op_pow p_pow ev_int ev_int) av_nil))) (ev_bin or_mul p_mulA (ev_bin op_pow p_pow ev_int ev_int) (ev_def d__law_pull (hr.mono (by decide)) (av_cons (ev_var 0) (av_cons (ev_bin op_pow p_pow ev_int ev_int) av_nil)))))))) bvs_nil)
    (bvs_cons (bv_if (tv_cmp (or_eq (hu hr)) p_eq (ev_var 1) ev_int (nomark _)) (bvs_cons (bv_set 2 sc__law_number.nd (ev_bin or_mul p_mulA (ev_bin or_mul p_mulA (ev_def d__law_one (hr.mono (by decide)) (av_cons (ev_var 0) (av_cons (ev_tup (av_cons (ev_bin op_pow p_pow ev_int ev_int) (av_cons (ev_bin or_addAll p_add (ev_bin op_pow p_pow ev_int ev_int) ev_int) av_nil))) av_nil))) (ev_bin or_addAll p_add ev_int (ev_def d__law_pull (hr.mono (by decide)) (av_cons (ev_var 0) (av_cons (ev_bin op_pow p_pow ev_int ev_int) av_nil))))) (ev_bin op_pow p_pow ev_int ev_int)))
    (bvs_one (bv_ret (ev_def d__law_one (hr.mono (by decide)) (av_cons (ev_var 0) (av_cons (ev_tup (av_cons (ev_var 2) (av_cons (ev_bin op_sub p_sub ev_int (ev_var 2)) av_nil))) av_nil)))))) bvs_nil)
    (bvs_one (bv_ret (ev_bin op_sub p_sub (ev_def d__law_pull (hr.mono (by decide)) (av_cons (ev_var 0) (av_cons ev_int av_nil))) ev_int)))))))))
abbrev s__law_right : Stmt := top 19
abbrev N__law_right : List Str := ["urn", "turn", "x", "y", "step", "due", "one", "two", "told"]
theorem sc__law_right : FnScope ["urn", "turn", "x", "y", "step", "due", "one", "two", "told"] ["urn"] (defScope s__law_right) := ⟨rfl, rfl, rfl, by decide +kernel, rfl, by decide +kernel, by decide +kernel⟩
def b__law_right : MB :=
    (mSeq (mFor (iR1 (mCons (mC (.int 5)) mNil)) (gN 1) (mSeq (mPar3 2 3 4 (mCons (mCall 1 F__law_number (mCons (mVar 0) mNil)) (mCons (mCall 1 F__law_number (mCons (mVar 0) mNil)) (mCons (mCall 2 F__law_one (mCons (mVar 0) (mCons (mTup (mCons (mC (.int 2)) (mCons (mC (.int 3)) mNil))) mNil))) mNil))))
    (mSeq (mAsg (mCall 3 F__law_phi (mCons (mVar 4) (mCons (mVar 2) (mCons (mVar 3) mNil)))) (gN 5))
    (mSeq (mIfS (mNot (mTru (mCall 2 F__law_is (mCons (mLst (mCons (mCall 3 F_phi (mCons (mVar 4) (mCons (mVar 2) (mCons (mVar 3) mNil)))) (mCons (mCall 3 F_phi (mCons (mVar 4) (mCons (mVar 3) (mCons (mVar 2) mNil)))) (mCons (mCallK 3 (permK [2, 1, 0]) F_phi mNil (mCons (mVar 3) (mCons (mVar 2) (mCons (mVar 4) mNil)))) mNil)))) (mCons (mBin oMulA (mLst (mCons (mVar 5) mNil)) (mC (.int 3))) mNil))))) (mRet (mC (.bl false))) mNx)
    (mSeq (mAsg (mIf (mTBin oEq (mVar 4) (mC (.int 2))) (mTup (mCons (mBin oSub (mBin oMulA (mVar 2) (mVar 2)) (mVar 3)) (mCons (mBin oSub (mVar 2) (mBin oMulA (mVar 3) (mVar 3))) mNil))) (mTup (mCons (mBin oSub (mBin oMulA (mBin oMulA (mVar 2) (mVar 2)) (mVar 2)) (mVar 3)) (mCons (mBin oSub (mVar 2) (mBin oMulA (mBin oMulA (mVar 3) (mVar 3)) (mVar 3))) mNil)))) (gT 2 (gsCons (gN 6) (gsCons (gN 7) gsNil))))
    (mIfS (mTBin oNe (mBin oMod (mCB oInt (mCons (mBin oSub (mVar 5) (mBin oMulA (mVar 6) (mVar 7))) mNil)) (mVar 4)) (mC (.int 0))) (mRet (mC (.bl false))) mNx))))))
    (mSeq (mAsg (mLst (mCons (mCall 3 F_phi (mCons (mC (.int 2)) (mCons (mC (.int 1728)) (mCons (mC (.int 287496)) mNil)))) (mCons (mCall 3 F_phi (mCons (mC (.int 2)) (mCons (mC (.int 54000)) (mCons (mC (.int 0)) mNil)))) (mCons (mCall 3 F_phi (mCons (mC (.int 2)) (mCons (mC (.int 8000)) (mCons (mC (.int 8000)) mNil)))) (mCons (mCall 3 F_phi (mCons (mC (.int 2)) (mCons (mUn oNeg (mC (.int 3375))) (mCons (mC (.int 16581375)) mNil)))) mNil))))) (gN 8))
    (mSeq (mAsg (mBin oAdd (mVar 8) (mLst (mCons (mCall 3 F_phi (mCons (mC (.int 3)) (mCons (mC (.int 0)) (mCons (mUn oNeg (mC (.int 12288000))) mNil)))) (mCons (mCall 3 F_phi (mCons (mC (.int 3)) (mCons (mC (.int 8000)) (mCons (mC (.int 8000)) mNil)))) (mCons (mCall 3 F_phi (mCons (mC (.int 3)) (mCons (mUn oNeg (mC (.int 32768))) (mCons (mUn oNeg (mC (.int 32768))) mNil)))) (mCons (mCall 3 F_phi (mCons (mC (.int 3)) (mCons (mC (.int 54000)) (mCons (mC (.int 54000)) mNil)))) mNil)))))) (gN 8))
    (mRet (mCall 2 F__law_is (mCons (mVar 8) (mCons (mBin oMulA (mLst (mCons (mC (.int 0)) mNil)) (mC (.int 8))) mNil)))))))
def F__law_right : MF := mFun 9 1 b__law_right
theorem ok__law_right (B : Blt K mg) {f : Addr} {fd : FuncData} (F : Fun K "_law_right" "_law_right" s__law_right f fd) (d__law_is : Knows P w K mg base 1 "_law_is" 2 F__law_is) (d__law_number : Knows P w K mg base 3 "_law_number" 1 F__law_number) (d__law_one : Knows P w K mg base 2 "_law_one" 2 F__law_one) (d__law_phi : Knows P w K mg base 1 "_law_phi" 3 F__law_phi) (d_phi : Knows P w K mg base 4 "phi" 3 F_phi) (k_phi_2_1_0 : KnowsK P w K mg base 4 "phi" 3 F_phi ["y", "x", "step"] [2, 1, 0]) : FnG P w K mg base CX0 5 f fd ["urn"] (spF K 1 F__law_right) :=
  (fn_ok (b := b__law_right) F sc__law_right rfl rfl fun cdv A outer s H E hr =>
    (bvs_cons (bv_for (iv_range1 B.b_range (av_cons ev_int av_nil)) (gv_name 1 sc__law_right.nd) (bvs_cons (bv_par3 2 3 4 rfl sc__law_right.nd (av_cons (ev_def d__law_number (hr.mono (by decide)) (av_cons (ev_var 0) av_nil)) (av_cons (ev_def d__law_number (hr.mono (by decide)) (av_cons (ev_var 0) av_nil)) (av_cons (ev_def d__law_one (hr.mono (by decide)) (av_cons (ev_var 0) (av_cons (ev_tup (av_cons ev_int (av_cons ev_int av_nil))) av_nil))) av_nil))))
    (bvs_cons (bv_set 5 sc__law_right.nd (ev_def d__law_phi (hr.mono (by decide)) (av_cons (ev_var 4) (av_cons (ev_var 2) (av_cons (ev_var 3) av_nil)))))
    (bvs_cons (bv_if (tv_not (tv_val (ev_def d__law_is (hr.mono (by decide)) (av_cons (ev_lst (av_cons (ev_def d_phi (hr.mono (by decide)) (av_cons (ev_var 4) (av_cons (ev_var 2) (av_cons (ev_var 3) av_nil)))) (av_cons (ev_def d_phi (hr.mono (by decide)) (av_cons (ev_var 4) (av_cons (ev_var 3) (av_cons (ev_var 2) av_nil)))) (av_cons (ev_defK k_phi_2_1_0 (hr.mono (by decide)) (kv_cons (ev_var 3) (kv_cons (ev_var 2) (kv_cons (ev_var 4) kv_nil)))) av_nil)))) (av_cons (ev_bin or_mul p_mulA (ev_lst (av_cons (ev_var 5) av_nil)) ev_int) av_nil))))) (bvs_one (bv_ret ev_bl)) bvs_nil)
    (bvs_cons (bv_asg (ev_if (tv_cmp (or_eq (hu hr)) p_eq (ev_var 4) ev_int (nomark _)) (ev_tup (av_cons (ev_bin op_sub p_sub (ev_bin or_mul p_mulA (ev_var 2) (ev_var 2)) (ev_var 3)) (av_cons (ev_bin op_sub p_sub (ev_var 2) (ev_bin or_mul p_mulA (ev_var 3) (ev_var 3))) av_nil))) (ev_tup (av_cons (ev_bin op_sub p_sub (ev_bin or_mul p_mulA (ev_bin or_mul p_mulA (ev_var 2) (ev_var 2)) (ev_var 2)) (ev_var 3)) (av_cons (ev_bin op_sub p_sub (ev_var 2) (ev_bin or_mul p_mulA (ev_bin or_mul p_mulA (ev_var 3) (ev_var 3)) (ev_var 3))) av_nil)))) (gv_tup rfl (gvs_cons (gv_name 6 sc__law_right.nd) (gvs_cons (gv_name 7 sc__law_right.nd) gvs_nil))))
    (bvs_one (bv_if (tv_cmp (or_ne (hu hr)) p_ne (ev_bin op_mod p_mod (ev_callTy call_int1 c_int B.b_int bt_int (av_cons (ev_bin op_sub p_sub (ev_var 5) (ev_bin or_mul p_mulA (ev_var 6) (ev_var 7))) av_nil)) (ev_var 4)) ev_int (nomark _)) (bvs_one (bv_ret ev_bl)) bvs_nil)))))) rfl PassesOwn.never)
    (bvs_cons (bv_set 8 sc__law_right.nd (ev_lst (av_cons (ev_def d_phi (hr.mono (by decide)) (av_cons ev_int (av_cons ev_int (av_cons ev_int av_nil)))) (av_cons (ev_def d_phi (hr.mono (by decide)) (av_cons ev_int (av_cons ev_int (av_cons ev_int av_nil)))) (av_cons (ev_def d_phi (hr.mono (by decide)) (av_cons ev_int (av_cons ev_int (av_cons ev_int av_nil)))) (av_cons (ev_def d_phi (hr.mono (by decide)) (av_cons ev_int (av_cons (ev_un un_neg p_neg ev_int) (av_cons ev_int av_nil)))) av_nil))))))
    (bvs_cons (bv_set 8 sc__law_right.nd (ev_bin or_addAll p_add (ev_var 8) (ev_lst (av_cons (ev_def d_phi (hr.mono (by decide)) (av_cons ev_int (av_cons ev_int (av_cons (ev_un un_neg p_neg ev_int) av_nil)))) (av_cons (ev_def d_phi (hr.mono (by decide)) (av_cons ev_int (av_cons ev_int (av_cons ev_int av_nil)))) (av_cons (ev_def d_phi (hr.mono (by decide)) (av_cons ev_int (av_cons (ev_un un_neg p_neg ev_int) (av_cons (ev_un un_neg p_neg ev_int) av_nil)))) (av_cons (ev_def d_phi (hr.mono (by decide)) (av_cons ev_int (av_cons ev_int (av_cons ev_int av_nil)))) av_nil)))))))
    (bvs_one (bv_ret (ev_def d__law_is (hr.mono (by decide)) (av_cons (ev_var 8) (av_cons (ev_bin or_mul p_mulA (ev_lst (av_cons ev_int av_nil)) ev_int) av_nil)))))))))
abbrev s__law_urn : Stmt := top 13
abbrev N__law_urn : List Str := ["script", "turn", "mixed", "cell", "own"]
theorem sc__law_urn : FnScope ["script", "turn", "mixed", "cell", "own"] ["script", "turn"] (defScope s__law_urn) := ⟨rfl, rfl, rfl, by decide +kernel, rfl, by decide +kernel, by decide +kernel⟩
def b__law_urn : MB :=
    (mSeq (mAsg (mBin oAdd (mC (.int 910031)) (mBin oMulA (mC (.int 8581)) (mVar 1))) (gN 2))
    (mSeq (mFor (iS (mSl (mVar 0) mNo (mSo (mC (.int 10))))) (gN 3) (mAsg (mBin oMod (mCB oInt (mCons (mBin oAdd (mBin oAdd (mBin oMulA (mVar 2) (mC (.int 46099))) (mBin oMulA (mBin oMod (mCB oInt (mCons (mVar 3) mNil)) (mC (.int 2147483399))) (mC (.int 7)))) (mC (.int 29))) mNil)) (mC (.int 2147483399))) (gN 2)))
    (mSeq (mAsg (mIf (mTBin cLt (mVar 1) (mCB oLen (mCons (mVar 0) mNil))) (mCB oInt (mCons (mBin oIx (mVar 0) (mVar 1)) mNil)) (mC (.int 0))) (gN 4))
    (mSeq (mAsg (mBin oMod (mCB oInt (mCons (mBin oAdd (mBin oAdd (mBin oMulA (mVar 2) (mC (.int 59))) (mBin oMulA (mBin oMod (mCB oInt (mCons (mVar 4) mNil)) (mC (.int 2147483399))) (mC (.int 20021)))) (mC (.int 11))) mNil)) (mC (.int 2147483399))) (gN 2))
    (mRet (mLstC (mCons (mIf (mOr (mTBin cLt (mVar 4) (mC (.int 0))) (mTBin cGe (mVar 4) (mBin oPow (mC (.int 10)) (mC (.int 15))))) (mCB oAbs (mCons (mVar 4) mNil)) (mC (.int 0))) (mCons (mVar 2) (mCons (mC (.int 0)) mNil)))))))))
def F__law_urn : MF := mFun 5 2 b__law_urn
theorem ok__law_urn (B : Blt K mg) {f : Addr} {fd : FuncData} (F : Fun K "_law_urn" "_law_urn" s__law_urn f fd) : FnG P w K mg base CX0 1 f fd ["script", "turn"] (spF K 2 F__law_urn) :=
  (fn_ok (b := b__law_urn) F sc__law_urn rfl rfl fun cdv A outer s H E hr =>
    (bvs_cons (bv_set 2 sc__law_urn.nd (ev_bin or_addAll p_add ev_int (ev_bin or_mul p_mulA ev_int (ev_var 1))))
    (bvs_cons (bv_for (iv_seq (ev_slice (ev_var 0) ov_no (ov_so ev_int))) (gv_name 3 sc__law_urn.nd) (bvs_one (bv_set 2 sc__law_urn.nd (ev_bin op_mod p_mod (ev_callTy call_int1 c_int B.b_int bt_int (av_cons (ev_bin or_addAll p_add (ev_bin or_addAll p_add (ev_bin or_mul p_mulA (ev_var 2) ev_int) (ev_bin or_mul p_mulA (ev_bin op_mod p_mod (ev_callTy call_int1 c_int B.b_int bt_int (av_cons (ev_var 3) av_nil)) ev_int) ev_int)) ev_int) av_nil)) ev_int))) rfl PassesOwn.never)
    (bvs_cons (bv_set 4 sc__law_urn.nd (ev_if (tv_cmp op_lt (p_cI (p := fun i j => decide (i < j))) (ev_var 1) (ev_callB call_len c_len B.b_len bt_len (av_cons (ev_var 0) av_nil)) (nomark _)) (ev_callTy call_int1 c_int B.b_int bt_int (av_cons (ev_ix (ev_var 0) (ev_var 1)) av_nil)) ev_int))
    (bvs_cons (bv_set 2 sc__law_urn.nd (ev_bin op_mod p_mod (ev_callTy call_int1 c_int B.b_int bt_int (av_cons (ev_bin or_addAll p_add (ev_bin or_addAll p_add (ev_bin or_mul p_mulA (ev_var 2) ev_int) (ev_bin or_mul p_mulA (ev_bin op_mod p_mod (ev_callTy call_int1 c_int B.b_int bt_int (av_cons (ev_var 4) av_nil)) ev_int) ev_int)) ev_int) av_nil)) ev_int))
    (bvs_one (bv_ret (ev_lstC (av_cons (ev_if (tv_pw (wv_or (tv_cmp op_lt (p_cI (p := fun i j => decide (i < j))) (ev_var 4) ev_int (nomark _)) (wv_or1 (tv_cmp op_ge (p_cI (p := fun i j => decide (j ≤ i))) (ev_var 4) (ev_bin op_pow p_pow ev_int ev_int) (nomark _))))) (ev_callB call_abs c_abs B.b_abs bt_abs (av_cons (ev_var 4) av_nil)) ev_int) (av_cons (ev_var 2) (av_cons ev_int av_nil)))))))))))
abbrev s_law : Stmt := top 20
abbrev N_law : List Str := ["script", "turn"]
theorem sc_law : FnScope ["script", "turn"] ["script"] (defScope s_law) := ⟨rfl, rfl, rfl, by decide +kernel, rfl, by decide +kernel, by decide +kernel⟩
def b_law : MB :=
    (mSeq (mFor (iR1 (mCons (mCB oMax2 (mCons (mC (.int 2)) (mCons (mCB oMin2 (mCons (mCB oLen (mCons (mVar 0) mNil)) (mCons (mC (.int 6)) mNil))) mNil))) mNil)) (gN 1) (mIfS (mNot (mTru (mCall 1 F__law_right (mCons (mCall 2 F__law_urn (mCons (mVar 0) (mCons (mVar 1) mNil))) mNil)))) (mRet (mC (.bl false))) mNx))
    (mRet (mC (.bl true))))
def F_law : MF := mFun 2 1 b_law
theorem ok_law (B : Blt K mg) {f : Addr} {fd : FuncData} (F : Fun K "law" "law" s_law f fd) (d__law_right : Knows P w K mg base 5 "_law_right" 1 F__law_right) (d__law_urn : Knows P w K mg base 1 "_law_urn" 2 F__law_urn) : FnG P w K mg base CX0 6 f fd ["script"] (spF K 1 F_law) :=
  (fn_ok (b := b_law) F sc_law rfl rfl fun cdv A outer s H E hr =>
    (bvs_cons (bv_for (iv_range1 B.b_range (av_cons (ev_callB (call_max2 rfl) c_max2 B.b_max bt_max (av_cons ev_int (av_cons (ev_callB (call_min2 rfl) c_min2 B.b_min bt_min (av_cons (ev_callB call_len c_len B.b_len bt_len (av_cons (ev_var 0) av_nil)) (av_cons ev_int av_nil))) av_nil))) av_nil)) (gv_name 1 sc_law.nd) (bvs_one (bv_if (tv_not (tv_val (ev_def d__law_right (hr.mono (by decide)) (av_cons (ev_def d__law_urn (hr.mono (by decide)) (av_cons (ev_var 0) (av_cons (ev_var 1) av_nil))) av_nil)))) (bvs_one (bv_ret ev_bl)) bvs_nil)) rfl PassesOwn.never)
    (bvs_one (bv_ret ev_bl))))
end
structure Top (K : PySem.W.Frag) (mg : Str → Option Value) : Prop where
  B : Blt K mg
  t_is_whole : Stands K mg "is_whole" s_is_whole
  t_is_whole_between : Stands K mg "is_whole_between" s_is_whole_between
  t_check_step : Stands K mg "check_step" s_check_step
  t_phi_by_2 : Stands K mg "phi_by_2" s_phi_by_2
  t_phi_by_3 : Stands K mg "phi_by_3" s_phi_by_3
  t_phi : Stands K mg "phi" s_phi
  t__law_is : Stands K mg "_law_is" s__law_is
  t__law_phi : Stands K mg "_law_phi" s__law_phi
  t__law_pull : Stands K mg "_law_pull" s__law_pull
  t__law_one : Stands K mg "_law_one" s__law_one
  t__law_number : Stands K mg "_law_number" s__law_number
  t__law_right : Stands K mg "_law_right" s__law_right
  t__law_urn : Stands K mg "_law_urn" s__law_urn
  t_law : Stands K mg "law" s_law
structure All (P : Program) (w : World) (K : PySem.W.Frag) (mg : Str → Option Value) (base : Heap) : Prop where
  d_is_whole : Knows P w K mg base 1 "is_whole" 1 F_is_whole
  d_is_whole_between : Knows P w K mg base 2 "is_whole_between" 3 F_is_whole_between
  d_check_step : Knows P w K mg base 3 "check_step" 1 F_check_step
  d_phi_by_2 : Knows P w K mg base 1 "phi_by_2" 2 F_phi_by_2
  d_phi_by_3 : Knows P w K mg base 1 "phi_by_3" 2 F_phi_by_3
  d_phi : Knows P w K mg base 4 "phi" 3 F_phi
  k_phi_2_1_0 : KnowsK P w K mg base 4 "phi" 3 F_phi ["y", "x", "step"] [2, 1, 0]
  d__law_is : Knows P w K mg base 1 "_law_is" 2 F__law_is
  d__law_phi : Knows P w K mg base 1 "_law_phi" 3 F__law_phi
  d__law_pull : Knows P w K mg base 1 "_law_pull" 2 F__law_pull
  d__law_one : Knows P w K mg base 2 "_law_one" 2 F__law_one
  d__law_number : Knows P w K mg base 3 "_law_number" 1 F__law_number
  d__law_right : Knows P w K mg base 5 "_law_right" 1 F__law_right
  d__law_urn : Knows P w K mg base 1 "_law_urn" 2 F__law_urn
  d_law : Knows P w K mg base 6 "law" 1 F_law
theorem all {P : Program} {w : World} {K : PySem.W.Frag} {mg : Str → Option Value} {base : Heap} (T : Top K mg) : All P w K mg base := by
  obtain ⟨f, fd, F, m⟩ := T.t_is_whole.ex
  have g := ok_is_whole (P := P) (w := w) (base := base) T.B F
  have d_is_whole : Knows P w K mg base 1 "is_whole" 1 F_is_whole := ⟨f, fd, _, rfl, g, m, F.kp, F.binds fun _ _ _ _ _ _ us hl => match us, hl with | [_], _ => rfl⟩
  clear g F m f fd
  obtain ⟨f, fd, F, m⟩ := T.t_is_whole_between.ex
  have g := ok_is_whole_between (P := P) (w := w) (base := base) T.B F d_is_whole
  have d_is_whole_between : Knows P w K mg base 2 "is_whole_between" 3 F_is_whole_between := ⟨f, fd, _, rfl, g, m, F.kp, F.binds fun _ _ _ _ _ _ us hl => match us, hl with | [_, _, _], _ => rfl⟩
  clear g F m f fd
  obtain ⟨f, fd, F, m⟩ := T.t_check_step.ex
  have g := ok_check_step (P := P) (w := w) (base := base) T.B F d_is_whole_between
  have d_check_step : Knows P w K mg base 3 "check_step" 1 F_check_step := ⟨f, fd, _, rfl, g, m, F.kp, F.binds fun _ _ _ _ _ _ us hl => match us, hl with | [_], _ => rfl⟩
  clear g F m f fd
  obtain ⟨f, fd, F, m⟩ := T.t_phi_by_2.ex
  have g := ok_phi_by_2 (P := P) (w := w) (base := base) T.B F
  have d_phi_by_2 : Knows P w K mg base 1 "phi_by_2" 2 F_phi_by_2 := ⟨f, fd, _, rfl, g, m, F.kp, F.binds fun _ _ _ _ _ _ us hl => match us, hl with | [_, _], _ => rfl⟩
  clear g F m f fd
  obtain ⟨f, fd, F, m⟩ := T.t_phi_by_3.ex
  have g := ok_phi_by_3 (P := P) (w := w) (base := base) T.B F
  have d_phi_by_3 : Knows P w K mg base 1 "phi_by_3" 2 F_phi_by_3 := ⟨f, fd, _, rfl, g, m, F.kp, F.binds fun _ _ _ _ _ _ us hl => match us, hl with | [_, _], _ => rfl⟩
  clear g F m f fd
  obtain ⟨f, fd, F, m⟩ := T.t_phi.ex
  have g := ok_phi (P := P) (w := w) (base := base) T.B F d_check_step d_is_whole d_phi_by_2 d_phi_by_3
  have d_phi : Knows P w K mg base 4 "phi" 3 F_phi := ⟨f, fd, _, rfl, g, m, F.kp, F.binds fun _ _ _ _ _ _ us hl => match us, hl with | [_, _, _], _ => rfl⟩
  have k_phi_2_1_0 : KnowsK P w K mg base 4 "phi" 3 F_phi ["y", "x", "step"] [2, 1, 0] := by
    refine ⟨f, fd, _, rfl, g, m, F.kp, fun s us ws X hl => ?_, perm_rel _⟩
    obtain ⟨oc, od, kV, doc, pm, an, cdv, ct, osl, rfl, lk, hcd⟩ := F.ex
    obtain ⟨rfl, hw⟩ := kw_len (perm := [2, 1, 0]) hl (by decide)
    match ws, hw with
    | [_, _, _], _ => exact .of_eq rfl
  clear g F m f fd
  obtain ⟨f, fd, F, m⟩ := T.t__law_is.ex
  have g := ok__law_is (P := P) (w := w) (base := base) T.B F
  have d__law_is : Knows P w K mg base 1 "_law_is" 2 F__law_is := ⟨f, fd, _, rfl, g, m, F.kp, F.binds fun _ _ _ _ _ _ us hl => match us, hl with | [_, _], _ => rfl⟩
  clear g F m f fd
  obtain ⟨f, fd, F, m⟩ := T.t__law_phi.ex
  have g := ok__law_phi (P := P) (w := w) (base := base) T.B F
  have d__law_phi : Knows P w K mg base 1 "_law_phi" 3 F__law_phi := ⟨f, fd, _, rfl, g, m, F.kp, F.binds fun _ _ _ _ _ _ us hl => match us, hl with | [_, _, _], _ => rfl⟩
  clear g F m f fd
  obtain ⟨f, fd, F, m⟩ := T.t__law_pull.ex
  have g := ok__law_pull (P := P) (w := w) (base := base) T.B F
  have d__law_pull : Knows P w K mg base 1 "_law_pull" 2 F__law_pull := ⟨f, fd, _, rfl, g, m, F.kp, F.binds fun _ _ _ _ _ _ us hl => match us, hl with | [_, _], _ => rfl⟩
  clear g F m f fd
  obtain ⟨f, fd, F, m⟩ := T.t__law_one.ex
  have g := ok__law_one (P := P) (w := w) (base := base) T.B F d__law_pull
  have d__law_one : Knows P w K mg base 2 "_law_one" 2 F__law_one := ⟨f, fd, _, rfl, g, m, F.kp, F.binds fun _ _ _ _ _ _ us hl => match us, hl with | [_, _], _ => rfl⟩
  clear g F m f fd
  obtain ⟨f, fd, F, m⟩ := T.t__law_number.ex
  have g := ok__law_number (P := P) (w := w) (base := base) T.B F d__law_one d__law_pull
  have d__law_number : Knows P w K mg base 3 "_law_number" 1 F__law_number := ⟨f, fd, _, rfl, g, m, F.kp, F.binds fun _ _ _ _ _ _ us hl => match us, hl with | [_], _ => rfl⟩
  clear g F m f fd
  obtain ⟨f, fd, F, m⟩ := T.t__law_right.ex
  have g := ok__law_right (P := P) (w := w) (base := base) T.B F d__law_is d__law_number d__law_one d__law_phi d_phi k_phi_2_1_0
  have d__law_right : Knows P w K mg base 5 "_law_right" 1 F__law_right := ⟨f, fd, _, rfl, g, m, F.kp, F.binds fun _ _ _ _ _ _ us hl => match us, hl with | [_], _ => rfl⟩
  clear g F m f fd
  obtain ⟨f, fd, F, m⟩ := T.t__law_urn.ex
  have g := ok__law_urn (P := P) (w := w) (base := base) T.B F
  have d__law_urn : Knows P w K mg base 1 "_law_urn" 2 F__law_urn := ⟨f, fd, _, rfl, g, m, F.kp, F.binds fun _ _ _ _ _ _ us hl => match us, hl with | [_, _], _ => rfl⟩
  clear g F m f fd
  obtain ⟨f, fd, F, m⟩ := T.t_law.ex
  have g := ok_law (P := P) (w := w) (base := base) T.B F d__law_right d__law_urn
  have d_law : Knows P w K mg base 6 "law" 1 F_law := ⟨f, fd, _, rfl, g, m, F.kp, F.binds fun _ _ _ _ _ _ us hl => match us, hl with | [_], _ => rfl⟩
  clear g F m f fd
  exact ⟨d_is_whole, d_is_whole_between, d_check_step, d_phi_by_2, d_phi_by_3, d_phi, k_phi_2_1_0, d__law_is, d__law_phi, d__law_pull, d__law_one, d__law_number, d__law_right, d__law_urn, d_law⟩
end Law

set_option Elab.async false
set_option linter.all false
set_option maxRecDepth 100000
set_option maxHeartbeats 4000000
namespace Law
open PySem L2 Zm
/-! what holds of the urn -/
structure W (h : Cells) (i n : Nat) : Prop where
  cl : ∀ ds ∈ h, cleans ds = true
  ex : ∃ a m k : Int, h[i]? = some [.int a, .int m, .int k] ∧ 0 ≤ a ∧ 0 ≤ m ∧ m < 2147483399 ∧ 0 ≤ k ∧ k ≤ (n : Int)
theorem W.lt {h : Cells} {i n : Nat} (w : W h i n) : i < h.length := by
  obtain ⟨a, m, k, e, _⟩ := w.ex
  exact (List.getElem?_eq_some_iff.mp e).1
theorem W.put {h : Cells} {i n n' : Nat} (w : W h i n) {a m k : Int} (h1 : 0 ≤ a) (h2 : 0 ≤ m) (h3 : m < 2147483399) (h4 : 0 ≤ k) (h5 : k ≤ (n' : Int)) : W (h.set i [.int a, .int m, .int k]) i n' := by
  refine ⟨fun ds hd => ?_, a, m, k, List.getElem?_set_self w.lt, h1, h2, h3, h4, h5⟩
  rcases List.mem_or_eq_of_mem_set hd with z | z
  · exact w.cl ds z
  · subst z; rfl
theorem W.push {h : Cells} {i n : Nat} (w : W h i n) {x : List D} (hx : cleans x = true) : W (h ++ [x]) i n := by
  obtain ⟨a, m, k, e, h1, h2, h3, h4, h5⟩ := w.ex
  refine ⟨fun ds hd => ?_, a, m, k, by rw [List.getElem?_append_left w.lt]; exact e, h1, h2, h3, h4, h5⟩
  rcases List.mem_append.mp hd with z | z
  · exact w.cl ds z
  · rw [List.mem_singleton] at z; subst z; exact hx
theorem W.upd {h : Cells} {i j n : Nat} (w : W h i n) (hj : j ≠ i) {x : List D} (hx : cleans x = true) : W (h.set j x) i n := by
  obtain ⟨a, m, k, e, h1, h2, h3, h4, h5⟩ := w.ex
  refine ⟨fun ds hd => ?_, a, m, k, by rw [List.getElem?_set_ne hj]; exact e, h1, h2, h3, h4, h5⟩
  rcases List.mem_or_eq_of_mem_set hd with z | z
  · exact w.cl ds z
  · subst z; exact hx
theorem W.mono {h : Cells} {i n n' : Nat} (w : W h i n) (l : n ≤ n') : W h i n' := by
  obtain ⟨a, m, k, e, h1, h2, h3, h4, h5⟩ := w.ex
  exact ⟨w.cl, a, m, k, e, h1, h2, h3, h4, by omega⟩
theorem log_le {x : Nat} {b : Nat} (h : x < 2 ^ b) (h0 : 0 < b) : x.log2 < b := PySem.Flt.log2_lt_of h0 h
theorem wideM_of {i j : Int} (hi : i.natAbs < 2 ^ 1000) (hj : j.natAbs < 2 ^ 1000) : wideM i j = true := by
  have h1 := log_le hi (by decide)
  have h2 := log_le hj (by decide)
  exact decide_eq_true (by omega)
theorem small_pow {x : Nat} (h : x < 18446744073709551616) : x < 2 ^ 1000 := Nat.lt_trans h (by decide +kernel)
theorem wide64 {i j : Int} (hi : i.natAbs < 18446744073709551616) (hj : j.natAbs < 18446744073709551616) : wideM i j = true := wideM_of (small_pow hi) (small_pow hj)
theorem divS {j : Int} (h0 : 0 < j) (h : j.natAbs < 18446744073709551616) : wideD j = true := decide_eq_true ⟨h0, by have := log_le (b := 64) (by simpa using h) (by decide); omega⟩
theorem pull_ok {h : Cells} {i n : Nat} (w : W h i n) (few : Int) (hn : n ≤ 1000000) (h0 : 0 < few) (h1 : few < 1073741824) :
    ∃ r h', F__law_pull [.cell i, .int few] h = some (.int r, h') ∧ 0 ≤ r ∧ r < few ∧ W h' i (n + 1) ∧ h'.length = h.length ∧ ∀ j, j ≠ i → h'[j]? = h[j]? := by
  obtain ⟨a, m, k, e, g1, g2, g3, g4, g5⟩ := w.ex
  by_cases ha : 0 < a
  · refine ⟨a % few, h.set i [.int (a / few), .int m, .int k], ?_, Int.emod_nonneg _ (by omega), Int.emod_lt_of_pos _ h0, w.put (Int.ediv_nonneg g1 (by omega)) g2 g3 g4 (by omega), by simp, fun j hj => List.getElem?_set_ne (Ne.symm hj)⟩
    have hd : dmOk a few = true := by simp [dmOk, h0, h1]
    simp [F__law_pull, b__law_pull, mFun, line, mSeq, mAsg, mRet, mRetN, mDrop, mIfS, mTBin, mBin, mVar, mC, mCons, mNil, mTup, mLst, mLstC, mCB, mCall, mCallK, mIf, mAndV, mOrV, mNotV, mAnd, mOr, mNot, mTru, mUn, mChain, tB', mNx, mNev, mFor, mForL, mWhile, mComp, mCompL, mYes, gN, gT, gsCons, gsNil, gSubD, mApp, mPar, mPar3, mAugI, mSl, mSo, mNo, iR1, iR2, iR3, iS, iEn, iL, iT, asB, asL, asT, asLT, asInt, oB, oAdd, oSub, oMulA, oMul, oDiv, oMod, oPow, oNeg, cI, oEq, oNe, oIx, asSeq, oInt, oAbs, oLen, oMax2, oMin2, oDivmod, oIsi, tyD, okCell, truthD, mFrz, Option.bind_some, Option.map_some, Option.bind_none, Option.map_none, cond_true, cond_false, List.map_cons, List.map_nil, List.cons_append, List.nil_append, List.getElem?_cons_zero, List.getElem?_cons_succ, List.set_cons_zero, List.set_cons_succ, List.length_cons, List.length_nil, List.replicate , e, ha, hd, atI, ixN, gT]
  · have w1 : wideM m 41023 = true := wide64 (by omega) (by decide)
    have w2 : wideM 60029 (k + 1) = true := wide64 (by decide) (by omega)
    have q1 := Int.emod_nonneg (m * 41023 + 60029 * (k + 1)) (show (2147483399 : Int) ≠ 0 by decide)
    have q2 := Int.emod_lt_of_pos (m * 41023 + 60029 * (k + 1)) (show (0 : Int) < 2147483399 by decide)
    generalize hx : (m * 41023 + 60029 * (k + 1)) % 2147483399 = x at q1 q2
    have w3 : wideM x (x % 5011 + 20029) = true := wide64 (by omega) (by omega)
    have w5 : wideM 41 (k + 1) = true := wide64 (by decide) (by omega)
    have q3 := Int.emod_nonneg (x * (x % 5011 + 20029) + 41 * (k + 1)) (show (2147483399 : Int) ≠ 0 by decide)
    have q4 := Int.emod_lt_of_pos (x * (x % 5011 + 20029) + 41 * (k + 1)) (show (0 : Int) < 2147483399 by decide)
    generalize hy : (x * (x % 5011 + 20029) + 41 * (k + 1)) % 2147483399 = y at q3 q4
    have w4 : wideD 739 = true := divS (by decide) (by decide)
    refine ⟨y / 739 % few, h.set i [.int a, .int y, .int (k + 1)], ?_, Int.emod_nonneg _ (by omega), Int.emod_lt_of_pos _ h0, w.put g1 q3 q4 (by omega) (by omega), by simp, fun j hj => List.getElem?_set_ne (Ne.symm hj)⟩
    have hs : ∀ x, (h.set i x)[i]? = some x := fun x => List.getElem?_set_self w.lt
    simp [F__law_pull, b__law_pull, mFun, line, mSeq, mAsg, mRet, mRetN, mDrop, mIfS, mTBin, mBin, mVar, mC, mCons, mNil, mTup, mLst, mLstC, mCB, mCall, mCallK, mIf, mAndV, mOrV, mNotV, mAnd, mOr, mNot, mTru, mUn, mChain, tB', mNx, mNev, mFor, mForL, mWhile, mComp, mCompL, mYes, gN, gT, gsCons, gsNil, gSubD, mApp, mPar, mPar3, mAugI, mSl, mSo, mNo, iR1, iR2, iR3, iS, iEn, iL, iT, asB, asL, asT, asLT, asInt, oB, oAdd, oSub, oMulA, oMul, oDiv, oMod, oPow, oNeg, cI, oEq, oNe, oIx, asSeq, oInt, oAbs, oLen, oMax2, oMin2, oDivmod, oIsi, tyD, okCell, truthD, mFrz, Option.bind_some, Option.map_some, Option.bind_none, Option.map_none, cond_true, cond_false, List.map_cons, List.map_nil, List.cons_append, List.nil_append, List.getElem?_cons_zero, List.getElem?_cons_succ, List.set_cons_zero, List.set_cons_succ, List.length_cons, List.length_nil, List.replicate , e, ha, h0, atI, ixN, w1, w2, w3, w4, w5, hx, hy, hs, List.set_set]
theorem one_ok {h : Cells} {i n : Nat} (w : W h i n) {d : D} {ds : List D} (hd : asSeq [] d = some ds) (hc : ∀ j, d ≠ .cell j) (hn : n ≤ 1000000) (h0 : 0 < ds.length) (h1 : ds.length < 1000000) :
    ∃ x h', F__law_one [.cell i, d] h = some (x, h') ∧ x ∈ ds ∧ W h' i (n + 1) ∧ h'.length = h.length ∧ ∀ j, j ≠ i → h'[j]? = h[j]? := by
  obtain ⟨r, h', e, g1, g2, w', hl, hk⟩ := pull_ok w (ds.length : Int) hn (by omega) (by omega)
  have hr : r.toNat < ds.length := by omega
  refine ⟨ds[r.toNat], h', ?_, List.getElem_mem hr, w', hl, hk⟩
  have hix : atI ds r = some ds[r.toNat] := by
    have : r < (ds.length : Int) := g2
    simp [atI, ixN, g1, this, hr]
  cases d <;> simp only [asSeq] at hd <;> try (cases hd; done)
  · cases hd
    simp [F__law_one, b__law_one, mFun, line, mSeq, mAsg, mRet, mRetN, mDrop, mIfS, mTBin, mBin, mVar, mC, mCons, mNil, mTup, mLst, mLstC, mCB, mCall, mCallK, mIf, mAndV, mOrV, mNotV, mAnd, mOr, mNot, mTru, mUn, mChain, tB', mNx, mNev, mFor, mForL, mWhile, mComp, mCompL, mYes, gN, gT, gsCons, gsNil, gSubD, mApp, mPar, mPar3, mAugI, mSl, mSo, mNo, iR1, iR2, iR3, iS, iEn, iL, iT, asB, asL, asT, asLT, asInt, oB, oAdd, oSub, oMulA, oMul, oDiv, oMod, oPow, oNeg, cI, oEq, oNe, oIx, asSeq, oInt, oAbs, oLen, oMax2, oMin2, oDivmod, oIsi, tyD, okCell, truthD, mFrz, Option.bind_some, Option.map_some, Option.bind_none, Option.map_none, cond_true, cond_false, List.map_cons, List.map_nil, List.cons_append, List.nil_append, List.getElem?_cons_zero, List.getElem?_cons_succ, List.set_cons_zero, List.set_cons_succ, List.length_cons, List.length_nil, List.replicate , e, hix]
  · cases hd
    simp [F__law_one, b__law_one, mFun, line, mSeq, mAsg, mRet, mRetN, mDrop, mIfS, mTBin, mBin, mVar, mC, mCons, mNil, mTup, mLst, mLstC, mCB, mCall, mCallK, mIf, mAndV, mOrV, mNotV, mAnd, mOr, mNot, mTru, mUn, mChain, tB', mNx, mNev, mFor, mForL, mWhile, mComp, mCompL, mYes, gN, gT, gsCons, gsNil, gSubD, mApp, mPar, mPar3, mAugI, mSl, mSo, mNo, iR1, iR2, iR3, iS, iEn, iL, iT, asB, asL, asT, asLT, asInt, oB, oAdd, oSub, oMulA, oMul, oDiv, oMod, oPow, oNeg, cI, oEq, oNe, oIx, asSeq, oInt, oAbs, oLen, oMax2, oMin2, oDivmod, oIsi, tyD, okCell, truthD, mFrz, Option.bind_some, Option.map_some, Option.bind_none, Option.map_none, cond_true, cond_false, List.map_cons, List.map_nil, List.cons_append, List.nil_append, List.getElem?_cons_zero, List.getElem?_cons_succ, List.set_cons_zero, List.set_cons_succ, List.length_cons, List.length_nil, List.replicate , e, hix]
  · cases hd
    simp [F__law_one, b__law_one, mFun, line, mSeq, mAsg, mRet, mRetN, mDrop, mIfS, mTBin, mBin, mVar, mC, mCons, mNil, mTup, mLst, mLstC, mCB, mCall, mCallK, mIf, mAndV, mOrV, mNotV, mAnd, mOr, mNot, mTru, mUn, mChain, tB', mNx, mNev, mFor, mForL, mWhile, mComp, mCompL, mYes, gN, gT, gsCons, gsNil, gSubD, mApp, mPar, mPar3, mAugI, mSl, mSo, mNo, iR1, iR2, iR3, iS, iEn, iL, iT, asB, asL, asT, asLT, asInt, oB, oAdd, oSub, oMulA, oMul, oDiv, oMod, oPow, oNeg, cI, oEq, oNe, oIx, asSeq, oInt, oAbs, oLen, oMax2, oMin2, oDivmod, oIsi, tyD, okCell, truthD, mFrz, Option.bind_some, Option.map_some, Option.bind_none, Option.map_none, cond_true, cond_false, List.map_cons, List.map_nil, List.cons_append, List.nil_append, List.getElem?_cons_zero, List.getElem?_cons_succ, List.set_cons_zero, List.set_cons_succ, List.length_cons, List.length_nil, List.replicate , e, hix]
/-! the urns -/
abbrev wellB : MB := (mAsg (mBin oMod (mCB oInt (mCons (mBin oAdd (mBin oAdd (mBin oMulA (mVar 2) (mC (.int 46099))) (mBin oMulA (mBin oMod (mCB oInt (mCons (mVar 3) mNil)) (mC (.int 2147483399))) (mC (.int 7)))) (mC (.int 29))) mNil)) (mC (.int 2147483399))) (gN 2))
theorem well_loop {sc lp ow : Option D} {h : Cells} : ∀ (xs : List Int) (v : Int) (c : Option D), 0 ≤ v → v < 4294967296 → ∃ v' c', mForL (gN 3) wellB (xs.map D.int) ⟨[sc, lp, some (.int v), c, ow], h⟩ = some (.nx, ⟨[sc, lp, some (.int v'), c', ow], h⟩) ∧ 0 ≤ v' ∧ v' < 4294967296
  | [], v, c, h0, h1 => ⟨v, c, rfl, h0, h1⟩
  | x :: xs, v, c, h0, h1 => by
    have x0 := Int.emod_nonneg x (show (2147483399 : Int) ≠ 0 by decide)
    have x1 := Int.emod_lt_of_pos x (show (0 : Int) < 2147483399 by decide)
    have w1 : wideM v 46099 = true := wide64 (by omega) (by decide)
    have w2 : wideM (x % 2147483399) 7 = true := wide64 (by omega) (by decide)
    obtain ⟨v', c', e, g0, g1⟩ := well_loop (sc := sc) (lp := lp) (ow := ow) (h := h) xs ((v * 46099 + x % 2147483399 * 7 + 29) % 2147483399) (some (.int x)) (Int.emod_nonneg _ (by decide)) (by have := Int.emod_lt_of_pos (v * 46099 + x % 2147483399 * 7 + 29) (show (0 : Int) < 2147483399 by decide); omega)
    refine ⟨v', c', ?_, g0, g1⟩
    rw [← e]
    simp [wellB, mFun, line, mSeq, mAsg, mRet, mRetN, mDrop, mIfS, mTBin, mBin, mVar, mC, mCons, mNil, mTup, mLst, mLstC, mCB, mCall, mCallK, mIf, mAndV, mOrV, mNotV, mAnd, mOr, mNot, mTru, mUn, mChain, tB', mNx, mNev, mFor, mForL, mWhile, mComp, mCompL, mYes, gN, gT, gsCons, gsNil, gSubD, mApp, mPar, mPar3, mAugI, mSl, mSo, mNo, iR1, iR2, iR3, iS, iEn, iL, iT, asB, asL, asT, asLT, asInt, oB, oAdd, oSub, oMulA, oMul, oDiv, oMod, oPow, oNeg, cI, oEq, oNe, oIx, asSeq, oInt, oAbs, oLen, oMax2, oMin2, oDivmod, oIsi, tyD, okCell, truthD, mFrz, Option.bind_some, Option.map_some, Option.bind_none, Option.map_none, cond_true, cond_false, List.map_cons, List.map_nil, List.cons_append, List.nil_append, List.getElem?_cons_zero, List.getElem?_cons_succ, List.set_cons_zero, List.set_cons_succ, List.length_cons, List.length_nil, List.replicate , w1, w2]
abbrev urnX (B : MB) : MB := (mSeq (mAsg (mBin oAdd (mC (.int 910031)) (mBin oMulA (mC (.int 8581)) (mVar 1))) (gN 2))
    (mSeq (mFor (iS (mSl (mVar 0) mNo (mSo (mC (.int 10))))) (gN 3) B)
    (mSeq (mAsg (mIf (mTBin cLt (mVar 1) (mCB oLen (mCons (mVar 0) mNil))) (mCB oInt (mCons (mBin oIx (mVar 0) (mVar 1)) mNil)) (mC (.int 0))) (gN 4))
    (mSeq (mAsg (mBin oMod (mCB oInt (mCons (mBin oAdd (mBin oAdd (mBin oMulA (mVar 2) (mC (.int 59))) (mBin oMulA (mBin oMod (mCB oInt (mCons (mVar 4) mNil)) (mC (.int 2147483399))) (mC (.int 20021)))) (mC (.int 11))) mNil)) (mC (.int 2147483399))) (gN 2))
    (mRet (mLstC (mCons (mIf (mOr (mTBin cLt (mVar 4) (mC (.int 0))) (mTBin cGe (mVar 4) (mBin oPow (mC (.int 10)) (mC (.int 15))))) (mCB oAbs (mCons (mVar 4) mNil)) (mC (.int 0))) (mCons (mVar 2) (mCons (mC (.int 0)) mNil)))))))))
theorem b_urn_eq : b__law_urn = urnX wellB := rfl
theorem urn_ok (ns : List Int) (hns : ns.length ≤ 63) (lap : Nat) (hl : lap ≤ 70) (h : Cells) (hc : ∀ ds ∈ h, cleans ds = true) : ∃ a m : Int, F__law_urn [.frl (ns.map D.int), .int lap] h = some (.cell h.length, h ++ [[.int a, .int m, .int 0]]) ∧ W (h ++ [[.int a, .int m, .int 0]]) h.length 0 := by
  have hcut : ∀ lo hi, cutD (ns.map D.int) lo hi = (((ns.drop (HT.sIx ns.length 0 lo)).take (HT.sIx ns.length ns.length hi - HT.sIx ns.length 0 lo))).map D.int := fun lo hi => by simp [cutD, List.map_take, List.map_drop]
  have hc12 := hcut none (some 10)
  generalize ((ns.drop (HT.sIx ns.length 0 none)).take (HT.sIx ns.length ns.length (some 10) - HT.sIx ns.length 0 none)) = xs at hc12
  obtain ⟨v, c, e, v0, v1⟩ := well_loop (sc := some (.frl (ns.map D.int))) (lp := some (.int lap)) (ow := none) (h := h) xs (910031 + 8581 * lap) none (by omega) (by omega)
  have fin : ∀ own : Int, W (h ++ [[.int (if own < 0 ∨ 1000000000000000 ≤ own then (if own < 0 then -own else own) else 0), .int ((v * 59 + own % 2147483399 * 20021 + 11) % 2147483399), .int 0]]) h.length 0 := fun own => by
    refine ⟨fun ds hd => ?_, (if own < 0 ∨ 1000000000000000 ≤ own then (if own < 0 then -own else own) else 0), ((v * 59 + own % 2147483399 * 20021 + 11) % 2147483399), 0, by simp, ?_, Int.emod_nonneg _ (by decide), Int.emod_lt_of_pos _ (by decide), by omega, by omega⟩
    · rcases List.mem_append.mp hd with z | z
      · exact hc ds z
      · rw [List.mem_singleton] at z; subst z; rfl
    · split
      · split <;> omega
      · omega
  have w0 : wideM 8581 lap = true := wide64 (by decide) (by omega)
  have wv : wideM v 59 = true := wide64 (by omega) (by decide)
  unfold F__law_urn
  rw [b_urn_eq]
  generalize wellB = B at e ⊢
  have core : ∀ own : Int, (if (lap : Int) < (ns.length : Int) then (atI (ns.map D.int) (lap : Int) = some (.int own)) else own = 0) → ∃ a m : Int, mFun 5 2 (urnX B) [.frl (ns.map D.int), .int lap] h = some (.cell h.length, h ++ [[.int a, .int m, .int 0]]) ∧ W (h ++ [[.int a, .int m, .int 0]]) h.length 0 := by
    intro own ho
    refine ⟨_, _, ?_, fin own⟩
    have x0 := Int.emod_nonneg own (show (2147483399 : Int) ≠ 0 by decide)
    have x1 := Int.emod_lt_of_pos own (show (0 : Int) < 2147483399 by decide)
    have w2 : wideM (own % 2147483399) 20021 = true := wide64 (by omega) (by decide)
    by_cases hlap : (lap : Int) < (ns.length : Int)
    · rw [if_pos hlap] at ho
      by_cases h0 : own < 0
      · simp [urnX, mFun, line, mSeq, mAsg, mRet, mRetN, mDrop, mIfS, mTBin, mBin, mVar, mC, mCons, mNil, mTup, mLst, mLstC, mCB, mCall, mCallK, mIf, mAndV, mOrV, mNotV, mAnd, mOr, mNot, mTru, mUn, mChain, tB', mNx, mNev, mFor, mForL, mWhile, mComp, mCompL, mYes, gN, gT, gsCons, gsNil, gSubD, mApp, mPar, mPar3, mAugI, mSl, mSo, mNo, iR1, iR2, iR3, iS, iEn, iL, iT, asB, asL, asT, asLT, asInt, oB, oAdd, oSub, oMulA, oMul, oDiv, oMod, oPow, oNeg, cI, oEq, oNe, oIx, asSeq, oInt, oAbs, oLen, oMax2, oMin2, oDivmod, oIsi, tyD, okCell, truthD, mFrz, Option.bind_some, Option.map_some, Option.bind_none, Option.map_none, cond_true, cond_false, List.map_cons, List.map_nil, List.cons_append, List.nil_append, List.getElem?_cons_zero, List.getElem?_cons_succ, List.set_cons_zero, List.set_cons_succ, List.length_cons, List.length_nil, List.replicate , w0, wv, w2, hc12, e, oSl, hlap, ho, h0]
      · by_cases h1 : 1000000000000000 ≤ own
        · simp [urnX, mFun, line, mSeq, mAsg, mRet, mRetN, mDrop, mIfS, mTBin, mBin, mVar, mC, mCons, mNil, mTup, mLst, mLstC, mCB, mCall, mCallK, mIf, mAndV, mOrV, mNotV, mAnd, mOr, mNot, mTru, mUn, mChain, tB', mNx, mNev, mFor, mForL, mWhile, mComp, mCompL, mYes, gN, gT, gsCons, gsNil, gSubD, mApp, mPar, mPar3, mAugI, mSl, mSo, mNo, iR1, iR2, iR3, iS, iEn, iL, iT, asB, asL, asT, asLT, asInt, oB, oAdd, oSub, oMulA, oMul, oDiv, oMod, oPow, oNeg, cI, oEq, oNe, oIx, asSeq, oInt, oAbs, oLen, oMax2, oMin2, oDivmod, oIsi, tyD, okCell, truthD, mFrz, Option.bind_some, Option.map_some, Option.bind_none, Option.map_none, cond_true, cond_false, List.map_cons, List.map_nil, List.cons_append, List.nil_append, List.getElem?_cons_zero, List.getElem?_cons_succ, List.set_cons_zero, List.set_cons_succ, List.length_cons, List.length_nil, List.replicate , w0, wv, w2, hc12, e, oSl, hlap, ho, h0, h1]
        · simp [urnX, mFun, line, mSeq, mAsg, mRet, mRetN, mDrop, mIfS, mTBin, mBin, mVar, mC, mCons, mNil, mTup, mLst, mLstC, mCB, mCall, mCallK, mIf, mAndV, mOrV, mNotV, mAnd, mOr, mNot, mTru, mUn, mChain, tB', mNx, mNev, mFor, mForL, mWhile, mComp, mCompL, mYes, gN, gT, gsCons, gsNil, gSubD, mApp, mPar, mPar3, mAugI, mSl, mSo, mNo, iR1, iR2, iR3, iS, iEn, iL, iT, asB, asL, asT, asLT, asInt, oB, oAdd, oSub, oMulA, oMul, oDiv, oMod, oPow, oNeg, cI, oEq, oNe, oIx, asSeq, oInt, oAbs, oLen, oMax2, oMin2, oDivmod, oIsi, tyD, okCell, truthD, mFrz, Option.bind_some, Option.map_some, Option.bind_none, Option.map_none, cond_true, cond_false, List.map_cons, List.map_nil, List.cons_append, List.nil_append, List.getElem?_cons_zero, List.getElem?_cons_succ, List.set_cons_zero, List.set_cons_succ, List.length_cons, List.length_nil, List.replicate , w0, wv, w2, hc12, e, oSl, hlap, ho, h0, h1]
    · rw [if_neg hlap] at ho
      subst ho
      have w3 : wideM 0 20021 = true := wide64 (by decide) (by decide)
      simp [urnX, mFun, line, mSeq, mAsg, mRet, mRetN, mDrop, mIfS, mTBin, mBin, mVar, mC, mCons, mNil, mTup, mLst, mLstC, mCB, mCall, mCallK, mIf, mAndV, mOrV, mNotV, mAnd, mOr, mNot, mTru, mUn, mChain, tB', mNx, mNev, mFor, mForL, mWhile, mComp, mCompL, mYes, gN, gT, gsCons, gsNil, gSubD, mApp, mPar, mPar3, mAugI, mSl, mSo, mNo, iR1, iR2, iR3, iS, iEn, iL, iT, asB, asL, asT, asLT, asInt, oB, oAdd, oSub, oMulA, oMul, oDiv, oMod, oPow, oNeg, cI, oEq, oNe, oIx, asSeq, oInt, oAbs, oLen, oMax2, oMin2, oDivmod, oIsi, tyD, okCell, truthD, mFrz, Option.bind_some, Option.map_some, Option.bind_none, Option.map_none, cond_true, cond_false, List.map_cons, List.map_nil, List.cons_append, List.nil_append, List.getElem?_cons_zero, List.getElem?_cons_succ, List.set_cons_zero, List.set_cons_succ, List.length_cons, List.length_nil, List.replicate , w0, wv, w3, hc12, e, oSl, hlap]
  by_cases hlap : lap < ns.length
  · exact core ns[lap] (by rw [if_pos (by omega)]; simp [atI, ixN, hlap])
  · exact core 0 (by rw [if_neg (by omega)])
/-! running blocks -/
theorem seq_nx {a b : MB} {m m' : MS} (h : a m = some (.nx, m')) : mSeq a b m = b m' := by unfold mSeq; rw [h]; rfl
theorem seq_rt {a b : MB} {m m' : MS} {d : D} (h : a m = some (.ret d, m')) : mSeq a b m = some (.ret d, m') := by unfold mSeq; rw [h]; rfl
theorem iR1_eq {f : MA} {ms : MS} {j : Int} {h : Cells} (e1 : f ms = some ([.int j], h)) (e2 : big62 j = true) : iR1 f ms = some (intsD 0 j.toNat, h) := by
  unfold iR1
  rw [e1]
  simp only [Option.bind_some, e2, cond_true]
theorem for_iR1 {f : MA} {g : MG} {b : MB} {s : List (Option D)} {h0 h1 : Cells} {j : Int} {r : Option (Out × MS)} (e1 : f ⟨s, h0⟩ = some ([.int j], h1)) (e2 : big62 j = true) (e : mForL g b (intsD 0 j.toNat) ⟨s, h1⟩ = r) : mFor (iR1 f) g b ⟨s, h0⟩ = r := by
  unfold mFor
  rw [iR1_eq e1 e2]
  exact e
theorem minmax (n : Nat) (c : Nat) (hc : 2 ≤ c) : ∃ (M : Int) (k : Nat), oMin2 [] [.int n, .int c] = some (.int M) ∧ oMax2 [] [.int 2, .int M] = some (.int k) ∧ k ≤ c := by
  by_cases z : (c : Int) < n
  · refine ⟨c, c, by simp [oMin2, z], ?_, by omega⟩
    by_cases y : (c : Int) > 2
    · simp only [oMax2, if_pos y]
    · simp only [oMax2, if_neg y]
      have : c = 2 := by omega
      subst this; rfl
  · by_cases y : (n : Int) > 2
    · exact ⟨n, n, by simp [oMin2, z], by simp only [oMax2, if_pos y], by omega⟩
    · exact ⟨n, 2, by simp [oMin2, z], by simp only [oMax2, if_neg y]; rfl, by omega⟩
/-! texts of data -/
def Bd (k : Nat) (x : Int) : Prop := x.natAbs < 2 ^ k
theorem Bd.mono {k m : Nat} {x : Int} (h : Bd k x) (l : k ≤ m) : Bd m x := Nat.lt_of_lt_of_le h (Nat.pow_le_pow_right (by decide) l)
theorem pow_10 : (2 : Nat) ^ 1900 < 10 ^ 700 := by decide +kernel
theorem dig_len {c : Nat} (h : c < 10 ^ 700) : (Nat.repr c).toList.length ≤ 700 := by
  have e : (Nat.repr c).toList = Nat.toDigits 10 c := by simp [Nat.repr]
  rw [e]; exact PyProof.Rows.digits10_le (by decide) h
theorem int_text {i : Int} (h : Bd 1900 i) : (PyData.shown (.int i)).length ≤ 710 := by
  have h1 : i.natAbs < 10 ^ 700 := Nat.lt_trans h pow_10
  show (PySem.Str.ofString (toString i)).length ≤ 710
  rw [PyProof.Rows.ofString_length]
  cases i with
  | ofNat n =>
    have d := dig_len (c := n) h1
    show (Nat.repr n).toList.length ≤ 710
    omega
  | negSucc n =>
    have d := dig_len (c := n + 1) h1
    show ("-" ++ Nat.repr (n + 1)).toList.length ≤ 710
    rw [String.toList_append, List.length_append]
    have e : ("-" : String).toList.length = 1 := rfl
    omega
mutual
def okP : PyData → Prop
  | .none => True
  | .bool _ => True
  | .int i => Bd 1900 i
  | .list xs => okPs xs
  | .tuple xs => okPs xs
  | _ => False
def okPs : List PyData → Prop
  | [] => True
  | x :: xs => okP x ∧ okPs xs
end
mutual
theorem okP_sh : ∀ p : PyData, okP p → p.showable = true ∧ p.hasDict = false ∧ p.leavesShort 710 = true
  | .none, _ => ⟨rfl, rfl, rfl⟩
  | .bool _, _ => ⟨rfl, rfl, rfl⟩
  | .int i, h => by
    have h' : Bd 1900 i := by simpa only [okP] using h
    refine ⟨by simpa only [PyData.showable, decide_eq_true_eq] using Nat.lt_trans (log_le h' (by decide)) (by decide), rfl, by simpa only [PyData.leavesShort, decide_eq_true_eq] using int_text h'⟩
  | .list xs, h => by
    obtain ⟨a, b, c⟩ := okPs_sh xs (by simpa only [okP] using h)
    exact ⟨by simpa only [PyData.showable] using a, by simpa only [PyData.hasDict] using b, by simpa only [PyData.leavesShort] using c⟩
  | .tuple xs, h => by
    obtain ⟨a, b, c⟩ := okPs_sh xs (by simpa only [okP] using h)
    exact ⟨by simpa only [PyData.showable] using a, by simpa only [PyData.hasDict] using b, by simpa only [PyData.leavesShort] using c⟩
  | .str _, h => by simp only [okP] at h
  | .dict _, h => by simp only [okP] at h
theorem okPs_sh : ∀ ps : List PyData, okPs ps → PyData.showableAll ps = true ∧ PyData.hasDictAll ps = false ∧ PyData.leavesShortAll 710 ps = true
  | [], _ => ⟨rfl, rfl, rfl⟩
  | x :: xs, h => by
    have h' : okP x ∧ okPs xs := by simpa only [okPs] using h
    obtain ⟨a, b, c⟩ := okP_sh x h'.1
    obtain ⟨a', b', c'⟩ := okPs_sh xs h'.2
    exact ⟨by simp only [PyData.showableAll, a, a', Bool.and_self], by simp only [PyData.hasDictAll, b, b', Bool.or_self], by simp only [PyData.leavesShortAll, c, c', Bool.and_self]⟩
end
theorem repr_ok {h : Cells} {d : D} {p : PyData} (e : py h d = some p) (k : okP p) (b : p.bulk ≤ 20000) (dp : p.depth ≤ 50) : ∃ s : Str, oRepr h [d] = some (.str s) := by
  obtain ⟨k1, k2, k3⟩ := okP_sh p k
  have l := PyData.shown_le_bulk 710 (by decide) p k3
  have l2 : (710 + 2) * p.bulk ≤ 712 * 20000 := Nat.mul_le_mul_left _ b
  have c : shOk p = true := by
    simp only [shOk, k1, k2, Bool.and_eq_true, Bool.not_false, decide_eq_true_eq, true_and]
    refine ⟨?_, dp⟩
    generalize p.shown.length = n at l ⊢
    generalize (710 + 2) * p.bulk = m at l l2
    show n ≤ 16777216
    omega
  refine ⟨p.shown, ?_⟩
  show (py h d).bind _ = _
  rw [e]
  show (bif shOk p then some (D.str p.shown) else none) = _
  rw [c]; rfl
end Law

set_option Elab.async false
set_option linter.all false
set_option maxRecDepth 100000
set_option maxHeartbeats 4000000
namespace Law
open PySem L2 Zm
/-! sizes, worked out by instances -/
class Sz (i : Int) (k : outParam Nat) : Prop where
  lt : i.natAbs < 2 ^ k
theorem two_pos (k : Nat) : 0 < 2 ^ k := Nat.pow_pos (by decide)
instance szMul {i j : Int} {k l : Nat} [a : Sz i k] [b : Sz j l] : Sz (i * j) (k + l) := ⟨by
  rw [Int.natAbs_mul, Nat.pow_add]
  exact Nat.mul_lt_mul_of_lt_of_le a.lt (Nat.le_of_lt b.lt) (two_pos _)⟩
theorem sz_sum {x y k l z : Nat} (a : x < 2 ^ k) (b : y < 2 ^ l) (h : z ≤ x + y) : z < 2 ^ (max k l + 1) := by
  have h1 : 2 ^ k ≤ 2 ^ (max k l) := Nat.pow_le_pow_right (by decide) (by omega)
  have h2 : 2 ^ l ≤ 2 ^ (max k l) := Nat.pow_le_pow_right (by decide) (by omega)
  rw [Nat.pow_succ]; omega
instance szAdd {i j : Int} {k l : Nat} [a : Sz i k] [b : Sz j l] : Sz (i + j) (max k l + 1) := ⟨sz_sum a.lt b.lt (by omega)⟩
instance szSub {i j : Int} {k l : Nat} [a : Sz i k] [b : Sz j l] : Sz (i - j) (max k l + 1) := ⟨sz_sum a.lt b.lt (by omega)⟩
theorem sz_pow {x k : Nat} (a : x < 2 ^ k) : ∀ n, x ^ (n + 1) < 2 ^ (k * (n + 1))
  | 0 => by simpa using a
  | n + 1 => by
    show x ^ (n + 1) * x < 2 ^ (k * (n + 1 + 1))
    rw [Nat.mul_succ, Nat.pow_add 2]
    exact Nat.mul_lt_mul_of_lt_of_le (sz_pow a n) (Nat.le_of_lt a) (two_pos _)
instance szP2 {i : Int} {k : Nat} [a : Sz i k] : Sz (i ^ 2) (k * 2) := ⟨by rw [Int.natAbs_pow]; exact sz_pow a.lt 1⟩
instance szP3 {i : Int} {k : Nat} [a : Sz i k] : Sz (i ^ 3) (k * 3) := ⟨by rw [Int.natAbs_pow]; exact sz_pow a.lt 2⟩
instance szP4 {i : Int} {k : Nat} [a : Sz i k] : Sz (i ^ 4) (k * 4) := ⟨by rw [Int.natAbs_pow]; exact sz_pow a.lt 3⟩
instance : Sz 2 80 := ⟨by decide⟩
instance : Sz 3 80 := ⟨by decide⟩
instance : Sz 1488 80 := ⟨by decide⟩
instance : Sz 162000 80 := ⟨by decide⟩
instance : Sz 40773375 80 := ⟨by decide⟩
instance : Sz 8748000000 80 := ⟨by decide⟩
instance : Sz 157464000000000 80 := ⟨by decide⟩
instance : Sz 2232 80 := ⟨by decide⟩
instance : Sz 1069956 80 := ⟨by decide⟩
instance : Sz 36864000 80 := ⟨by decide⟩
instance : Sz 2587918086 80 := ⟨by decide⟩
instance : Sz 8900222976000 80 := ⟨by decide⟩
instance : Sz 452984832000000 80 := ⟨by decide⟩
instance : Sz 770845966336000000 80 := ⟨by decide⟩
instance : Sz 1855425871872000000000 80 := ⟨by decide⟩
theorem log_lt' {i : Int} {k : Nat} [a : Sz i k] : i.natAbs.log2 ≤ k := by
  have := log_le (x := i.natAbs) (b := k + 1) (Nat.lt_of_lt_of_le a.lt (Nat.pow_le_pow_right (by decide) (by omega))) (by omega)
  omega
theorem wide_c {i j : Int} {k l : Nat} [a : Sz i k] [b : Sz j l] (h : k + l < 1000000) : wideM i j = true := by
  have h1 := log_lt' (i := i)
  have h2 := log_lt' (i := j)
  exact decide_eq_true (by omega)
theorem pow_c {i : Int} {k : Nat} [a : Sz i k] {n : Int} (h : k < 1000000) (h0 : 0 ≤ n) (h1 : n ≤ 100) : powC i n = true := by
  have h2 := log_lt' (i := i)
  exact decide_eq_true ⟨h0, h1, by omega⟩
def P2 (x y : Int) : Int := x ^ 3 + y ^ 3 - x ^ 2 * y ^ 2 + 1488 * (x ^ 2 * y + x * y ^ 2) - 162000 * (x ^ 2 + y ^ 2) + 40773375 * x * y + 8748000000 * (x + y) - 157464000000000
def P3 (x y : Int) : Int := x ^ 4 + y ^ 4 - x ^ 3 * y ^ 3 + 2232 * (x ^ 3 * y ^ 2 + x ^ 2 * y ^ 3) - 1069956 * (x ^ 3 * y + x * y ^ 3) + 36864000 * (x ^ 3 + y ^ 3) + 2587918086 * x ^ 2 * y ^ 2 + 8900222976000 * (x ^ 2 * y + x * y ^ 2) + 452984832000000 * (x ^ 2 + y ^ 2) - 770845966336000000 * x * y + 1855425871872000000000 * (x + y)
theorem phi2_ok {x y : Int} {k l : Nat} [Sz x 340] [Sz y 340] {h : Cells} : F_phi_by_2 [.int x, .int y] h = some (.int (P2 x y), h) := by
  simp (decide := true) [F_phi_by_2, b_phi_by_2, mFun, line, mSeq, mAsg, mRet, mRetN, mDrop, mIfS, mTBin, mBin, mVar, mC, mCons, mNil, mTup, mLst, mLstC, mCB, mCall, mCallK, mIf, mAndV, mOrV, mNotV, mAnd, mOr, mNot, mTru, mUn, mChain, tB', mNx, mNev, mFor, mForL, mWhile, mComp, mCompL, mYes, gN, gT, gsCons, gsNil, gSubD, mApp, mPar, mPar3, mAugI, mSl, mSo, mNo, iR1, iR2, iR3, iS, iEn, iL, iT, asB, asL, asT, asLT, asInt, oB, oAdd, oSub, oMulA, oMul, oDiv, oMod, oPow, oNeg, cI, oEq, oNe, oIx, asSeq, oInt, oAbs, oLen, oMax2, oMin2, oDivmod, oIsi, tyD, okCell, truthD, mFrz, Option.bind_some, Option.map_some, Option.bind_none, Option.map_none, cond_true, cond_false, List.map_cons, List.map_nil, List.cons_append, List.nil_append, List.getElem?_cons_zero, List.getElem?_cons_succ, List.set_cons_zero, List.set_cons_succ, List.length_cons, List.length_nil, List.replicate , oPowW, wide_c, pow_c, P2]
end Law

set_option Elab.async false
set_option linter.all false
set_option maxRecDepth 100000
set_option maxHeartbeats 4000000
namespace Law
open PySem L2 Zm
/-! the polynomials, told and reckoned -/
theorem phi3_ok {x y : Int} [Sz x 340] [Sz y 340] {h : Cells} : F_phi_by_3 [.int x, .int y] h = some (.int (P3 x y), h) := by
  simp (decide := true) [F_phi_by_3, b_phi_by_3, mFun, line, mSeq, mAsg, mRet, mRetN, mDrop, mIfS, mTBin, mBin, mVar, mC, mCons, mNil, mTup, mLst, mLstC, mCB, mCall, mCallK, mIf, mAndV, mOrV, mNotV, mAnd, mOr, mNot, mTru, mUn, mChain, tB', mNx, mNev, mFor, mForL, mWhile, mComp, mCompL, mYes, gN, gT, gsCons, gsNil, gSubD, mApp, mPar, mPar3, mAugI, mSl, mSo, mNo, iR1, iR2, iR3, iS, iEn, iL, iT, asB, asL, asT, asLT, asInt, oB, oAdd, oSub, oMulA, oMul, oDiv, oMod, oPow, oNeg, cI, oEq, oNe, oIx, asSeq, oInt, oAbs, oLen, oMax2, oMin2, oDivmod, oIsi, tyD, okCell, truthD, mFrz, Option.bind_some, Option.map_some, Option.bind_none, Option.map_none, cond_true, cond_false, List.map_cons, List.map_nil, List.cons_append, List.nil_append, List.getElem?_cons_zero, List.getElem?_cons_succ, List.set_cons_zero, List.set_cons_succ, List.length_cons, List.length_nil, List.replicate , oPowW, wide_c, pow_c, P3]
def Q2 (x y : Int) : Int := (x + y) * (x + y) * (x + y) - 3 * (x + y) * (x * y) - x * y * (x * y) + 1488 * (x + y) * (x * y) - 162000 * ((x + y) * (x + y) - 2 * (x * y)) + 40773375 * (x * y) + 8748000000 * (x + y) - 157464000000000
def Q3 (x y : Int) : Int := ((x + y) * (x + y) - 2 * (x * y)) * ((x + y) * (x + y) - 2 * (x * y)) - 2 * (x * y) * (x * y) - x * y * (x * y) * (x * y) + 2232 * (x + y) * (x * y) * (x * y) - 1069956 * ((x + y) * (x + y) - 2 * (x * y)) * (x * y) + 36864000 * ((x + y) * (x + y) * (x + y) - 3 * (x + y) * (x * y)) + 2587918086 * (x * y) * (x * y) + 8900222976000 * (x + y) * (x * y) + 452984832000000 * ((x + y) * (x + y) - 2 * (x * y)) - 770845966336000000 * (x * y) + 1855425871872000000000 * (x + y)
theorem Q2_eq (x y : Int) : Q2 x y = P2 x y := by unfold Q2 P2; grind
theorem Q3_eq (x y : Int) : Q3 x y = P3 x y := by unfold Q3 P3; grind
theorem P2_sym (x y : Int) : P2 y x = P2 x y := by unfold P2; grind
theorem P3_sym (x y : Int) : P3 y x = P3 x y := by unfold P3; grind
theorem lphi2_ok {x y : Int} [Sz x 340] [Sz y 340] {h : Cells} : F__law_phi [.int 2, .int x, .int y] h = some (.int (Q2 x y), h) := by
  simp (decide := true) [F__law_phi, b__law_phi, mFun, line, mSeq, mAsg, mRet, mRetN, mDrop, mIfS, mTBin, mBin, mVar, mC, mCons, mNil, mTup, mLst, mLstC, mCB, mCall, mCallK, mIf, mAndV, mOrV, mNotV, mAnd, mOr, mNot, mTru, mUn, mChain, tB', mNx, mNev, mFor, mForL, mWhile, mComp, mCompL, mYes, gN, gT, gsCons, gsNil, gSubD, mApp, mPar, mPar3, mAugI, mSl, mSo, mNo, iR1, iR2, iR3, iS, iEn, iL, iT, asB, asL, asT, asLT, asInt, oB, oAdd, oSub, oMulA, oMul, oDiv, oMod, oPow, oNeg, cI, oEq, oNe, oIx, asSeq, oInt, oAbs, oLen, oMax2, oMin2, oDivmod, oIsi, tyD, okCell, truthD, mFrz, Option.bind_some, Option.map_some, Option.bind_none, Option.map_none, cond_true, cond_false, List.map_cons, List.map_nil, List.cons_append, List.nil_append, List.getElem?_cons_zero, List.getElem?_cons_succ, List.set_cons_zero, List.set_cons_succ, List.length_cons, List.length_nil, List.replicate , wide_c, Q2]
theorem lphi3_ok {x y : Int} [Sz x 340] [Sz y 340] {h : Cells} : F__law_phi [.int 3, .int x, .int y] h = some (.int (Q3 x y), h) := by
  simp (decide := true) [F__law_phi, b__law_phi, mFun, line, mSeq, mAsg, mRet, mRetN, mDrop, mIfS, mTBin, mBin, mVar, mC, mCons, mNil, mTup, mLst, mLstC, mCB, mCall, mCallK, mIf, mAndV, mOrV, mNotV, mAnd, mOr, mNot, mTru, mUn, mChain, tB', mNx, mNev, mFor, mForL, mWhile, mComp, mCompL, mYes, gN, gT, gsCons, gsNil, gSubD, mApp, mPar, mPar3, mAugI, mSl, mSo, mNo, iR1, iR2, iR3, iS, iEn, iL, iT, asB, asL, asT, asLT, asInt, oB, oAdd, oSub, oMulA, oMul, oDiv, oMod, oPow, oNeg, cI, oEq, oNe, oIx, asSeq, oInt, oAbs, oLen, oMax2, oMin2, oDivmod, oIsi, tyD, okCell, truthD, mFrz, Option.bind_some, Option.map_some, Option.bind_none, Option.map_none, cond_true, cond_false, List.map_cons, List.map_nil, List.cons_append, List.nil_append, List.getElem?_cons_zero, List.getElem?_cons_succ, List.set_cons_zero, List.set_cons_succ, List.length_cons, List.length_nil, List.replicate , wide_c, Q3]
theorem whole_i {x : Int} {h : Cells} : F_is_whole [.int x] h = some (.bl true, h) := by
  simp [F_is_whole, b_is_whole, mFun, line, mSeq, mAsg, mRet, mRetN, mDrop, mIfS, mTBin, mBin, mVar, mC, mCons, mNil, mTup, mLst, mLstC, mCB, mCall, mCallK, mIf, mAndV, mOrV, mNotV, mAnd, mOr, mNot, mTru, mUn, mChain, tB', mNx, mNev, mFor, mForL, mWhile, mComp, mCompL, mYes, gN, gT, gsCons, gsNil, gSubD, mApp, mPar, mPar3, mAugI, mSl, mSo, mNo, iR1, iR2, iR3, iS, iEn, iL, iT, asB, asL, asT, asLT, asInt, oB, oAdd, oSub, oMulA, oMul, oDiv, oMod, oPow, oNeg, cI, oEq, oNe, oIx, asSeq, oInt, oAbs, oLen, oMax2, oMin2, oDivmod, oIsi, tyD, okCell, truthD, mFrz, Option.bind_some, Option.map_some, Option.bind_none, Option.map_none, cond_true, cond_false, List.map_cons, List.map_nil, List.cons_append, List.nil_append, List.getElem?_cons_zero, List.getElem?_cons_succ, List.set_cons_zero, List.set_cons_succ, List.length_cons, List.length_nil, List.replicate , isiB]
theorem step_i {s : Int} (hs : s = 2 ∨ s = 3) {h : Cells} : F_check_step [.int s] h = some (.non, h) := by
  have e := whole_i (x := s) (h := h)
  rcases hs with z | z
  · subst z
    simp [F_check_step, b_check_step, F_is_whole_between, b_is_whole_between, mFun, line, mSeq, mAsg, mRet, mRetN, mDrop, mIfS, mTBin, mBin, mVar, mC, mCons, mNil, mTup, mLst, mLstC, mCB, mCall, mCallK, mIf, mAndV, mOrV, mNotV, mAnd, mOr, mNot, mTru, mUn, mChain, tB', mNx, mNev, mFor, mForL, mWhile, mComp, mCompL, mYes, gN, gT, gsCons, gsNil, gSubD, mApp, mPar, mPar3, mAugI, mSl, mSo, mNo, iR1, iR2, iR3, iS, iEn, iL, iT, asB, asL, asT, asLT, asInt, oB, oAdd, oSub, oMulA, oMul, oDiv, oMod, oPow, oNeg, cI, oEq, oNe, oIx, asSeq, oInt, oAbs, oLen, oMax2, oMin2, oDivmod, oIsi, tyD, okCell, truthD, mFrz, Option.bind_some, Option.map_some, Option.bind_none, Option.map_none, cond_true, cond_false, List.map_cons, List.map_nil, List.cons_append, List.nil_append, List.getElem?_cons_zero, List.getElem?_cons_succ, List.set_cons_zero, List.set_cons_succ, List.length_cons, List.length_nil, List.replicate , e]
  · subst z
    simp [F_check_step, b_check_step, F_is_whole_between, b_is_whole_between, mFun, line, mSeq, mAsg, mRet, mRetN, mDrop, mIfS, mTBin, mBin, mVar, mC, mCons, mNil, mTup, mLst, mLstC, mCB, mCall, mCallK, mIf, mAndV, mOrV, mNotV, mAnd, mOr, mNot, mTru, mUn, mChain, tB', mNx, mNev, mFor, mForL, mWhile, mComp, mCompL, mYes, gN, gT, gsCons, gsNil, gSubD, mApp, mPar, mPar3, mAugI, mSl, mSo, mNo, iR1, iR2, iR3, iS, iEn, iL, iT, asB, asL, asT, asLT, asInt, oB, oAdd, oSub, oMulA, oMul, oDiv, oMod, oPow, oNeg, cI, oEq, oNe, oIx, asSeq, oInt, oAbs, oLen, oMax2, oMin2, oDivmod, oIsi, tyD, okCell, truthD, mFrz, Option.bind_some, Option.map_some, Option.bind_none, Option.map_none, cond_true, cond_false, List.map_cons, List.map_nil, List.cons_append, List.nil_append, List.getElem?_cons_zero, List.getElem?_cons_succ, List.set_cons_zero, List.set_cons_succ, List.length_cons, List.length_nil, List.replicate , e]
def Ph (s x y : Int) : Int := if s = 2 then P2 x y else P3 x y
theorem phi_ok {s x y : Int} (hs : s = 2 ∨ s = 3) (sx : Sz x 340) (sy : Sz y 340) {h : Cells} : F_phi [.int s, .int x, .int y] h = some (.int (Ph s x y), h) := by
  have e0 := step_i hs (h := h)
  have e1 := whole_i (x := x) (h := h)
  have e2 := whole_i (x := y) (h := h)
  have e3 := phi2_ok (k := 0) (l := 0) (x := x) (y := y) (h := h)
  have e4 := phi3_ok (x := x) (y := y) (h := h)
  unfold Ph
  rcases hs with z | z
  · subst z
    rw [if_pos rfl]
    generalize P2 x y = R at *
    simp [F_phi, b_phi, mFun, line, mSeq, mAsg, mRet, mRetN, mDrop, mIfS, mTBin, mBin, mVar, mC, mCons, mNil, mTup, mLst, mLstC, mCB, mCall, mCallK, mIf, mAndV, mOrV, mNotV, mAnd, mOr, mNot, mTru, mUn, mChain, tB', mNx, mNev, mFor, mForL, mWhile, mComp, mCompL, mYes, gN, gT, gsCons, gsNil, gSubD, mApp, mPar, mPar3, mAugI, mSl, mSo, mNo, iR1, iR2, iR3, iS, iEn, iL, iT, asB, asL, asT, asLT, asInt, oB, oAdd, oSub, oMulA, oMul, oDiv, oMod, oPow, oNeg, cI, oEq, oNe, oIx, asSeq, oInt, oAbs, oLen, oMax2, oMin2, oDivmod, oIsi, tyD, okCell, truthD, mFrz, Option.bind_some, Option.map_some, Option.bind_none, Option.map_none, cond_true, cond_false, List.map_cons, List.map_nil, List.cons_append, List.nil_append, List.getElem?_cons_zero, List.getElem?_cons_succ, List.set_cons_zero, List.set_cons_succ, List.length_cons, List.length_nil, List.replicate , e0, e1, e2, e3]
  · subst z
    rw [if_neg (by decide)]
    generalize P3 x y = R at *
    simp [F_phi, b_phi, mFun, line, mSeq, mAsg, mRet, mRetN, mDrop, mIfS, mTBin, mBin, mVar, mC, mCons, mNil, mTup, mLst, mLstC, mCB, mCall, mCallK, mIf, mAndV, mOrV, mNotV, mAnd, mOr, mNot, mTru, mUn, mChain, tB', mNx, mNev, mFor, mForL, mWhile, mComp, mCompL, mYes, gN, gT, gsCons, gsNil, gSubD, mApp, mPar, mPar3, mAugI, mSl, mSo, mNo, iR1, iR2, iR3, iS, iEn, iL, iT, asB, asL, asT, asLT, asInt, oB, oAdd, oSub, oMulA, oMul, oDiv, oMod, oPow, oNeg, cI, oEq, oNe, oIx, asSeq, oInt, oAbs, oLen, oMax2, oMin2, oDivmod, oIsi, tyD, okCell, truthD, mFrz, Option.bind_some, Option.map_some, Option.bind_none, Option.map_none, cond_true, cond_false, List.map_cons, List.map_nil, List.cons_append, List.nil_append, List.getElem?_cons_zero, List.getElem?_cons_succ, List.set_cons_zero, List.set_cons_succ, List.length_cons, List.length_nil, List.replicate , e0, e1, e2, e4]
theorem lphi_ok {s x y : Int} (hs : s = 2 ∨ s = 3) (sx : Sz x 340) (sy : Sz y 340) {h : Cells} : F__law_phi [.int s, .int x, .int y] h = some (.int (Ph s x y), h) := by
  unfold Ph
  rcases hs with z | z
  · subst z; rw [if_pos rfl, ← Q2_eq]; exact lphi2_ok
  · subst z; rw [if_neg (by decide), ← Q3_eq]; exact lphi3_ok
theorem Ph_sym (s x y : Int) : Ph s y x = Ph s x y := by unfold Ph; rw [P2_sym, P3_sym]
/-! Kronecker -/
theorem kr2 (x y : Int) : (P2 x y - (x * x - y) * (x - y * y)) % 2 = 0 := by
  have : P2 x y - (x * x - y) * (x - y * y) = 2 * (744 * (x ^ 2 * y + x * y ^ 2) - 81000 * (x ^ 2 + y ^ 2) + 20386688 * x * y + 4374000000 * (x + y) - 78732000000000) := by unfold P2; grind
  rw [this, Int.mul_emod_right]
theorem kr3 (x y : Int) : (P3 x y - (x * x * x - y) * (x - y * y * y)) % 3 = 0 := by
  have : P3 x y - (x * x * x - y) * (x - y * y * y) = 3 * (744 * (x ^ 3 * y ^ 2 + x ^ 2 * y ^ 3) - 356652 * (x ^ 3 * y + x * y ^ 3) + 12288000 * (x ^ 3 + y ^ 3) + 862639362 * x ^ 2 * y ^ 2 + 2966740992000 * (x ^ 2 * y + x * y ^ 2) + 150994944000000 * (x ^ 2 + y ^ 2) - 256948655445333333 * x * y + 618475290624000000000 * (x + y)) := by unfold P3; grind
  rw [this, Int.mul_emod_right]
/-! sizes -/
theorem sz_lt {i : Int} {k : Nat} [a : Sz i k] : i.natAbs < 2 ^ k := a.lt
theorem P2_big {x y : Int} (sx : Sz x 340) (sy : Sz y 340) : (P2 x y).natAbs < 2 ^ 2200 := by
  unfold P2
  exact Nat.lt_of_lt_of_le sz_lt (Nat.pow_le_pow_right (by decide) (by decide))
theorem P3_big {x y : Int} (sx : Sz x 340) (sy : Sz y 340) : (P3 x y).natAbs < 2 ^ 2200 := by
  unfold P3
  exact Nat.lt_of_lt_of_le sz_lt (Nat.pow_le_pow_right (by decide) (by decide))
theorem Ph_big {s x y : Int} (sx : Sz x 340) (sy : Sz y 340) : (Ph s x y).natAbs < 2 ^ 2200 := by
  unfold Ph; split
  · exact P2_big sx sy
  · exact P3_big sx sy
end Law

set_option Elab.async false
set_option linter.all false
set_option maxRecDepth 100000
set_option maxHeartbeats 4000000
namespace Law
open PySem L2 Zm
/-! a drawn number -/
theorem sz_of {x : Int} (h : x.natAbs < 2 ^ 340) : Sz x 340 := ⟨h⟩
theorem sz_le {x : Int} {k : Nat} (h : x.natAbs < 2 ^ k) (l : k ≤ 340) : Sz x 340 := ⟨Nat.lt_of_lt_of_le h (Nat.pow_le_pow_right (by decide) l)⟩
theorem p9 : ((10 : Int) ^ 9) = 1000000000 := by decide
theorem far_ok {o p : Int} (ho : o.natAbs < 2 ^ 170) (h0 : 0 ≤ p) (h1 : p < 1000000000) : wideM o (1 + p) = true ∧ wideM (o * (1 + p)) 10000000000000000000000000000000000000000 = true ∧ Sz (o * (1 + p) * 10000000000000000000000000000000000000000) 340 := by
  have a : Sz o 170 := ⟨ho⟩
  have b : Sz (1 + p) 30 := ⟨(show (1 + p).natAbs < 1073741824 by omega)⟩
  have c : Sz 10000000000000000000000000000000000000000 133 := ⟨by decide +kernel⟩
  exact ⟨wide_c (by decide), wide_c (by decide), sz_le sz_lt (by decide)⟩
theorem mid_ok {s a b : Int} (hs : s = 1 ∨ s = -1) (a0 : 0 ≤ a) (a1 : a < 1000000000) (b0 : 0 ≤ b) (b1 : b < 1000000000) : wideM 1000000000000 b = true ∧ wideM s (a + 1000000000000 * b) = true ∧ Sz (s * (a + 1000000000000 * b)) 340 := by
  have y1 : Sz b 30 := ⟨(show b.natAbs < 1073741824 by omega)⟩
  have y2 : Sz a 30 := ⟨(show a.natAbs < 1073741824 by omega)⟩
  have y3 : Sz 1000000000000 40 := ⟨by decide⟩
  have y4 : Sz s 1 := ⟨by rcases hs with z | z <;> rw [z] <;> decide⟩
  exact ⟨wide_c (by decide), wide_c (by decide), sz_le sz_lt (by decide)⟩
theorem number_ok {h : Cells} {i n : Nat} (w : W h i n) (hn : n ≤ 900000) : ∃ x h', F__law_number [.cell i] h = some (.int x, h') ∧ Sz x 340 ∧ W h' i (n + 5) ∧ h'.length = h.length := by
  obtain ⟨r, h1, e1, r0, r1, w1, l1, _⟩ := pull_ok w 5 (by omega) (by decide) (by decide)
  rcases (show r = 0 ∨ r = 1 ∨ r = 2 ∨ r = 3 ∨ r = 4 by omega) with z | z | z | z | z <;> subst z
  · obtain ⟨X, h2, e2, mX, w2, l2, _⟩ := one_ok w1 (d := .tup [.int 0, .int 1728, .int (-3375), .int 8000, .int (-32768), .int 54000, .int 287496, .int (-12288000), .int 16581375]) (ds := [.int 0, .int 1728, .int (-3375), .int 8000, .int (-32768), .int 54000, .int 287496, .int (-12288000), .int 16581375]) rfl (fun _ z => by cases z) (by omega) (by simp) (by simp)
    obtain ⟨x, rfl, hx⟩ : ∃ x : Int, X = .int x ∧ x.natAbs < 2 ^ 30 := by
      simp only [List.mem_cons, List.not_mem_nil, or_false] at mX
      rcases mX with e | e | e | e | e | e | e | e | e <;> exact ⟨_, e, by decide⟩
    exact ⟨x, h2, by simp [F__law_number, b__law_number, mFun, line, mSeq, mAsg, mRet, mRetN, mDrop, mIfS, mTBin, mBin, mVar, mC, mCons, mNil, mTup, mLst, mLstC, mCB, mCall, mCallK, mIf, mAndV, mOrV, mNotV, mAnd, mOr, mNot, mTru, mUn, mChain, tB', mNx, mNev, mFor, mForL, mWhile, mComp, mCompL, mYes, gN, gT, gsCons, gsNil, gSubD, mApp, mPar, mPar3, mAugI, mSl, mSo, mNo, iR1, iR2, iR3, iS, iEn, iL, iT, asB, asL, asT, asLT, asInt, oB, oAdd, oSub, oMulA, oMul, oDiv, oMod, oPow, oNeg, cI, oEq, oNe, oIx, asSeq, oInt, oAbs, oLen, oMax2, oMin2, oDivmod, oIsi, tyD, okCell, truthD, mFrz, Option.bind_some, Option.map_some, Option.bind_none, Option.map_none, cond_true, cond_false, List.map_cons, List.map_nil, List.cons_append, List.nil_append, List.getElem?_cons_zero, List.getElem?_cons_succ, List.set_cons_zero, List.set_cons_succ, List.length_cons, List.length_nil, List.replicate , e1, e2], sz_le hx (by decide), w2.mono (by omega), by omega⟩
  · obtain ⟨p, h2, e2, p0, p1, w2, l2, _⟩ := pull_ok w1 41 (by omega) (by decide) (by decide)
    exact ⟨p - 20, h2, by simp [F__law_number, b__law_number, mFun, line, mSeq, mAsg, mRet, mRetN, mDrop, mIfS, mTBin, mBin, mVar, mC, mCons, mNil, mTup, mLst, mLstC, mCB, mCall, mCallK, mIf, mAndV, mOrV, mNotV, mAnd, mOr, mNot, mTru, mUn, mChain, tB', mNx, mNev, mFor, mForL, mWhile, mComp, mCompL, mYes, gN, gT, gsCons, gsNil, gSubD, mApp, mPar, mPar3, mAugI, mSl, mSo, mNo, iR1, iR2, iR3, iS, iEn, iL, iT, asB, asL, asT, asLT, asInt, oB, oAdd, oSub, oMulA, oMul, oDiv, oMod, oPow, oNeg, cI, oEq, oNe, oIx, asSeq, oInt, oAbs, oLen, oMax2, oMin2, oDivmod, oIsi, tyD, okCell, truthD, mFrz, Option.bind_some, Option.map_some, Option.bind_none, Option.map_none, cond_true, cond_false, List.map_cons, List.map_nil, List.cons_append, List.nil_append, List.getElem?_cons_zero, List.getElem?_cons_succ, List.set_cons_zero, List.set_cons_succ, List.length_cons, List.length_nil, List.replicate , e1, e2], sz_le (k := 30) (show (p - 20).natAbs < 1073741824 by omega) (by decide), w2.mono (by omega), by omega⟩
  · obtain ⟨X, h2, e2, mX, w2, l2, _⟩ := one_ok w1 (d := .tup [.int 1, .int (-1)]) (ds := [.int 1, .int (-1)]) rfl (fun _ z => by cases z) (by omega) (by simp) (by simp)
    obtain ⟨s, rfl, hs⟩ : ∃ s : Int, X = .int s ∧ (s = 1 ∨ s = -1) := by
      simp only [List.mem_cons, List.not_mem_nil, or_false] at mX
      rcases mX with e | e
      · exact ⟨_, e, .inl rfl⟩
      · exact ⟨_, e, .inr rfl⟩
    obtain ⟨a, h3, e3, a0, a1, w3, l3, _⟩ := pull_ok w2 1000000000 (by omega) (by decide) (by decide)
    obtain ⟨b, h4, e4, b0, b1, w4, l4, _⟩ := pull_ok w3 1000000000 (by omega) (by decide) (by decide)
    obtain ⟨q1, q2, q3⟩ := mid_ok hs a0 a1 b0 b1
    refine ⟨s * (a + 1000000000000 * b), h4, ?_, q3, w4.mono (by omega), by omega⟩
    simp [F__law_number, b__law_number, mFun, line, mSeq, mAsg, mRet, mRetN, mDrop, mIfS, mTBin, mBin, mVar, mC, mCons, mNil, mTup, mLst, mLstC, mCB, mCall, mCallK, mIf, mAndV, mOrV, mNotV, mAnd, mOr, mNot, mTru, mUn, mChain, tB', mNx, mNev, mFor, mForL, mWhile, mComp, mCompL, mYes, gN, gT, gsCons, gsNil, gSubD, mApp, mPar, mPar3, mAugI, mSl, mSo, mNo, iR1, iR2, iR3, iS, iEn, iL, iT, asB, asL, asT, asLT, asInt, oB, oAdd, oSub, oMulA, oMul, oDiv, oMod, oPow, oNeg, cI, oEq, oNe, oIx, asSeq, oInt, oAbs, oLen, oMax2, oMin2, oDivmod, oIsi, tyD, okCell, truthD, mFrz, Option.bind_some, Option.map_some, Option.bind_none, Option.map_none, cond_true, cond_false, List.map_cons, List.map_nil, List.cons_append, List.nil_append, List.getElem?_cons_zero, List.getElem?_cons_succ, List.set_cons_zero, List.set_cons_succ, List.length_cons, List.length_nil, List.replicate , e1, e2, e3, e4, q1, q2]
  · obtain ⟨X, h2, e2, mX, w2, l2, _⟩ := one_ok w1 (d := .tup [.int 100000000000000000000000000000000000000000000000000, .int 10000000000000000000000000000000000000000000000007]) (ds := [.int 100000000000000000000000000000000000000000000000000, .int 10000000000000000000000000000000000000000000000007]) rfl (fun _ z => by cases z) (by omega) (by simp) (by simp)
    obtain ⟨o, rfl, ho⟩ : ∃ o : Int, X = .int o ∧ o.natAbs < 2 ^ 170 := by
      simp only [List.mem_cons, List.not_mem_nil, or_false] at mX
      rcases mX with e | e
      · exact ⟨_, e, by decide +kernel⟩
      · exact ⟨_, e, by decide +kernel⟩
    obtain ⟨p, h3, e3, p0, p1, w3, l3, _⟩ := pull_ok w2 1000000000 (by omega) (by decide) (by decide)
    obtain ⟨q1, q2, q3⟩ := far_ok ho p0 p1
    generalize hf : o * (1 + p) * 10000000000000000000000000000000000000000 = far at *
    obtain ⟨Y, h4, e4, mY, w4, l4, _⟩ := one_ok w3 (d := .tup [.int far, .int (-far)]) (ds := [.int far, .int (-far)]) rfl (fun _ z => by cases z) (by omega) (by simp) (by simp)
    obtain ⟨x, rfl, hx⟩ : ∃ x : Int, Y = .int x ∧ x.natAbs < 2 ^ 340 := by
      simp only [List.mem_cons, List.not_mem_nil, or_false] at mY
      rcases mY with e | e
      · exact ⟨_, e, q3.lt⟩
      · exact ⟨_, e, by rw [Int.natAbs_neg]; exact q3.lt⟩
    refine ⟨x, h4, ?_, sz_of hx, w4.mono (by omega), by omega⟩
    simp [F__law_number, b__law_number, mFun, line, mSeq, mAsg, mRet, mRetN, mDrop, mIfS, mTBin, mBin, mVar, mC, mCons, mNil, mTup, mLst, mLstC, mCB, mCall, mCallK, mIf, mAndV, mOrV, mNotV, mAnd, mOr, mNot, mTru, mUn, mChain, tB', mNx, mNev, mFor, mForL, mWhile, mComp, mCompL, mYes, gN, gT, gsCons, gsNil, gSubD, mApp, mPar, mPar3, mAugI, mSl, mSo, mNo, iR1, iR2, iR3, iS, iEn, iL, iT, asB, asL, asT, asLT, asInt, oB, oAdd, oSub, oMulA, oMul, oDiv, oMod, oPow, oNeg, cI, oEq, oNe, oIx, asSeq, oInt, oAbs, oLen, oMax2, oMin2, oDivmod, oIsi, tyD, okCell, truthD, mFrz, Option.bind_some, Option.map_some, Option.bind_none, Option.map_none, cond_true, cond_false, List.map_cons, List.map_nil, List.cons_append, List.nil_append, List.getElem?_cons_zero, List.getElem?_cons_succ, List.set_cons_zero, List.set_cons_succ, List.length_cons, List.length_nil, List.replicate , e1, e2, e3, q1, q2, hf, e4]
  · obtain ⟨p, h2, e2, p0, p1, w2, l2, _⟩ := pull_ok w1 4001 (by omega) (by decide) (by decide)
    exact ⟨p - 2000, h2, by simp [F__law_number, b__law_number, mFun, line, mSeq, mAsg, mRet, mRetN, mDrop, mIfS, mTBin, mBin, mVar, mC, mCons, mNil, mTup, mLst, mLstC, mCB, mCall, mCallK, mIf, mAndV, mOrV, mNotV, mAnd, mOr, mNot, mTru, mUn, mChain, tB', mNx, mNev, mFor, mForL, mWhile, mComp, mCompL, mYes, gN, gT, gsCons, gsNil, gSubD, mApp, mPar, mPar3, mAugI, mSl, mSo, mNo, iR1, iR2, iR3, iS, iEn, iL, iT, asB, asL, asT, asLT, asInt, oB, oAdd, oSub, oMulA, oMul, oDiv, oMod, oPow, oNeg, cI, oEq, oNe, oIx, asSeq, oInt, oAbs, oLen, oMax2, oMin2, oDivmod, oIsi, tyD, okCell, truthD, mFrz, Option.bind_some, Option.map_some, Option.bind_none, Option.map_none, cond_true, cond_false, List.map_cons, List.map_nil, List.cons_append, List.nil_append, List.getElem?_cons_zero, List.getElem?_cons_succ, List.set_cons_zero, List.set_cons_succ, List.length_cons, List.length_nil, List.replicate , e1, e2], sz_le (k := 30) (show (p - 2000).natAbs < 1073741824 by omega) (by decide), w2.mono (by omega), by omega⟩
end Law

set_option Elab.async false
set_option linter.all false
set_option maxRecDepth 100000
set_option maxHeartbeats 4000000
namespace Law
open PySem L2 Zm
/-! the round -/
theorem is_ok {h : Cells} {d : D} {s : Str} (e : oReprB h [d] = some (.str s)) : F__law_is [d, d] h = some (.bl true, h) := by
  simp [F__law_is, b__law_is, mFun, line, mSeq, mAsg, mRet, mRetN, mDrop, mIfS, mTBin, mBin, mVar, mC, mCons, mNil, mTup, mLst, mLstC, mCB, mCall, mCallK, mIf, mAndV, mOrV, mNotV, mAnd, mOr, mNot, mTru, mUn, mChain, tB', mNx, mNev, mFor, mForL, mWhile, mComp, mCompL, mYes, gN, gT, gsCons, gsNil, gSubD, mApp, mPar, mPar3, mAugI, mSl, mSo, mNo, iR1, iR2, iR3, iS, iEn, iL, iT, asB, asL, asT, asLT, asInt, oB, oAdd, oSub, oMulA, oMul, oDiv, oMod, oPow, oNeg, cI, oEq, oNe, oIx, asSeq, oInt, oAbs, oLen, oMax2, oMin2, oDivmod, oIsi, tyD, okCell, truthD, mFrz, Option.bind_some, Option.map_some, Option.bind_none, Option.map_none, cond_true, cond_false, List.map_cons, List.map_nil, List.cons_append, List.nil_append, List.getElem?_cons_zero, List.getElem?_cons_succ, List.set_cons_zero, List.set_cons_succ, List.length_cons, List.length_nil, List.replicate , e]
theorem repr3 {h : Cells} {x : Int} (hx : x.natAbs < 2 ^ 2200) : ∃ s, oReprB h [.lst [.int x, .int x, .int x]] = some (.str s) := by
  refine ⟨listText (Bg.bigT [x, x, x]), ?_⟩
  have b : bigB [x, x, x] = true := by
    unfold bigB
    rw [List.all_eq_true]
    intro y hy
    have : y = x := by simpa using hy
    subst this
    exact decide_eq_true hx
  unfold oReprB
  have e : intsO [.int x, .int x, .int x] = some [x, x, x] := rfl
  simp only [e, Option.bind_some, b]
  rfl
theorem mul3 {h : Cells} {x : Int} : oMulA h (.lst [.int x]) (.int 3) = some (.lst [.int x, .int x, .int x]) := by
  have : line = line := rfl
  simp (decide := true) [oMulA, List.replicate]
theorem mul8 {h : Cells} : oMulA h (.lst [.int 0]) (.int 8) = some (.lst [.int 0, .int 0, .int 0, .int 0, .int 0, .int 0, .int 0, .int 0]) := by
  simp (decide := true) [oMulA, List.replicate]
theorem repr8 {h : Cells} : ∃ s, oReprB h [.lst [.int 0, .int 0, .int 0, .int 0, .int 0, .int 0, .int 0, .int 0]] = some (.str s) := by
  refine ⟨listText (Bg.bigT [0, 0, 0, 0, 0, 0, 0, 0]), ?_⟩
  have b : bigB [0, 0, 0, 0, 0, 0, 0, 0] = true := by
    unfold bigB
    rw [List.all_eq_true]
    intro y hy
    have : y = 0 := by simpa using hy
    subst this
    exact decide_eq_true (two_pos 2200)
  unfold oReprB
  have e : intsO [.int 0, .int 0, .int 0, .int 0, .int 0, .int 0, .int 0, .int 0] = some [0, 0, 0, 0, 0, 0, 0, 0] := rfl
  simp only [e, Option.bind_some, b]
  rfl
abbrev rS0 : MB := (mPar3 2 3 4 (mCons (mCall 1 F__law_number (mCons (mVar 0) mNil)) (mCons (mCall 1 F__law_number (mCons (mVar 0) mNil)) (mCons (mCall 2 F__law_one (mCons (mVar 0) (mCons (mTup (mCons (mC (.int 2)) (mCons (mC (.int 3)) mNil))) mNil))) mNil))))
abbrev rS1 : MB := (mAsg (mCall 3 F__law_phi (mCons (mVar 4) (mCons (mVar 2) (mCons (mVar 3) mNil)))) (gN 5))
abbrev rS2 : MB := (mIfS (mNot (mTru (mCall 2 F__law_is (mCons (mLst (mCons (mCall 3 F_phi (mCons (mVar 4) (mCons (mVar 2) (mCons (mVar 3) mNil)))) (mCons (mCall 3 F_phi (mCons (mVar 4) (mCons (mVar 3) (mCons (mVar 2) mNil)))) (mCons (mCallK 3 (permK [2, 1, 0]) F_phi mNil (mCons (mVar 3) (mCons (mVar 2) (mCons (mVar 4) mNil)))) mNil)))) (mCons (mBin oMulA (mLst (mCons (mVar 5) mNil)) (mC (.int 3))) mNil))))) (mRet (mC (.bl false))) mNx)
abbrev rS3 : MB := (mAsg (mIf (mTBin oEq (mVar 4) (mC (.int 2))) (mTup (mCons (mBin oSub (mBin oMulA (mVar 2) (mVar 2)) (mVar 3)) (mCons (mBin oSub (mVar 2) (mBin oMulA (mVar 3) (mVar 3))) mNil))) (mTup (mCons (mBin oSub (mBin oMulA (mBin oMulA (mVar 2) (mVar 2)) (mVar 2)) (mVar 3)) (mCons (mBin oSub (mVar 2) (mBin oMulA (mBin oMulA (mVar 3) (mVar 3)) (mVar 3))) mNil)))) (gT 2 (gsCons (gN 6) (gsCons (gN 7) gsNil))))
abbrev rS4 : MB := (mIfS (mTBin oNe (mBin oMod (mCB oInt (mCons (mBin oSub (mVar 5) (mBin oMulA (mVar 6) (mVar 7))) mNil)) (mVar 4)) (mC (.int 0))) (mRet (mC (.bl false))) mNx)
abbrev rB : MB := (mSeq rS0
    (mSeq rS1
    (mSeq rS2
    (mSeq rS3
    rS4))))
abbrev rF : MB := (mFor (iR1 (mCons (mC (.int 5)) mNil)) (gN 1) rB)
theorem b_rr_eq : b__law_right = (mSeq rF
    (mSeq (mAsg (mLst (mCons (mCall 3 F_phi (mCons (mC (.int 2)) (mCons (mC (.int 1728)) (mCons (mC (.int 287496)) mNil)))) (mCons (mCall 3 F_phi (mCons (mC (.int 2)) (mCons (mC (.int 54000)) (mCons (mC (.int 0)) mNil)))) (mCons (mCall 3 F_phi (mCons (mC (.int 2)) (mCons (mC (.int 8000)) (mCons (mC (.int 8000)) mNil)))) (mCons (mCall 3 F_phi (mCons (mC (.int 2)) (mCons (mUn oNeg (mC (.int 3375))) (mCons (mC (.int 16581375)) mNil)))) mNil))))) (gN 8))
    (mSeq (mAsg (mBin oAdd (mVar 8) (mLst (mCons (mCall 3 F_phi (mCons (mC (.int 3)) (mCons (mC (.int 0)) (mCons (mUn oNeg (mC (.int 12288000))) mNil)))) (mCons (mCall 3 F_phi (mCons (mC (.int 3)) (mCons (mC (.int 8000)) (mCons (mC (.int 8000)) mNil)))) (mCons (mCall 3 F_phi (mCons (mC (.int 3)) (mCons (mUn oNeg (mC (.int 32768))) (mCons (mUn oNeg (mC (.int 32768))) mNil)))) (mCons (mCall 3 F_phi (mCons (mC (.int 3)) (mCons (mC (.int 54000)) (mCons (mC (.int 54000)) mNil)))) mNil)))))) (gN 8))
    (mRet (mCall 2 F__law_is (mCons (mVar 8) (mCons (mBin oMulA (mLst (mCons (mC (.int 0)) mNil)) (mC (.int 8))) mNil))))))) := rfl
theorem s0_ok {h : Cells} {i n : Nat} (w : W h i n) (hn : n ≤ 800000) {t a b c d e f g : Option D} : ∃ x y s h', rS0 ⟨[some (.cell i), t, a, b, c, d, e, f, g], h⟩ = some (.nx, ⟨[some (.cell i), t, some (.int x), some (.int y), some (.int s), d, e, f, g], h'⟩) ∧ Sz x 340 ∧ Sz y 340 ∧ (s = 2 ∨ s = 3) ∧ W h' i (n + 20) ∧ h'.length = h.length := by
  obtain ⟨x, h1, e1, sx, w1, l1⟩ := number_ok w (by omega)
  obtain ⟨y, h2, e2, sy, w2, l2⟩ := number_ok w1 (by omega)
  obtain ⟨X, h3, e3, mX, w3, l3, _⟩ := one_ok w2 (d := .tup [.int 2, .int 3]) (ds := [.int 2, .int 3]) rfl (fun _ z => by cases z) (by omega) (by simp) (by simp)
  obtain ⟨s, rfl, hs⟩ : ∃ s : Int, X = .int s ∧ (s = 2 ∨ s = 3) := by
    simp only [List.mem_cons, List.not_mem_nil, or_false] at mX
    rcases mX with e | e
    · exact ⟨_, e, .inl rfl⟩
    · exact ⟨_, e, .inr rfl⟩
  refine ⟨x, y, s, h3, ?_, sx, sy, hs, w3.mono (by omega), by omega⟩
  simp [rS0, mFun, line, mSeq, mAsg, mRet, mRetN, mDrop, mIfS, mTBin, mBin, mVar, mC, mCons, mNil, mTup, mLst, mLstC, mCB, mCall, mCallK, mIf, mAndV, mOrV, mNotV, mAnd, mOr, mNot, mTru, mUn, mChain, tB', mNx, mNev, mFor, mForL, mWhile, mComp, mCompL, mYes, gN, gT, gsCons, gsNil, gSubD, mApp, mPar, mPar3, mAugI, mSl, mSo, mNo, iR1, iR2, iR3, iS, iEn, iL, iT, asB, asL, asT, asLT, asInt, oB, oAdd, oSub, oMulA, oMul, oDiv, oMod, oPow, oNeg, cI, oEq, oNe, oIx, asSeq, oInt, oAbs, oLen, oMax2, oMin2, oDivmod, oIsi, tyD, okCell, truthD, mFrz, Option.bind_some, Option.map_some, Option.bind_none, Option.map_none, cond_true, cond_false, List.map_cons, List.map_nil, List.cons_append, List.nil_append, List.getElem?_cons_zero, List.getElem?_cons_succ, List.set_cons_zero, List.set_cons_succ, List.length_cons, List.length_nil, List.replicate , e1, e2, e3]
theorem s1_ok {h : Cells} {i : Nat} {x y s : Int} (sx : Sz x 340) (sy : Sz y 340) (hs : s = 2 ∨ s = 3) {t d e f g : Option D} : rS1 ⟨[some (.cell i), t, some (.int x), some (.int y), some (.int s), d, e, f, g], h⟩ = some (.nx, ⟨[some (.cell i), t, some (.int x), some (.int y), some (.int s), some (.int (Ph s x y)), e, f, g], h⟩) := by
  have e1 := lphi_ok hs sx sy (h := h)
  generalize Ph s x y = R at *
  simp [rS1, mFun, line, mSeq, mAsg, mRet, mRetN, mDrop, mIfS, mTBin, mBin, mVar, mC, mCons, mNil, mTup, mLst, mLstC, mCB, mCall, mCallK, mIf, mAndV, mOrV, mNotV, mAnd, mOr, mNot, mTru, mUn, mChain, tB', mNx, mNev, mFor, mForL, mWhile, mComp, mCompL, mYes, gN, gT, gsCons, gsNil, gSubD, mApp, mPar, mPar3, mAugI, mSl, mSo, mNo, iR1, iR2, iR3, iS, iEn, iL, iT, asB, asL, asT, asLT, asInt, oB, oAdd, oSub, oMulA, oMul, oDiv, oMod, oPow, oNeg, cI, oEq, oNe, oIx, asSeq, oInt, oAbs, oLen, oMax2, oMin2, oDivmod, oIsi, tyD, okCell, truthD, mFrz, Option.bind_some, Option.map_some, Option.bind_none, Option.map_none, cond_true, cond_false, List.map_cons, List.map_nil, List.cons_append, List.nil_append, List.getElem?_cons_zero, List.getElem?_cons_succ, List.set_cons_zero, List.set_cons_succ, List.length_cons, List.length_nil, List.replicate , e1]
theorem s2_ok {h : Cells} {i : Nat} {x y s : Int} (sx : Sz x 340) (sy : Sz y 340) (hs : s = 2 ∨ s = 3) {t e f g : Option D} : rS2 ⟨[some (.cell i), t, some (.int x), some (.int y), some (.int s), some (.int (Ph s x y)), e, f, g], h⟩ = some (.nx, ⟨[some (.cell i), t, some (.int x), some (.int y), some (.int s), some (.int (Ph s x y)), e, f, g], h⟩) := by
  have e1 := phi_ok hs sx sy (h := h)
  have e2 := phi_ok hs sy sx (h := h)
  rw [Ph_sym] at e2
  obtain ⟨S, e3⟩ := repr3 (h := h) (Ph_big (s := s) sx sy)
  have e4 := mul3 (h := h) (x := Ph s x y)
  generalize Ph s x y = R at *
  have e5 := is_ok e3
  simp [rS2, mFun, line, mSeq, mAsg, mRet, mRetN, mDrop, mIfS, mTBin, mBin, mVar, mC, mCons, mNil, mTup, mLst, mLstC, mCB, mCall, mCallK, mIf, mAndV, mOrV, mNotV, mAnd, mOr, mNot, mTru, mUn, mChain, tB', mNx, mNev, mFor, mWhile, mComp, mCompL, mYes, gN, gT, gsCons, gsNil, gSubD, mApp, mPar, mPar3, mAugI, mSl, mSo, mNo, iR1, iR2, iR3, iS, iEn, iL, iT, asB, asL, asT, asLT, asInt, oB, oAdd, oSub, oMul, oDiv, oMod, oPow, oNeg, cI, oIx, asSeq, oInt, oAbs, oLen, oMax2, oMin2, oDivmod, oIsi, tyD, okCell, truthD, mFrz, Option.bind_some, Option.map_some, Option.bind_none, Option.map_none, cond_true, cond_false, List.map_cons, List.map_nil, List.cons_append, List.nil_append, List.getElem?_cons_zero, List.getElem?_cons_succ, List.set_cons_zero, List.set_cons_succ, List.length_cons, List.length_nil, List.replicate , permK, permL, e1, e2, e4, e5]
theorem s3_ok {h : Cells} {i : Nat} {x y s : Int} (sx : Sz x 340) (sy : Sz y 340) (hs : s = 2 ∨ s = 3) {t d e f g : Option D} : ∃ p q, rS3 ⟨[some (.cell i), t, some (.int x), some (.int y), some (.int s), d, e, f, g], h⟩ = some (.nx, ⟨[some (.cell i), t, some (.int x), some (.int y), some (.int s), d, some (.int p), some (.int q), g], h⟩) ∧ wideM p q = true ∧ (Ph s x y - p * q) % s = 0 := by
  rcases hs with z | z
  · subst z
    refine ⟨x * x - y, x - y * y, ?_, wide_c (by decide), kr2 x y⟩
    simp (decide := true) [rS3, mFun, line, mSeq, mAsg, mRet, mRetN, mDrop, mIfS, mTBin, mBin, mVar, mC, mCons, mNil, mTup, mLst, mLstC, mCB, mCall, mCallK, mIf, mAndV, mOrV, mNotV, mAnd, mOr, mNot, mTru, mUn, mChain, tB', mNx, mNev, mFor, mForL, mWhile, mComp, mCompL, mYes, gN, gT, gsCons, gsNil, gSubD, mApp, mPar, mPar3, mAugI, mSl, mSo, mNo, iR1, iR2, iR3, iS, iEn, iL, iT, asB, asL, asT, asLT, asInt, oB, oAdd, oSub, oMulA, oMul, oDiv, oMod, oPow, oNeg, cI, oEq, oNe, oIx, asSeq, oInt, oAbs, oLen, oMax2, oMin2, oDivmod, oIsi, tyD, okCell, truthD, mFrz, Option.bind_some, Option.map_some, Option.bind_none, Option.map_none, cond_true, cond_false, List.map_cons, List.map_nil, List.cons_append, List.nil_append, List.getElem?_cons_zero, List.getElem?_cons_succ, List.set_cons_zero, List.set_cons_succ, List.length_cons, List.length_nil, List.replicate , wide_c]
  · subst z
    refine ⟨x * x * x - y, x - y * y * y, ?_, wide_c (by decide), kr3 x y⟩
    simp (decide := true) [rS3, mFun, line, mSeq, mAsg, mRet, mRetN, mDrop, mIfS, mTBin, mBin, mVar, mC, mCons, mNil, mTup, mLst, mLstC, mCB, mCall, mCallK, mIf, mAndV, mOrV, mNotV, mAnd, mOr, mNot, mTru, mUn, mChain, tB', mNx, mNev, mFor, mForL, mWhile, mComp, mCompL, mYes, gN, gT, gsCons, gsNil, gSubD, mApp, mPar, mPar3, mAugI, mSl, mSo, mNo, iR1, iR2, iR3, iS, iEn, iL, iT, asB, asL, asT, asLT, asInt, oB, oAdd, oSub, oMulA, oMul, oDiv, oMod, oPow, oNeg, cI, oEq, oNe, oIx, asSeq, oInt, oAbs, oLen, oMax2, oMin2, oDivmod, oIsi, tyD, okCell, truthD, mFrz, Option.bind_some, Option.map_some, Option.bind_none, Option.map_none, cond_true, cond_false, List.map_cons, List.map_nil, List.cons_append, List.nil_append, List.getElem?_cons_zero, List.getElem?_cons_succ, List.set_cons_zero, List.set_cons_succ, List.length_cons, List.length_nil, List.replicate , wide_c]
theorem s4_ok {h : Cells} {i : Nat} {x y s p q R : Int} (hs : s = 2 ∨ s = 3) (c1 : wideM p q = true) (c2 : (R - p * q) % s = 0) {t g : Option D} : rS4 ⟨[some (.cell i), t, some (.int x), some (.int y), some (.int s), some (.int R), some (.int p), some (.int q), g], h⟩ = some (.nx, ⟨[some (.cell i), t, some (.int x), some (.int y), some (.int s), some (.int R), some (.int p), some (.int q), g], h⟩) := by
  have c3 : 0 < s := by omega
  simp [rS4, mFun, line, mSeq, mAsg, mRet, mRetN, mDrop, mIfS, mTBin, mBin, mVar, mC, mCons, mNil, mTup, mLst, mLstC, mCB, mCall, mCallK, mIf, mAndV, mOrV, mNotV, mAnd, mOr, mNot, mTru, mUn, mChain, tB', mNx, mNev, mFor, mForL, mWhile, mComp, mCompL, mYes, gN, gT, gsCons, gsNil, gSubD, mApp, mPar, mPar3, mAugI, mSl, mSo, mNo, iR1, iR2, iR3, iS, iEn, iL, iT, asB, asL, asT, asLT, asInt, oB, oAdd, oSub, oMulA, oMul, oDiv, oMod, oPow, oNeg, cI, oEq, oNe, oIx, asSeq, oInt, oAbs, oLen, oMax2, oMin2, oDivmod, oIsi, tyD, okCell, truthD, mFrz, Option.bind_some, Option.map_some, Option.bind_none, Option.map_none, cond_true, cond_false, List.map_cons, List.map_nil, List.cons_append, List.nil_append, List.getElem?_cons_zero, List.getElem?_cons_succ, List.set_cons_zero, List.set_cons_succ, List.length_cons, List.length_nil, List.replicate , c1, c2, c3]
theorem rb_ok {h : Cells} {i n : Nat} (w : W h i n) (hn : n ≤ 800000) {t a b c d e f g : Option D} : ∃ a' b' c' d' e' f' h', rB ⟨[some (.cell i), t, a, b, c, d, e, f, g], h⟩ = some (.nx, ⟨[some (.cell i), t, a', b', c', d', e', f', g], h'⟩) ∧ W h' i (n + 20) ∧ h'.length = h.length := by
  obtain ⟨x, y, s, h', e0, sx, sy, hs, w1, l1⟩ := s0_ok w hn (t := t) (a := a) (b := b) (c := c) (d := d) (e := e) (f := f) (g := g)
  have e1 := s1_ok (i := i) (h := h') sx sy hs (t := t) (d := d) (e := e) (f := f) (g := g)
  have e2 := s2_ok (i := i) (h := h') sx sy hs (t := t) (e := e) (f := f) (g := g)
  obtain ⟨p, q, e3, c1, c2⟩ := s3_ok (i := i) (h := h') sx sy hs (t := t) (d := some (.int (Ph s x y))) (e := e) (f := f) (g := g)
  have e4 := s4_ok (i := i) (h := h') (x := x) (y := y) hs c1 c2 (t := t) (g := g)
  refine ⟨some (.int x), some (.int y), some (.int s), some (.int (Ph s x y)), some (.int p), some (.int q), h', ?_, w1, l1⟩
  unfold rB
  generalize rS0 = A0 at *
  generalize rS1 = A1 at *
  generalize rS2 = A2 at *
  generalize rS3 = A3 at *
  generalize rS4 = A4 at *
  simp only [mSeq, e0, e1, e2, e3, e4, Option.bind_some]
theorem rf_ok : ∀ (l : List Int) {h : Cells} {i n : Nat}, W h i n → n + 20 * l.length ≤ 800000 → ∀ (t a b c d e f g : Option D), ∃ t' a' b' c' d' e' f' h', mForL (gN 1) rB (l.map D.int) ⟨[some (.cell i), t, a, b, c, d, e, f, g], h⟩ = some (.nx, ⟨[some (.cell i), t', a', b', c', d', e', f', g], h'⟩) ∧ W h' i (n + 20 * l.length) ∧ h'.length = h.length
  | [], h, i, n, w, hn, t, a, b, c, d, e, f, g => ⟨t, a, b, c, d, e, f, h, rfl, w, rfl⟩
  | x :: l, h, i, n, w, hn, t, a, b, c, d, e, f, g => by
    rw [List.length_cons] at hn
    obtain ⟨a1, b1, c1, d1, f1, g1, h1, e1, w1, l1⟩ := rb_ok w (by omega) (t := some (.int x)) (a := a) (b := b) (c := c) (d := d) (e := e) (f := f) (g := g)
    obtain ⟨t2, a2, b2, c2, d2, f2, g2, h2, e2, w2, l2⟩ := rf_ok l w1 (by omega) (some (.int x)) a1 b1 c1 d1 f1 g1 g
    refine ⟨t2, a2, b2, c2, d2, f2, g2, h2, ?_, w2.mono (by rw [List.length_cons]; omega), by omega⟩
    rw [List.map_cons, ← e2]
    generalize rB = E at *
    show (E ⟨[some (.cell i), some (.int x), a, b, c, d, e, f, g], h⟩).bind _ = _
    rw [e1]; rfl
instance : Sz 0 340 := ⟨two_pos _⟩
theorem k_phi {h : Cells} {s x y r : Int} (hs : s = 2 ∨ s = 3) (hx : x.natAbs < 2 ^ 30) (hy : y.natAbs < 2 ^ 30) (e : Ph s x y = r) : F_phi [.int s, .int x, .int y] h = some (.int r, h) := by
  rw [← e]; exact phi_ok hs (sz_le hx (by decide)) (sz_le hy (by decide))
theorem right_ok {h : Cells} {i : Nat} (w : W h i 0) : ∃ h', F__law_right [.cell i] h = some (.bl true, h') ∧ (∀ ds ∈ h', cleans ds = true) ∧ h'.length = h.length := by
  obtain ⟨t', a', b', c', d', e', f', h', e1, w1, l1⟩ := rf_ok [0, 1, 2, 3, 4] w (by decide) none none none none none none none none
  refine ⟨h', ?_, w1.cl, l1⟩
  have eF : rF ⟨[some (.cell i), none, none, none, none, none, none, none, none], h⟩ = some (.nx, ⟨[some (.cell i), t', a', b', c', d', e', f', none], h'⟩) := by
    refine for_iR1 (j := 5) (h1 := h) rfl (by decide) ?_
    exact e1
  have q1 := k_phi (h := h') (s := 2) (x := 1728) (y := 287496) (r := 0) (.inl rfl) (by decide) (by decide) (by decide)
  have q2 := k_phi (h := h') (s := 2) (x := 54000) (y := 0) (r := 0) (.inl rfl) (by decide) (by decide) (by decide)
  have q3 := k_phi (h := h') (s := 2) (x := 8000) (y := 8000) (r := 0) (.inl rfl) (by decide) (by decide) (by decide)
  have q4 := k_phi (h := h') (s := 2) (x := -3375) (y := 16581375) (r := 0) (.inl rfl) (by decide) (by decide) (by decide)
  have q5 := k_phi (h := h') (s := 3) (x := 0) (y := -12288000) (r := 0) (.inr rfl) (by decide) (by decide) (by decide)
  have q6 := k_phi (h := h') (s := 3) (x := 8000) (y := 8000) (r := 0) (.inr rfl) (by decide) (by decide) (by decide)
  have q7 := k_phi (h := h') (s := 3) (x := -32768) (y := -32768) (r := 0) (.inr rfl) (by decide) (by decide) (by decide)
  have q8 := k_phi (h := h') (s := 3) (x := 54000) (y := 54000) (r := 0) (.inr rfl) (by decide) (by decide) (by decide)
  obtain ⟨S, eS⟩ := repr8 (h := h')
  have q9 := is_ok eS
  have q10 := mul8 (h := h')
  unfold F__law_right
  rw [b_rr_eq]
  generalize rF = E at *
  simp (decide := true) [mFun, line, mSeq, mAsg, mRet, mRetN, mDrop, mIfS, mTBin, mBin, mVar, mC, mCons, mNil, mTup, mLst, mLstC, mCB, mCall, mCallK, mIf, mAndV, mOrV, mNotV, mAnd, mOr, mNot, mTru, mUn, mChain, tB', mNx, mNev, mFor, mWhile, mComp, mCompL, mYes, gN, gT, gsCons, gsNil, gSubD, mApp, mPar, mPar3, mAugI, mSl, mSo, mNo, iR1, iR2, iR3, iS, iEn, iL, iT, asB, asL, asT, asLT, asInt, oB, oAdd, oSub, oMul, oDiv, oMod, oPow, oNeg, cI, oIx, asSeq, oInt, oAbs, oLen, oMax2, oMin2, oDivmod, oIsi, tyD, okCell, truthD, mFrz, Option.bind_some, Option.map_some, Option.bind_none, Option.map_none, cond_true, cond_false, List.map_cons, List.map_nil, List.cons_append, List.nil_append, List.getElem?_cons_zero, List.getElem?_cons_succ, List.set_cons_zero, List.set_cons_succ, List.length_cons, List.length_nil, List.replicate , eF, q1, q2, q3, q4, q5, q6, q7, q8, q9, q10]
end Law

set_option Elab.async false
set_option linter.all false
set_option maxRecDepth 100000
set_option maxHeartbeats 4000000
namespace Law
open PySem L2 Zm
/-! the laps -/
abbrev laB : MB := (mIfS (mNot (mTru (mCall 1 F__law_right (mCons (mCall 2 F__law_urn (mCons (mVar 0) (mCons (mVar 1) mNil))) mNil)))) (mRet (mC (.bl false))) mNx)
theorem b_la_eq : b_law = (mSeq (mFor (iR1 (mCons (mCB oMax2 (mCons (mC (.int 2)) (mCons (mCB oMin2 (mCons (mCB oLen (mCons (mVar 0) mNil)) (mCons (mC (.int 6)) mNil))) mNil))) mNil)) (gN 1) laB)
    (mRet (mC (.bl true)))) := rfl
theorem la_loop (ns : List Int) (hns : ns.length ≤ 63) : ∀ (l : List Nat), (∀ x ∈ l, x ≤ 70) → ∀ (h : Cells) (c : Option D), (∀ ds ∈ h, cleans ds = true) → ∃ h' c', mForL (gN 1) laB (l.map fun (x : Nat) => D.int x) ⟨[some (.frl (ns.map D.int)), c], h⟩ = some (.nx, ⟨[some (.frl (ns.map D.int)), c'], h'⟩)
  | [], _, h, c, _ => ⟨h, c, rfl⟩
  | x :: l, hl, h, c, hc => by
    obtain ⟨a, m, e1, w⟩ := urn_ok ns hns x (hl x List.mem_cons_self) h hc
    obtain ⟨h2, e2, c2, l2⟩ := right_ok w
    obtain ⟨h3, c3, e3⟩ := la_loop ns hns l (fun y hy => hl y (List.mem_cons_of_mem _ hy)) h2 (some (.int x)) c2
    refine ⟨h3, c3, ?_⟩
    have ee : laB ⟨[some (.frl (ns.map D.int)), some (.int x)], h⟩ = some (.nx, ⟨[some (.frl (ns.map D.int)), some (.int x)], h2⟩) := by
      generalize ns.map D.int = L at *
      simp [laB, mFun, line, mSeq, mAsg, mRet, mRetN, mDrop, mIfS, mTBin, mBin, mVar, mC, mCons, mNil, mTup, mLst, mLstC, mCB, mCall, mCallK, mIf, mAndV, mOrV, mNotV, mAnd, mOr, mNot, mTru, mUn, mChain, tB', mNx, mNev, mFor, mForL, mWhile, mComp, mCompL, mYes, gN, gT, gsCons, gsNil, gSubD, mApp, mPar, mPar3, mAugI, mSl, mSo, mNo, iR1, iR2, iR3, iS, iEn, iL, iT, asB, asL, asT, asLT, asInt, oB, oAdd, oSub, oMulA, oMul, oDiv, oMod, oPow, oNeg, cI, oEq, oNe, oIx, asSeq, oInt, oAbs, oLen, oMax2, oMin2, oDivmod, oIsi, tyD, okCell, truthD, mFrz, Option.bind_some, Option.map_some, Option.bind_none, Option.map_none, cond_true, cond_false, List.map_cons, List.map_nil, List.cons_append, List.nil_append, List.getElem?_cons_zero, List.getElem?_cons_succ, List.set_cons_zero, List.set_cons_succ, List.length_cons, List.length_nil, List.replicate , e1, e2]
    rw [List.map_cons, ← e3]
    generalize laB = E at *
    show (E ⟨[some (.frl (ns.map D.int)), some (.int x)], h⟩).bind _ = _
    rw [ee]; rfl
theorem la_ec {ns : List Int} {h' : Cells} {c' : Option D} {k : Nat} {M : Int} (hm2 : oMin2 [] [.int ns.length, .int 6] = some (.int M)) (hk2 : oMax2 [] [.int 2, .int M] = some (.int k)) (hk : k ≤ 70) (B : MB) (e : mForL (gN 1) B ((List.range k).map fun (x : Nat) => D.int x) ⟨[some (.frl (ns.map D.int)), none], []⟩ = some (.nx, ⟨[some (.frl (ns.map D.int)), c'], h'⟩)) : mFor (iR1 (mCons (mCB oMax2 (mCons (mC (.int 2)) (mCons (mCB oMin2 (mCons (mCB oLen (mCons (mVar 0) mNil)) (mCons (mC (.int 6)) mNil))) mNil))) mNil)) (gN 1) B ⟨[some (.frl (ns.map D.int)), none], []⟩ = some (.nx, ⟨[some (.frl (ns.map D.int)), c'], h'⟩) := by
  have big : big62 (k : Int) = true := decide_eq_true (by omega)
  have ek : intsD 0 k = (List.range k).map fun (x : Nat) => D.int x := by simp [intsD]
  have tk : ((k : Int)).toNat = k := Int.toNat_natCast k
  have ln : (ns.map D.int).length = ns.length := List.length_map _
  refine for_iR1 (j := (k : Int)) (h1 := []) ?_ big (by rw [tk, ek]; exact e)
  generalize ns.map D.int = L at *
  simp only [mCons, mNil, mC, mCB, mVar, oLen, List.getElem?_cons_zero, Option.bind_some, Option.map_some, ln, hm2, hk2]
theorem la_fin {F B : MB} {L : List D} {h' : Cells} {c' : Option D} (ec : F ⟨[some (.frl L), none], []⟩ = some (.nx, ⟨[some (.frl L), c'], h'⟩)) : mFun 2 1 (mSeq F (mRet (mC (.bl true)))) [.frl L] [] = some (.bl true, h') := by
  simp [mFun, mSeq, mRet, mC, ec]
theorem main : ∀ ns : List Int, ns.length ≤ 63 → ∃ h', F_law [.frl (ns.map D.int)] [] = some (.bl true, h') := by
  intro ns hns
  obtain ⟨M, k, hm2, hk2, hk⟩ := minmax ns.length 6 (by decide)
  obtain ⟨h', c', e⟩ := la_loop ns hns (List.range k) (fun x hx => by rw [List.mem_range] at hx; omega) [] none (fun _ hd => by cases hd)
  exact ⟨h', la_fin (B := laB) (la_ec hm2 hk2 (by omega) laB e)⟩
end Law

set_option maxHeartbeats 4000000
namespace Law
open PySem L2 Zm
theorem law_ok {P : Program} {w : World} {K : PySem.W.Frag} {mg : Str → Option Value} {base : Heap} (T : Top K mg) {f : Addr} {fd : FuncData} (F : Fun K "law" "law" s_law f fd) : FnG P w K mg base CX0 6 f fd ["script"] (spF K 1 F_law) := by
  have A := all (P := P) (w := w) (base := base) T
  exact ok_law T.B F A.d__law_right A.d__law_urn
theorem all_mk {l : PySem.W.OpenLaw} {w : World} {K : PySem.W.Frag} {h : Heap} {mg : Str → Option Value} {fa : Addr} (X : K.In h) (G : h.Ns mainGlobals mg) (hfa : mg "law" = some (.ref fa))
    {f0 f1 f2 f3 f4 f5 f6 f7 f8 f9 f10 f11 f12 f13 : Addr} {od0 an0 od1 an1 od2 an2 od3 an3 od4 an4 od5 an5 od6 an6 od7 an7 od8 an8 od9 an9 od10 an10 od11 an11 od12 an12 od13 an13 : Option Addr} {sl0 sl1 sl2 sl3 sl4 sl5 sl6 sl7 sl8 sl9 sl10 sl11 sl12 sl13 : Array (Option Value)}
    {oc0 kV0 dc0 pm0 cd0 ct0 oc1 kV1 dc1 pm1 cd1 ct1 oc2 kV2 dc2 pm2 cd2 ct2 oc3 kV3 dc3 pm3 cd3 ct3 oc4 kV4 dc4 pm4 cd4 ct4 oc5 kV5 dc5 pm5 cd5 ct5 oc6 kV6 dc6 pm6 cd6 ct6 oc7 kV7 dc7 pm7 cd7 ct7 oc8 kV8 dc8 pm8 cd8 ct8 oc9 kV9 dc9 pm9 cd9 ct9 oc10 kV10 dc10 pm10 cd10 ct10 oc11 kV11 dc11 pm11 cd11 ct11 oc12 kV12 dc12 pm12 cd12 ct12 oc13 kV13 dc13 pm13 cd13 ct13 : Value}
    (a0 : PySem.W.nsIn K mainGlobals "is_whole" = some (some (.ref f0))) (l0 : K.lookup f0 = some ⟨oc0, od0, .func (PySem.W.fnOf "is_whole" "is_whole" (defArgs s_is_whole) (defBody s_is_whole) (defScope s_is_whole) .none kV0 dc0 pm0 an0 cd0 ct0), sl0⟩) (c0 : PySem.W.codeIn K cd0 "is_whole" = true) (k0 : PySem.W.keepIn K (.ref f0) = true)
    (a1 : PySem.W.nsIn K mainGlobals "is_whole_between" = some (some (.ref f1))) (l1 : K.lookup f1 = some ⟨oc1, od1, .func (PySem.W.fnOf "is_whole_between" "is_whole_between" (defArgs s_is_whole_between) (defBody s_is_whole_between) (defScope s_is_whole_between) .none kV1 dc1 pm1 an1 cd1 ct1), sl1⟩) (c1 : PySem.W.codeIn K cd1 "is_whole_between" = true) (k1 : PySem.W.keepIn K (.ref f1) = true)
    (a2 : PySem.W.nsIn K mainGlobals "check_step" = some (some (.ref f2))) (l2 : K.lookup f2 = some ⟨oc2, od2, .func (PySem.W.fnOf "check_step" "check_step" (defArgs s_check_step) (defBody s_check_step) (defScope s_check_step) .none kV2 dc2 pm2 an2 cd2 ct2), sl2⟩) (c2 : PySem.W.codeIn K cd2 "check_step" = true) (k2 : PySem.W.keepIn K (.ref f2) = true)
    (a3 : PySem.W.nsIn K mainGlobals "phi_by_2" = some (some (.ref f3))) (l3 : K.lookup f3 = some ⟨oc3, od3, .func (PySem.W.fnOf "phi_by_2" "phi_by_2" (defArgs s_phi_by_2) (defBody s_phi_by_2) (defScope s_phi_by_2) .none kV3 dc3 pm3 an3 cd3 ct3), sl3⟩) (c3 : PySem.W.codeIn K cd3 "phi_by_2" = true) (k3 : PySem.W.keepIn K (.ref f3) = true)
    (a4 : PySem.W.nsIn K mainGlobals "phi_by_3" = some (some (.ref f4))) (l4 : K.lookup f4 = some ⟨oc4, od4, .func (PySem.W.fnOf "phi_by_3" "phi_by_3" (defArgs s_phi_by_3) (defBody s_phi_by_3) (defScope s_phi_by_3) .none kV4 dc4 pm4 an4 cd4 ct4), sl4⟩) (c4 : PySem.W.codeIn K cd4 "phi_by_3" = true) (k4 : PySem.W.keepIn K (.ref f4) = true)
    (a5 : PySem.W.nsIn K mainGlobals "phi" = some (some (.ref f5))) (l5 : K.lookup f5 = some ⟨oc5, od5, .func (PySem.W.fnOf "phi" "phi" (defArgs s_phi) (defBody s_phi) (defScope s_phi) .none kV5 dc5 pm5 an5 cd5 ct5), sl5⟩) (c5 : PySem.W.codeIn K cd5 "phi" = true) (k5 : PySem.W.keepIn K (.ref f5) = true)
    (a6 : PySem.W.nsIn K mainGlobals "_law_is" = some (some (.ref f6))) (l6 : K.lookup f6 = some ⟨oc6, od6, .func (PySem.W.fnOf "_law_is" "_law_is" (defArgs s__law_is) (defBody s__law_is) (defScope s__law_is) .none kV6 dc6 pm6 an6 cd6 ct6), sl6⟩) (c6 : PySem.W.codeIn K cd6 "_law_is" = true) (k6 : PySem.W.keepIn K (.ref f6) = true)
    (a7 : PySem.W.nsIn K mainGlobals "_law_phi" = some (some (.ref f7))) (l7 : K.lookup f7 = some ⟨oc7, od7, .func (PySem.W.fnOf "_law_phi" "_law_phi" (defArgs s__law_phi) (defBody s__law_phi) (defScope s__law_phi) .none kV7 dc7 pm7 an7 cd7 ct7), sl7⟩) (c7 : PySem.W.codeIn K cd7 "_law_phi" = true) (k7 : PySem.W.keepIn K (.ref f7) = true)
    (a8 : PySem.W.nsIn K mainGlobals "_law_pull" = some (some (.ref f8))) (l8 : K.lookup f8 = some ⟨oc8, od8, .func (PySem.W.fnOf "_law_pull" "_law_pull" (defArgs s__law_pull) (defBody s__law_pull) (defScope s__law_pull) .none kV8 dc8 pm8 an8 cd8 ct8), sl8⟩) (c8 : PySem.W.codeIn K cd8 "_law_pull" = true) (k8 : PySem.W.keepIn K (.ref f8) = true)
    (a9 : PySem.W.nsIn K mainGlobals "_law_one" = some (some (.ref f9))) (l9 : K.lookup f9 = some ⟨oc9, od9, .func (PySem.W.fnOf "_law_one" "_law_one" (defArgs s__law_one) (defBody s__law_one) (defScope s__law_one) .none kV9 dc9 pm9 an9 cd9 ct9), sl9⟩) (c9 : PySem.W.codeIn K cd9 "_law_one" = true) (k9 : PySem.W.keepIn K (.ref f9) = true)
    (a10 : PySem.W.nsIn K mainGlobals "_law_number" = some (some (.ref f10))) (l10 : K.lookup f10 = some ⟨oc10, od10, .func (PySem.W.fnOf "_law_number" "_law_number" (defArgs s__law_number) (defBody s__law_number) (defScope s__law_number) .none kV10 dc10 pm10 an10 cd10 ct10), sl10⟩) (c10 : PySem.W.codeIn K cd10 "_law_number" = true) (k10 : PySem.W.keepIn K (.ref f10) = true)
    (a11 : PySem.W.nsIn K mainGlobals "_law_right" = some (some (.ref f11))) (l11 : K.lookup f11 = some ⟨oc11, od11, .func (PySem.W.fnOf "_law_right" "_law_right" (defArgs s__law_right) (defBody s__law_right) (defScope s__law_right) .none kV11 dc11 pm11 an11 cd11 ct11), sl11⟩) (c11 : PySem.W.codeIn K cd11 "_law_right" = true) (k11 : PySem.W.keepIn K (.ref f11) = true)
    (a12 : PySem.W.nsIn K mainGlobals "_law_urn" = some (some (.ref f12))) (l12 : K.lookup f12 = some ⟨oc12, od12, .func (PySem.W.fnOf "_law_urn" "_law_urn" (defArgs s__law_urn) (defBody s__law_urn) (defScope s__law_urn) .none kV12 dc12 pm12 an12 cd12 ct12), sl12⟩) (c12 : PySem.W.codeIn K cd12 "_law_urn" = true) (k12 : PySem.W.keepIn K (.ref f12) = true)
    (a13 : PySem.W.nsIn K mainGlobals "law" = some (some (.ref f13))) (l13 : K.lookup f13 = some ⟨oc13, od13, .func (PySem.W.fnOf "law" "law" (defArgs s_law) (defBody s_law) (defScope s_law) .none kV13 dc13 pm13 an13 cd13 ct13), sl13⟩) (c13 : PySem.W.codeIn K cd13 "law" = true) (k13 : PySem.W.keepIn K (.ref f13) = true)
    (z_abs : PySem.W.nsIn K mainGlobals "abs" = some none)
    (z_bool : PySem.W.nsIn K mainGlobals "bool" = some none)
    (z_divmod : PySem.W.nsIn K mainGlobals "divmod" = some none)
    (z_int : PySem.W.nsIn K mainGlobals "int" = some none)
    (z_isinstance : PySem.W.nsIn K mainGlobals "isinstance" = some none)
    (z_len : PySem.W.nsIn K mainGlobals "len" = some none)
    (z_max : PySem.W.nsIn K mainGlobals "max" = some none)
    (z_min : PySem.W.nsIn K mainGlobals "min" = some none)
    (z_range : PySem.W.nsIn K mainGlobals "range" = some none)
    (z_repr : PySem.W.nsIn K mainGlobals "repr" = some none)
    (dg : PySem.W.nsIn K cStatics "sys.int_max_str_digits" = some none) :
    ∃ fd : FuncData, (∀ (s : Shared) (v : Value), BindsTo s fd ⟨[v], []⟩ [("script", v)]) ∧ ∀ base : Heap, K.In base → base.Ns mainGlobals mg → FnG l.prog w K mg base CX0 6 fa fd ["script"] (spF K 1 F_law) := by
  have e := hfa.symm.trans (PySem.W.mg_of X G a13)
  cases e
  have T : Top K mg := ⟨⟨dg, PySem.W.mg_none_of X G z_abs, PySem.W.mg_none_of X G z_bool, PySem.W.mg_none_of X G z_divmod, PySem.W.mg_none_of X G z_int, PySem.W.mg_none_of X G z_isinstance, PySem.W.mg_none_of X G z_len, PySem.W.mg_none_of X G z_max, PySem.W.mg_none_of X G z_min, PySem.W.mg_none_of X G z_range, PySem.W.mg_none_of X G z_repr⟩, ⟨_, _, fun_mk (st := s_is_whole) l0 c0 k0, PySem.W.mg_of X G a0⟩, ⟨_, _, fun_mk (st := s_is_whole_between) l1 c1 k1, PySem.W.mg_of X G a1⟩, ⟨_, _, fun_mk (st := s_check_step) l2 c2 k2, PySem.W.mg_of X G a2⟩, ⟨_, _, fun_mk (st := s_phi_by_2) l3 c3 k3, PySem.W.mg_of X G a3⟩, ⟨_, _, fun_mk (st := s_phi_by_3) l4 c4 k4, PySem.W.mg_of X G a4⟩, ⟨_, _, fun_mk (st := s_phi) l5 c5 k5, PySem.W.mg_of X G a5⟩, ⟨_, _, fun_mk (st := s__law_is) l6 c6 k6, PySem.W.mg_of X G a6⟩, ⟨_, _, fun_mk (st := s__law_phi) l7 c7 k7, PySem.W.mg_of X G a7⟩, ⟨_, _, fun_mk (st := s__law_pull) l8 c8 k8, PySem.W.mg_of X G a8⟩, ⟨_, _, fun_mk (st := s__law_one) l9 c9 k9, PySem.W.mg_of X G a9⟩, ⟨_, _, fun_mk (st := s__law_number) l10 c10 k10, PySem.W.mg_of X G a10⟩, ⟨_, _, fun_mk (st := s__law_right) l11 c11 k11, PySem.W.mg_of X G a11⟩, ⟨_, _, fun_mk (st := s__law_urn) l12 c12 k12, PySem.W.mg_of X G a12⟩, ⟨_, _, fun_mk (st := s_law) l13 c13 k13, PySem.W.mg_of X G a13⟩⟩
  exact ⟨PySem.W.fnOf "law" "law" (defArgs s_law) (defBody s_law) (defScope s_law) .none kV13 dc13 pm13 an13 cd13 ct13, fun s v => .of_eq rfl, fun base _ _ => law_ok T (fun_mk (st := s_law) l13 c13 k13)⟩
theorem start_rel {K : PySem.W.Frag} {H : Hp} : Rel K ⟨[], []⟩ [] H := ⟨rfl, List.nodup_nil, fun a h => (by cases h), fun a h => (by cases h), fun i a ds e _ => (by simp at e)⟩
theorem start_ints {K : PySem.W.Frag} {ρ : Rho} {H : Hp} : ∀ ns : List Int, Dens K ρ H (ns.map V.int) (ns.map D.int)
  | [] => .nil
  | n :: r => .cons (.int n) (start_ints r)
theorem start_den {K : PySem.W.Frag} {H : Hp} {a : Addr} {ns : List Int} (h : SqL K H a (ns.map V.int)) : Den K ⟨[], []⟩ H (.ref a) (.frl (ns.map D.int)) := by
  rcases h with h | h
  · exact .frl h (fun z => by rcases z with z | z <;> cases z) (start_ints ns)
  · exact .frlK (fun H => .inr h) (start_ints ns)
theorem walk {l : PySem.W.OpenLaw} {q : Program} {loose : List Str} {XP : (Str → Option Value) → Heap → Prop} {YP : World → Heap → Prop} {d : DefRec} {K : Params → PySem.W.Frag} (hn : l.most = some 63) (hdf : d.params.defaults = [])
    (hY : ∀ (w : World) (h : Heap), YP w h → (K w.params).In h)
    (F : ∀ (w : World) (mg : Str → Option Value) (fa : Addr) (h : Heap), (K w.params).In h → h.Ns mainGlobals mg → mg d.name = some (.ref fa) →
      ∃ fd : FuncData, (∀ (s : Shared) (u : Value), BindsTo s fd ⟨[u], []⟩ [("script", u)]) ∧ ∀ base : Heap, (K w.params).In base → base.Ns mainGlobals mg → FnG l.prog w (K w.params) mg base CX0 6 fa fd ["script"] (spF (K w.params) 1 F_law))
    (main : ∀ ns : List Int, ns.length ≤ 63 → ∃ h', F_law [.frl (ns.map D.int)] [] = some (.bl true, h')) :
    PySem.W.WalkO q loose XP YP l.row.toRowW d [] (fun f vs => PySem.call f vs) := by
  refine walk_ofG (n := 63) (k := 6) (x := "script") (CX := fun _ => CX0) (sp := fun w => spF (K w.params) 1 F_law) hn (by decide) hdf ⟨⟨rfl, by decide, by decide⟩, rfl⟩ hY F (fun w H a ns hl _ hS => ?_) fun _ _ _ _ _ z => z
  obtain ⟨h', e⟩ := main ns hl
  exact ⟨⟨[], []⟩, [], [.frl (ns.map D.int)], .bl true, h', start_rel, .cons (start_den hS) .nil, rfl, e, fun v H' ρ' _ _ dn => den_bl dn⟩
end Law
open PySem PySem.W PyProof.Rows
set_option maxRecDepth 100000 in
set_option maxHeartbeats 0 in
theorem PySem.Challenge.cw_classprimes_k27_phi_by_own_sums_and_prod_holds : PySem.Challenge.rw_classprimes_k27_phi_by_own_sums_and_prod.Holds := by
  w_on; o_law; k_head; (case hw => w_witness2)
  k_fill
  refine Law.walk (l := PySem.Challenge.rw_classprimes_k27_phi_by_own_sums_and_prod) rfl rfl (fun w h Y => PySem.W.kIn_of Y) ?F Law.main
  case F =>
    intro w mg fa h KX G hmg
    refine' Law.all_mk KX G hmg ?a0 ?l0 ?c0 ?k0 ?a1 ?l1 ?c1 ?k1 ?a2 ?l2 ?c2 ?k2 ?a3 ?l3 ?c3 ?k3 ?a4 ?l4 ?c4 ?k4 ?a5 ?l5 ?c5 ?k5 ?a6 ?l6 ?c6 ?k6 ?a7 ?l7 ?c7 ?k7 ?a8 ?l8 ?c8 ?k8 ?a9 ?l9 ?c9 ?k9 ?a10 ?l10 ?c10 ?k10 ?a11 ?l11 ?c11 ?k11 ?a12 ?l12 ?c12 ?k12 ?a13 ?l13 ?c13 ?k13 ?z_abs ?z_bool ?z_divmod ?z_int ?z_isinstance ?z_len ?z_max ?z_min ?z_range ?z_repr ?dg
    (case a0 => k_is)
    (case l0 => k_is)
    (case c0 => k_is)
    (case k0 => k_is)
    (case a1 => k_is)
    (case l1 => k_is)
    (case c1 => k_is)
    (case k1 => k_is)
    (case a2 => k_is)
    (case l2 => k_is)
    (case c2 => k_is)
    (case k2 => k_is)
    (case a3 => k_is)
    (case l3 => k_is)
    (case c3 => k_is)
    (case k3 => k_is)
    (case a4 => k_is)
    (case l4 => k_is)
    (case c4 => k_is)
    (case k4 => k_is)
    (case a5 => k_is)
    (case l5 => k_is)
    (case c5 => k_is)
    (case k5 => k_is)
    (case a6 => k_is)
    (case l6 => k_is)
    (case c6 => k_is)
    (case k6 => k_is)
    (case a7 => k_is)
    (case l7 => k_is)
    (case c7 => k_is)
    (case k7 => k_is)
    (case a8 => k_is)
    (case l8 => k_is)
    (case c8 => k_is)
    (case k8 => k_is)
    (case a9 => k_is)
    (case l9 => k_is)
    (case c9 => k_is)
    (case k9 => k_is)
    (case a10 => k_is)
    (case l10 => k_is)
    (case c10 => k_is)
    (case k10 => k_is)
    (case a11 => k_is)
    (case l11 => k_is)
    (case c11 => k_is)
    (case k11 => k_is)
    (case a12 => k_is)
    (case l12 => k_is)
    (case c12 => k_is)
    (case k12 => k_is)
    (case a13 => k_is)
    (case l13 => k_is)
    (case c13 => k_is)
    (case k13 => k_is)
    (case z_abs => k_is)
    (case z_bool => k_is)
    (case z_divmod => k_is)
    (case z_int => k_is)
    (case z_isinstance => k_is)
    (case z_len => k_is)
    (case z_max => k_is)
    (case z_min => k_is)
    (case z_range => k_is)
    (case z_repr => k_is)
    (case dg => k_is)

