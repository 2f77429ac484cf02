import PyProof.Rows.All
import Wide.All
import OpenK.AllK
import Wide.FinOn
import HandS.ForMost
import HandS.Defaults
import HandS.Wide
import HandS.TupAny
import HandS.IsInst
import HandS.Style
import HandS.WideBits
import HandS.Gcd
import HandS.SortRule
import KE.KRevSl
import Flt.RightSqrt
import HandS.TryOnly
import HandS.SetFor
import HandS.Strs
import HandS.TupSets
import HandS.Sort
import HandS.Dict
import HandS.SetBool
import HandS.SortInts
import HandS.Star
import HandS.Exc
import HandS.ExcInit
import KE.KExcSuper
import KE.KSuper
import HandS.TryMany
import HandS.ExcIs
import KE.KExcLine
import KE.RegKSuper
import PySem.Challenge.RW_classprimes_k09_whole_composed_by_united
set_option Elab.async false
set_option maxRecDepth 100000
/-! Zc: values as data, cells, what denotes them; readings by functions. -/
namespace Zm
open PySem L2

inductive D where
  | non | bl (b : Bool) | int (i : Int) | str (x : Str) | tup (xs : List D) | lst (xs : List D) | frl (xs : List D) | dic | cell (i : Nat) | ty (n : String) | rng (lo hi : Int) | hid (a : Addr) | exc (a dd : Addr) (f : Str) (d : D)
  deriving Inhabited
abbrev Cells := List (List D)
/-- the cells, by their numbers; what is hidden (a list that a comprehension is making) -/
structure Rho where
  c : List Addr
  v : List Addr
instance : Membership Addr Rho := ⟨fun ρ a => a ∈ ρ.c ∨ a ∈ ρ.v⟩
theorem Rho.notIn {ρ : Rho} {a : Addr} (h : a ∉ ρ) : a ∉ ρ.c ∧ a ∉ ρ.v := ⟨fun z => h (.inl z), fun z => h (.inr z)⟩
theorem Rho.out {ρ : Rho} {a : Addr} (h1 : a ∉ ρ.c) (h2 : a ∉ ρ.v) : a ∉ ρ := fun z => z.elim h1 h2
structure MS where
  s : List (Option D)
  h : Cells

section
variable (K : PySem.W.Frag) (ρ : Rho) (H : Hp)
mutual
inductive Den : V → D → Prop
  | non : Den .non .non
  | bl (b) : Den (.bl b) (.bl b)
  | int (i) : Den (.int i) (.int i)
  | str (x) : Den (.str x) (.str x)
  | tup {a vs ds} : Rd H a (.tup vs) → a ∉ ρ → Dens vs ds → Den (.ref a) (.tup ds)
  | tupK {a vs ds} : (∀ H, SqT K H a vs) → Dens vs ds → Den (.ref a) (.tup ds)
  | lst {a vs ds} : H a = some (.lst vs) → a ∉ ρ → Dens vs ds → Den (.ref a) (.lst ds)
  | frl {a vs ds} : Rd H a (.lst vs) → a ∉ ρ → Dens vs ds → Den (.ref a) (.frl ds)
  | frlK {a vs ds} : (∀ H, SqL K H a vs) → Dens vs ds → Den (.ref a) (.frl ds)
  | ty (n) : Den (.ty n) (.ty n)
  | dic {a} : H a = some (.dK []) → a ∉ ρ → Den (.ref a) .dic
  | cell {a i} : ρ.c[i]? = some a → Den (.ref a) (.cell i)
  | rng {a lo hi} : H a = some (.rng lo hi) → a ∉ ρ → Den (.ref a) (.rng lo hi)
  | hid (a) : Den (.ref a) (.hid a)
  | exc {a dd f v d} : H dd = some (.xd [(f, v)]) → dd ∉ ρ → Den v d → Den (.ref a) (.exc a dd f d)
inductive Dens : List V → List D → Prop
  | nil : Dens [] []
  | cons {v d vs ds} : Den v d → Dens vs ds → Dens (v :: vs) (d :: ds)
end
end

/-- what came after: what was there and is no cell stands; cells stay, more may come -/
structure Fut (ρ : Rho) (H : Hp) (ρ' : Rho) (H' : Hp) : Prop where
  keep : ∀ a o, a ∉ ρ.c → H a = some o → H' a = some o
  ext : ∃ more, ρ'.c = ρ.c ++ more
  sub : ∀ a ∈ ρ.v, a ∈ ρ'.v
  hid : ∀ a ∈ ρ'.v, a ∈ ρ.v ∨ (H a = none ∧ a ∉ ρ.c)
  fresh : ∀ a, a ∈ ρ'.c → a ∉ ρ.c → H a = none
theorem Fut.mk1 {ρ : Rho} {H H' : Hp} (h : ∀ a o, a ∉ ρ.c → H a = some o → H' a = some o) : Fut ρ H ρ H' := ⟨h, ⟨[], by simp⟩, fun _ h => h, fun _ h => .inl h, fun _ h n => absurd h n⟩
theorem Fut.refl (ρ : Rho) (H : Hp) : Fut ρ H ρ H := .mk1 fun _ _ _ h => h
theorem Fut.trans {ρ ρ1 ρ2 : Rho} {H H1 H2 : Hp} (a : Fut ρ H ρ1 H1) (b : Fut ρ1 H1 ρ2 H2) : Fut ρ H ρ2 H2 := by
  have back : ∀ x, x ∉ ρ.c → H1 x = none → H x = none := fun x n q => by
    cases e : H x with
    | none => rfl
    | some o => rw [a.keep x o n e] at q; cases q
  refine ⟨fun x o n e => ?_, ?_, fun x h => b.sub x (a.sub x h), fun x h => ?_, fun x h n => ?_⟩
  · refine b.keep x o (fun z => ?_) (a.keep x o n e)
    rw [a.fresh x z n] at e; cases e
  · obtain ⟨m, e1⟩ := a.ext
    obtain ⟨k, e2⟩ := b.ext
    exact ⟨m ++ k, by rw [e2, e1, List.append_assoc]⟩
  · rcases b.hid x h with z | z
    · exact a.hid x z
    · have n : x ∉ ρ.c := fun y => z.2 (by obtain ⟨m, e1⟩ := a.ext; rw [e1]; exact List.mem_append_left _ y)
      exact .inr ⟨back x n z.1, n⟩
  · by_cases z : x ∈ ρ1.c
    · exact a.fresh x z n
    · exact back x n (b.fresh x h z)

section
variable {K : PySem.W.Frag} {ρ ρ' : Rho} {H H' : Hp}
theorem Fut.rd (F : Fut ρ H ρ' H') {a : Addr} {u : HO} (n : a ∉ ρ) (h : Rd H a u) : Rd H' a u := by
  rcases h with h | ⟨o, h⟩
  · exact .inl (F.keep a _ (Rho.notIn n).1 h)
  · exact .inr ⟨o, F.keep a _ (Rho.notIn n).1 h⟩
theorem Fut.out (F : Fut ρ H ρ' H') {a : Addr} {u : HO} (n : a ∉ ρ) (h : Rd H a u) : a ∉ ρ' := by
  refine Rho.out (fun z => ?_) fun z => ?_
  · have q := F.fresh a z (Rho.notIn n).1
    rcases h with h | ⟨o, h⟩ <;> (rw [q] at h; cases h)
  · rcases F.hid a z with y | q
    · exact (Rho.notIn n).2 y
    · rcases h with h | ⟨o, h⟩ <;> (rw [q.1] at h; cases h)
theorem Fut.cellAt (F : Fut ρ H ρ' H') {a : Addr} {i : Nat} (h : ρ.c[i]? = some a) : ρ'.c[i]? = some a := by
  obtain ⟨m, e⟩ := F.ext
  obtain ⟨hl, _⟩ := List.getElem?_eq_some_iff.mp h
  rw [e, List.getElem?_append_left hl, h]
mutual
theorem Den.fut (F : Fut ρ H ρ' H') : ∀ {v : V} {d : D}, Den K ρ H v d → Den K ρ' H' v d
  | _, _, .non => .non
  | _, _, .bl b => .bl b
  | _, _, .int i => .int i
  | _, _, .str x => .str x
  | _, _, .tup h n ds => .tup (F.rd n h) (F.out n h) (Dens.fut F ds)
  | _, _, .tupK h ds => .tupK h (Dens.fut F ds)
  | _, _, .lst h n ds => .lst (F.keep _ _ (Rho.notIn n).1 h) (F.out n (.inl h)) (Dens.fut F ds)
  | _, _, .frl h n ds => .frl (F.rd n h) (F.out n h) (Dens.fut F ds)
  | _, _, .frlK h ds => .frlK h (Dens.fut F ds)
  | _, _, .ty n => .ty n
  | _, _, .dic h n => .dic (F.keep _ _ (Rho.notIn n).1 h) (F.out n (.inl h))
  | _, _, .rng h n => .rng (F.keep _ _ (Rho.notIn n).1 h) (F.out n (.inl h))
  | _, _, .hid a => .hid a
  | _, _, .exc h n r => .exc (F.keep _ _ (Rho.notIn n).1 h) (F.out n (.inl h)) (Den.fut F r)
  | _, _, .cell h => .cell (F.cellAt h)
theorem Dens.fut (F : Fut ρ H ρ' H') : ∀ {vs : List V} {ds : List D}, Dens K ρ H vs ds → Dens K ρ' H' vs ds
  | _, _, .nil => .nil
  | _, _, .cons a b => .cons (Den.fut F a) (Dens.fut F b)
end
theorem Dens.length : ∀ {vs : List V} {ds : List D}, Dens K ρ H vs ds → vs.length = ds.length
  | _, _, .nil => rfl
  | _, _, .cons _ b => congrArg Nat.succ b.length
theorem Dens.get : ∀ {vs : List V} {ds : List D} {i : Nat} {d : D}, Dens K ρ H vs ds → ds[i]? = some d → ∃ v, vs[i]? = some v ∧ Den K ρ H v d
  | _, _, _, _, .nil, e => by simp at e
  | _, _, 0, _, .cons a _, e => by simp at e; subst e; exact ⟨_, rfl, a⟩
  | _, _, i + 1, _, .cons _ b, e => by
    obtain ⟨v, h1, h2⟩ := Dens.get (i := i) b (by simpa using e)
    exact ⟨v, by simpa using h1, h2⟩
theorem Dens.append : ∀ {vs ws : List V} {ds es : List D}, Dens K ρ H vs ds → Dens K ρ H ws es → Dens K ρ H (vs ++ ws) (ds ++ es)
  | _, _, _, _, .nil, s => s
  | _, _, _, _, .cons r t, s => .cons r (Dens.append t s)
theorem Dens.set {v : V} {d : D} (r : Den K ρ H v d) : ∀ {vs : List V} {ds : List D} (i : Nat), Dens K ρ H vs ds → Dens K ρ H (vs.set i v) (ds.set i d)
  | _, _, _, .nil => .nil
  | _, _, 0, .cons _ t => .cons r t
  | _, _, i + 1, .cons q t => .cons q (Dens.set r i t)
theorem Dens.take : ∀ {vs : List V} {ds : List D} (n : Nat), Dens K ρ H vs ds → Dens K ρ H (vs.take n) (ds.take n)
  | _, _, 0, _ => .nil
  | _, _, _ + 1, .nil => .nil
  | _, _, n + 1, .cons r t => .cons r (Dens.take n t)
theorem Dens.drop : ∀ {vs : List V} {ds : List D} (n : Nat), Dens K ρ H vs ds → Dens K ρ H (vs.drop n) (ds.drop n)
  | _, _, 0, r => r
  | _, _, _ + 1, .nil => .nil
  | _, _, n + 1, .cons _ t => Dens.drop n t
theorem Dens.reverse : ∀ {vs : List V} {ds : List D}, Dens K ρ H vs ds → Dens K ρ H vs.reverse ds.reverse
  | _, _, .nil => .nil
  | _, _, .cons r t => by simpa using Dens.append t.reverse (.cons r .nil)
end

/-- the cells stand -/
structure Rel (K : PySem.W.Frag) (ρ : Rho) (h : Cells) (H : Hp) : Prop where
  len : ρ.c.length = h.length
  nd : ρ.c.Nodup
  apart : ∀ a, a ∈ ρ.c → a ∉ ρ.v
  hidden : ∀ a ∈ ρ.v, ∃ o, H a = some o
  at_ : ∀ (i : Nat) a ds, ρ.c[i]? = some a → h[i]? = some ds → ∃ vs, H a = some (.lst vs) ∧ Dens K ρ H vs ds
def Slots (K : PySem.W.Frag) (ρ : Rho) (H : Hp) (l : List (Option D)) (σ : St) : Prop :=
  l.length = σ.length ∧ ∀ (i : Nat) d, l[i]? = some (some d) → ∃ v, σ[i]? = some (some v) ∧ Den K ρ H v d
theorem Slots.fut {K : PySem.W.Frag} {ρ ρ' : Rho} {H H' : Hp} {l : List (Option D)} {σ : St} (S : Slots K ρ H l σ) (F : Fut ρ H ρ' H') : Slots K ρ' H' l σ :=
  ⟨S.1, fun i d e => let ⟨v, h1, h2⟩ := S.2 i d e; ⟨v, h1, h2.fut F⟩⟩
theorem Slots.set {K : PySem.W.Frag} {ρ : Rho} {H : Hp} {l : List (Option D)} {σ : St} (S : Slots K ρ H l σ) (i : Nat) {v : V} {d : D} (r : Den K ρ H v d) : Slots K ρ H (l.set i (some d)) (σ.set i (some v)) := by
  refine ⟨by simp [S.1], fun j e h => ?_⟩
  by_cases hj : i = j
  · subst hj
    by_cases hl : i < l.length
    · rw [List.getElem?_set_self hl] at h
      cases h
      exact ⟨v, List.getElem?_set_self (by rw [← S.1]; exact hl), r⟩
    · rw [List.getElem?_eq_none (by simpa using Nat.le_of_not_lt hl)] at h; cases h
  · rw [List.getElem?_set_ne hj] at h
    obtain ⟨w, h1, h2⟩ := S.2 j e h
    exact ⟨w, by rw [List.getElem?_set_ne hj]; exact h1, h2⟩
theorem Slots.wipe {K : PySem.W.Frag} {ρ : Rho} {H : Hp} {l : List (Option D)} {σ : St} (S : Slots K ρ H l σ) : ∀ vs : List Nat, Slots K ρ H (vs.foldr (fun v l => l.set v none) l) (L2.wipe σ vs)
  | [] => S
  | v :: vs => by
    have T := S.wipe vs
    refine ⟨by simpa [L2.wipe] using T.1, fun j e h => ?_⟩
    simp only [List.foldr_cons] at h
    by_cases hj : v = j
    · subst hj
      by_cases hl : v < (vs.foldr (fun v l => l.set v none) l).length
      · rw [List.getElem?_set_self hl] at h; cases h
      · rw [List.getElem?_eq_none (by simpa using Nat.le_of_not_lt hl)] at h; cases h
    · rw [List.getElem?_set_ne hj] at h
      obtain ⟨w, h1, h2⟩ := T.2 j e h
      exact ⟨w, by show ((L2.wipe σ vs).set v none)[j]? = _; rw [List.getElem?_set_ne hj]; exact h1, h2⟩

abbrev ME := MS → Option (D × Cells)
abbrev MT := MS → Option (Bool × Cells)
abbrev MA := MS → Option (List D × Cells)
inductive Out where
  | nx | ret (d : D) | bk | ct
abbrev MB := MS → Option (Out × MS)
abbrev MG := D → MS → Option MS

section
variable (K : PySem.W.Frag)
def rdE (f : ME) : TE := fun σ H Q => ∃ ρ ms d h', Rel K ρ ms.h H ∧ Slots K ρ H ms.s σ ∧ f ms = some (d, h') ∧ ∀ v H' ρ', Fut ρ H ρ' H' → Rel K ρ' h' H' → Den K ρ' H' v d → Q v H'
def rdT (f : MT) : TT := fun σ H Q => ∃ ρ ms b h', Rel K ρ ms.h H ∧ Slots K ρ H ms.s σ ∧ f ms = some (b, h') ∧ ∀ H' ρ', Fut ρ H ρ' H' → Rel K ρ' h' H' → Q b H'
def rdA (f : MA) : TA := fun σ H Q => ∃ ρ ms ds h', Rel K ρ ms.h H ∧ Slots K ρ H ms.s σ ∧ f ms = some (ds, h') ∧ ∀ vs H' ρ', Fut ρ H ρ' H' → Rel K ρ' h' H' → Dens K ρ' H' vs ds → Q vs H'
def endsOf (ρ : Rho) (H : Hp) (D : Ends) (l : List (Option Zm.D)) : Out → Prop
  | .nx => ∀ σ', Slots K ρ H l σ' → D.nx σ' H
  | .ret d => ∀ v, Den K ρ H v d → D.rt v H
  | .bk => ∀ σ', Slots K ρ H l σ' → D.bk σ' H
  | .ct => ∀ σ', Slots K ρ H l σ' → D.ct σ' H
def rdB (f : MB) : TS := fun D σ H => ∃ ρ ms o ms', Rel K ρ ms.h H ∧ Slots K ρ H ms.s σ ∧ f ms = some (o, ms') ∧ ∀ H' ρ', Fut ρ H ρ' H' → Rel K ρ' ms'.h H' → endsOf K ρ' H' D ms'.s o
def rdG (g : MG) : TG := fun v σ H Q => ∃ ρ ms d ms', Rel K ρ ms.h H ∧ Slots K ρ H ms.s σ ∧ Den K ρ H v d ∧ g d ms = some ms' ∧ ∀ H' ρ' σ', Fut ρ H ρ' H' → Rel K ρ' ms'.h H' → Slots K ρ' H' ms'.s σ' → Q σ' H'
end
abbrev EV (X : Cx) (e : Expr) (f : ME) : Prop := PE X e (rdE X.K f)
abbrev TV (X : Cx) (e : Expr) (f : MT) : Prop := PT X e (rdT X.K f)
abbrev AV (X : Cx) (es : List Expr) (f : MA) : Prop := PA X es (rdA X.K f)
abbrev BV (X : Cx) (st : Stmt) (f : MB) : Prop := PS X st (rdB X.K f)
abbrev BVs (X : Cx) (st : List Stmt) (f : MB) : Prop := PSs X st (rdB X.K f)
abbrev GV (X : Cx) (e : Expr) (g : MG) : Prop := PG X e (rdG X.K g)

section
variable {X : Cx}
theorem pe_w {e : Expr} {t t' : TE} (h : PE X e t) (w : ∀ σ H Q, t' σ H Q → t σ H Q) : PE X e t' := ⟨fun pins s σ H Q I q => h.run pins s σ H Q I (w σ H Q q)⟩
theorem pt_w {e : Expr} {t t' : TT} (h : PT X e t) (w : ∀ σ H Q, t' σ H Q → t σ H Q) : PT X e t' := ⟨fun pins s σ H Q I q => h.run pins s σ H Q I (w σ H Q q)⟩
theorem pw_w {e : Expr} {t t' : TT} (h : PW X e t) (w : ∀ σ H Q, t' σ H Q → t σ H Q) : PW X e t' := ⟨fun wh pins s σ H Q I q => h.run wh pins s σ H Q I (w σ H Q q)⟩
theorem pa_w {e : List Expr} {t t' : TA} (h : PA X e t) (w : ∀ σ H Q, t' σ H Q → t σ H Q) : PA X e t' := ⟨fun pos pins s σ H Q I q => h.run pos pins s σ H Q I (w σ H Q q)⟩
theorem ps_w {e : Stmt} {t t' : TS} (h : PS X e t) (w : ∀ D σ H, t' D σ H → t D σ H) : PS X e t' := ⟨fun pins s σ H D I q => h.run pins s σ H D I (w D σ H q)⟩
theorem pss_w {e : List Stmt} {t t' : TS} (h : PSs X e t) (w : ∀ D σ H, t' D σ H → t D σ H) : PSs X e t' := ⟨fun pins s σ H D I q => h.run pins s σ H D I (w D σ H q)⟩
theorem pg_w {e : Expr} {t t' : TG} (h : PG X e t) (w : ∀ v σ H Q, t' v σ H Q → t v σ H Q) : PG X e t' := ⟨fun pins s σ H v u Q I r q => h.run pins s σ H v u Q I r (w v σ H Q q)⟩

/-! ### names and constants -/
def mVar (i : Nat) : ME := fun ms => match ms.s[i]? with
  | some (some d) => some (d, ms.h)
  | _ => none
def mC (d : D) : ME := fun ms => some (d, ms.h)
theorem rd_var {K : PySem.W.Frag} {i : Nat} {σ : St} {H : Hp} {Q : VK} (h : rdE K (mVar i) σ H Q) : tVar i σ H Q := by
  obtain ⟨ρ, ms, d, h', R, S, e, q⟩ := h
  unfold mVar at e
  split at e
  · rename_i d' hd
    cases e
    obtain ⟨v, h1, h2⟩ := S.2 i _ hd
    exact ⟨v, h1, q v H ρ (.refl ρ H) R h2⟩
  · cases e
theorem ev_var (i : Nat) {x : Str} {pos : Pos} (hN : X.N[i]? = some x := by rfl) (hv : Vis X.env.scope x := by first | exact Or.inl rfl | exact Or.inr (Or.inl rfl) | exact Or.inr (Or.inr rfl)) (hd : (x == ("__debug__" : Str)) = false := by decide)
    (hcd : (x == ("__classdict__" : Str)) = false := by decide) : EV X (.Name x pos) (mVar i) := pe_w (pe_var hN hv hd hcd) fun _ _ _ => rd_var
theorem rd_c {K : PySem.W.Frag} {d : D} {v : V} (hd : ∀ ρ H, Den K ρ H v d) {σ : St} {H : Hp} {Q : VK} (h : rdE K (mC d) σ H Q) : tC v σ H Q := by
  obtain ⟨ρ, ms, d', h', R, S, e, q⟩ := h
  cases e
  exact q v H ρ (.refl ρ H) R (hd ρ H)
theorem ev_int {i j pos} : EV X (.Constant (.int i) j pos) (mC (.int i)) := pe_w pe_int fun _ _ _ => rd_c fun _ _ => .int i
theorem ev_bl {i j pos} : EV X (.Constant (.bool i) j pos) (mC (.bl i)) := pe_w pe_bl fun _ _ _ => rd_c fun _ _ => .bl i
theorem ev_non {j pos} : EV X (.Constant .none j pos) (mC .non) := pe_w pe_non fun _ _ _ => rd_c fun _ _ => .non
theorem ev_str {x j pos} : EV X (.Constant (.str x) j pos) (mC (.str x)) := pe_w pe_str fun _ _ _ => rd_c fun _ _ => .str x

/-! ### two expressions in a row -/
theorem rd2 {K : PySem.W.Frag} {f g : ME} {o : Cells → D → D → Option D} {σ : St} {H : Hp} {R : V → V → Hp → Prop} {Q : VK}
    (h : rdE K (fun ms => do let (x, h1) ← f ms; let (y, h2) ← g { ms with h := h1 }; let d ← o h2 x y; some (d, h2)) σ H Q)
    (k : ∀ ρ h2 H2 x y dx dy d, Rel K ρ h2 H2 → Den K ρ H2 x dx → Den K ρ H2 y dy → o h2 dx dy = some d → (∀ v H' ρ', Fut ρ H2 ρ' H' → Rel K ρ' h2 H' → Den K ρ' H' v d → Q v H') → R x y H2) :
    rdE K f σ H fun x H1 => rdE K g σ H1 fun y H2 => R x y H2 := by
  obtain ⟨ρ, ms, d, h', R0, S, e, q⟩ := h
  cases e1 : f ms with
  | none => simp [e1] at e
  | some r =>
    obtain ⟨dx, h1⟩ := r
    cases e2 : g { ms with h := h1 } with
    | none => simp [e1, e2] at e
    | some r =>
      obtain ⟨dy, h2⟩ := r
      cases e3 : o h2 dx dy with
      | none => simp [e1, e2, e3] at e
      | some r =>
        simp [e1, e2, e3] at e
        obtain ⟨rfl, rfl⟩ := e
        refine ⟨ρ, ms, dx, h1, R0, S, e1, fun x H1 ρ1 F1 R1 dn1 => ?_⟩
        refine ⟨ρ1, { ms with h := h1 }, dy, h2, R1, S.fut F1, e2, fun y H2 ρ2 F2 R2 dn2 => ?_⟩
        exact k ρ2 h2 H2 x y dx dy r R2 (dn1.fut F2) dn2 e3 fun v H' ρ' F3 R3 dn3 => q v H' ρ' ((F1.trans F2).trans F3) R3 dn3
/-- an operation on values as a function of data -/
def Op2 (K : PySem.W.Frag) (r : R2) (o : Cells → D → D → Option D) : Prop :=
  ∀ ρ h H x y dx dy d (Q : VK), Rel K ρ h H → Den K ρ H x dx → Den K ρ H y dy → o h dx dy = some d → (∀ v H' ρ', Fut ρ H ρ' H' → Rel K ρ' h H' → Den K ρ' H' v d → Q v H') → r x y H Q
def mBin (o : Cells → D → D → Option D) (f g : ME) : ME := fun ms => do let (x, h1) ← f ms; let (y, h2) ← g { ms with h := h1 }; let d ← o h2 x y; some (d, h2)
theorem ev_bin {a b : Expr} {pos : Pos} {op : Operator} {r : R2} {o : Cells → D → D → Option D} {f g : ME} (ho : OpR X (binaryOp op) r) (p : Op2 X.K r o) (ha : EV X a f) (hb : EV X b g) : EV X (.BinOp a op b pos) (mBin o f g) :=
  pe_w (pe_op ho ha hb) fun _ _ _ h => rd2 h fun ρ h2 H2 x y dx dy d R a b e k => p ρ h2 H2 x y dx dy d _ R a b e k
theorem ev_cmp {a b : Expr} {pos : Pos} {op : CmpOp} {r : R2} {o : Cells → D → D → Option D} {f g : ME} (ho : OpR X (compareOp op) r) (p : Op2 X.K r o) (ha : EV X a f) (hb : EV X b g) (hm : behindInMarks op b = false) : EV X (.Compare a [op] [b] pos) (mBin o f g) :=
  pe_w (pe_cmpR ho ha hb hm) fun _ _ _ h => rd2 h fun ρ h2 H2 x y dx dy d R a b e k => p ρ h2 H2 x y dx dy d _ R a b e k
/-- a comparison as a test: o tells a bool -/
def mTBin (o : Cells → D → D → Option Bool) (f g : ME) : MT := fun ms => do let (x, h1) ← f ms; let (y, h2) ← g { ms with h := h1 }; let d ← o h2 x y; some (d, h2)
def oB (o : Cells → D → D → Option Bool) : Cells → D → D → Option D := fun h x y => (o h x y).map D.bl
theorem den_bl {K : PySem.W.Frag} {ρ : Rho} {H : Hp} {v : V} {b : Bool} (h : Den K ρ H v (.bl b)) : v = .bl b := by cases h; rfl
theorem den_int {K : PySem.W.Frag} {ρ : Rho} {H : Hp} {v : V} {b : Int} (h : Den K ρ H v (.int b)) : v = .int b := by cases h; rfl
theorem den_str {K : PySem.W.Frag} {ρ : Rho} {H : Hp} {v : V} {b : Str} (h : Den K ρ H v (.str b)) : v = .str b := by cases h; rfl
theorem den_non {K : PySem.W.Frag} {ρ : Rho} {H : Hp} {v : V} (h : Den K ρ H v .non) : v = .non := by cases h; rfl
theorem tv_cmp {a b : Expr} {pos : Pos} {op : CmpOp} {r : R2} {o : Cells → D → D → Option Bool} {f g : ME} (ho : OpR X (compareOp op) r) (p : Op2 X.K r (oB o)) (ha : EV X a f) (hb : EV X b g) (hm : behindInMarks op b = false) : TV X (.Compare a [op] [b] pos) (mTBin o f g) := by
  refine pt_w (pt_cmpR ho ha hb hm) fun σ H Q h => ?_
  obtain ⟨ρ, ms, d, h', R0, S, e, q⟩ := h
  refine rd2 (o := oB o) (Q := fun x H' => ∃ k, x = .bl k ∧ Q k H') ⟨ρ, ms, .bl d, h', R0, S, ?_, fun v H' ρ' F R dn => ⟨d, den_bl dn, q H' ρ' F R⟩⟩ fun ρ h2 H2 x y dx dy d R a b e k => p ρ h2 H2 x y dx dy d _ R a b e k
  unfold mTBin at e
  cases e1 : f ms with
  | none => simp [e1] at e
  | some r =>
    obtain ⟨dx, h1⟩ := r
    cases e2 : g { ms with h := h1 } with
    | none => simp [e1, e2] at e
    | some r =>
      obtain ⟨dy, h2⟩ := r
      cases e3 : o h2 dx dy with
      | none => simp [e1, e2, e3] at e
      | some r =>
        simp [e1, e2, e3] at e
        obtain ⟨rfl, rfl⟩ := e
        simp [e1, e2, oB, e3]
end
end Zm

set_option Elab.async false
set_option linter.all false
set_option maxRecDepth 100000
/-! Zg: defs that are called where no guard stands (so that repr of tuples and lists is known to go). -/
namespace Zm
open PySem PySem.Spec PyProof.Rows L2
structure RoomG (k : Nat) (A : Around) : Prop where
  r : Room k A
  g : A.guards = some []
theorem RoomG.deeper {k : Nat} {A : Around} (h : RoomG (k + 1) A) (env : Env) : RoomG k (A.deeper env) := ⟨h.r.deeper env, h.g⟩
theorem RoomG.mono {j k : Nat} {A : Around} (h : RoomG k A) (l : j ≤ k) : RoomG j A := ⟨h.r.mono l, h.g⟩
theorem RoomG.depth {k : Nat} {A : Around} (h : RoomG k A) : A.depth < recursionLimit := h.r.depth
theorem RoomG.hdv {k : Nat} {A : Around} (h : RoomG k A) : A.handled = none := h.r.hd
structure FnG (P : Program) (w : World) (K : PySem.W.Frag) (mg : Str → Option Value) (base : Heap) (CX : CXT) (k : Nat) (f : Addr) (fd : FuncData) (ps : List Str) (sp : Sp) : Prop where
  len : ∀ vz Hh Qq E, sp vz Hh Qq E → vz.length = ps.length
  run : ∀ (A : Around) (oute : List Env) (s : Shared) (Hh : Hp) (args : Args) (uz : List Value) (vz : List V) (Qq : VK) (E : XK), RoomG k A → Env0 P w K mg base A oute s Hh → BindsTo s fd args (ps.zip uz) → Vals vz uz → sp vz Hh Qq E →
    codeAny (model P w) A (.call (.ref f) args) (CR CX oute P w Hh s Qq E) s
theorem FnG.mono {P : Program} {w : World} {K : PySem.W.Frag} {mg : Str → Option Value} {base : Heap} {CX : CXT} {j k : Nat} {f : Addr} {fd : FuncData} {ps : List Str} {sp : Sp} (F : FnG P w K mg base CX j f fd ps sp) (h : j ≤ k) :
    FnG P w K mg base CX k f fd ps sp := ⟨F.len, fun A oute s Hh args uz vz Qq E hroom => F.run A oute s Hh args uz vz Qq E (hroom.mono h)⟩
section
variable {X : Cx} {CX : CXT} {k : Nat} {f C : Addr} {fd : FuncData} {ps ks : List Str} {sp : Sp} {dvs : List V} {ds : List Value} {E : XK} {x m : Str} {p pos apos : Pos} {e o : Expr} {ez : List Expr} {ta : TE} {t : TA}
variable {g : List Value → List Value → List Value} {gV : List V → List V → List V}
theorem run_fnG {pinz : List (Addr × Obj)} {σ : L2.St} {Hh : Hp} {s : Shared} {Qq : VK} {uz : List Value} {vz : List V} (Fg : FnG X.prog X.w X.K X.mg X.base CX k f fd ps sp) (hroom : RoomG k X.A) (hbi : Binds X.K fd ps ds) (hdv : Vals dvs ds) (hpas : Passes CX X E)
    (I : Inv X pinz σ Hh s) (r : Vals vz uz) (h : sp (vz ++ dvs) Hh Qq E) : wpAny (model X.prog X.w) X.A (call (.ref f) uz) (EP X pinz σ Qq) X.xe s := by
  have r2 : Vals (vz ++ dvs) (uz ++ ds) := r.append hdv
  have hl : (uz ++ ds).length = ps.length := by rw [← r2.length]; exact Fg.len _ _ _ _ h
  refine wpAny_call (codeAny_mono (Fg.run X.A X.stack s Hh ⟨uz, []⟩ (uz ++ ds) (vz ++ dvs) Qq E hroom I.env0 (hbi s uz I.kIn hl) r2 h) fun r sn hqq => ?_)
  cases r with
  | error e => exact hpas pinz σ Hh s e sn I hqq
  | ok fl =>
    cases fl with
    | ret u => exact I.after hqq
    | next => exact False.elim hqq
    | brk => exact False.elim hqq
    | cont => exact False.elim hqq

theorem pe_callG (Fg : FnG X.prog X.w X.K X.mg X.base CX k f fd ps sp) (hroom : RoomG k X.A) (hgl : Gl X x) (hmg : X.mg x = some (.ref f)) (hkp : PySem.W.keepIn X.K (.ref f) = true) (hbi : Binds X.K fd ps ds) (hdv : Vals dvs ds) (hpas : Passes CX X E)
    (hargs : PA X (e :: ez) t) (hdb : (x == ("__debug__" : Str)) = false := by decide) (he : starEach (e :: ez) X.env = (false, eval e X.env) :: starEach ez X.env := by rfl) (hpl : (backTo pos (starEach ez X.env)).any (·.1) = false := by rfl) :
    PE X (.Call (.Name x p) (e :: ez) [] pos) (tCall sp dvs E t) := by
  refine ⟨fun pinz s σ Hh Qq I h => ?_⟩
  refine wpAny_Call_Name_kw (ld_glob I hgl hmg ?_ hdb)
  refine PySem.W.callWith_K (h₀ := X.base) I.ok.mod.kin hkp (thn (hargs.run pos pinz s σ Hh _ I h) fun uz s1 ⟨vz, H1, I1, r, q⟩ => ⟨I1.kIn, ?_⟩) he hpl
  exact run_fnG Fg hroom hbi hdv hpas I1 r q
theorem pe_call0G (Fg : FnG X.prog X.w X.K X.mg X.base CX k f fd ps sp) (hroom : RoomG k X.A) (hgl : Gl X x) (hmg : X.mg x = some (.ref f)) (hkp : PySem.W.keepIn X.K (.ref f) = true) (hbi : Binds X.K fd ps ds) (hdv : Vals dvs ds) (hpas : Passes CX X E)
    (hdb : (x == ("__debug__" : Str)) = false := by decide) : PE X (.Call (.Name x p) [] [] pos) (tCall sp dvs E tNil) := by
  refine ⟨fun pinz s σ Hh Qq I h => ?_⟩
  refine wpAny_Call_Name_kw (ld_glob I hgl hmg ?_ hdb)
  exact PySem.W.callWith_K0 I.kIn hkp (run_fnG (uz := []) Fg hroom hbi hdv hpas I .nil h)

theorem run_fnkG {pinz : List (Addr × Obj)} {σ : L2.St} {Hh : Hp} {s : Shared} {Qq : VK} {uz wz : List Value} {vz zz : List V} (Fg : FnG X.prog X.w X.K X.mg X.base CX k f fd ps sp) (hroom : RoomG k X.A) (hbi : KBinds X.K fd ps ks g gV) (hpas : Passes CX X E)
    (I : Inv X pinz σ Hh s) (r : Vals vz uz) (rz : Vals zz wz) (h : sp (gV vz zz) Hh Qq E) : wpAny (model X.prog X.w) X.A (call (.ref f) uz (ks.zip wz)) (EP X pinz σ Qq) X.xe s := by
  have r2 := hbi.rel r rz
  have hl : (g uz wz).length = ps.length := by rw [← r2.length]; exact Fg.len _ _ _ _ h
  refine wpAny_call (codeAny_mono (Fg.run X.A X.stack s Hh ⟨uz, ks.zip wz⟩ (g uz wz) (gV vz zz) Qq E hroom I.env0 (hbi.to s uz wz I.kIn hl) r2 h) fun r sn hqq => ?_)
  cases r with
  | error e => exact hpas pinz σ Hh s e sn I hqq
  | ok fl =>
    cases fl with
    | ret u => exact I.after hqq
    | next => exact False.elim hqq
    | brk => exact False.elim hqq
    | cont => exact False.elim hqq
end
theorem fn_ofG {CX : CXT} {P : Program} {w : World} {K : PySem.W.Frag} {mg : Str → Option Value} {base : Heap} {k : Nat} {f : Addr} {name qual : Str} {params : Arguments} {body : List Stmt} {scope : Scope} {dV kV doc pm cdv ct oc : Value} {an od : Option Addr}
    {osl : Array (Option Value)} {N ps : List Str} {sp : Sp} (lk : K.lookup f = some ⟨oc, od, .func (PySem.W.fnOf name qual params body scope dV kV doc pm an cdv ct), osl⟩) (hcd : PySem.W.codeIn K cdv qual = true) (S : FnScope N ps scope)
    (len : ∀ vz Hh Qq E, sp vz Hh Qq E → vz.length = ps.length)
    (hwalk : ∀ (A : Around) (oute : List Env) (s : Shared) (Hh : Hp) (vz : List V) (Qq : VK) (E : XK), RoomG k (A.deeper (envOfC qual scope s.heap.objs.size f cdv)) → sp vz Hh Qq E →
      ∃ t, PSs (cxOf CX P w K mg base N qual scope f cdv A oute s Hh E) body t ∧ t { nx := fun _ H' => Qq .non H', rt := Qq } (start N vz) Hh) :
    FnG P w K mg base CX (k + 1) f (PySem.W.fnOf name qual params body scope dV kV doc pm an cdv ct) ps sp := by
  refine ⟨len, fun A oute s Hh args uz vz Qq E hroom env_0 hbi r hspec => ?_⟩
  have hl := len _ _ _ _ hspec
  have Kin : K.In s.heap := env_0.mod.kin.keeps fun b o e => (env_0.bs b o e).1
  have lim : s.heap.NoLimit := env_0.mod.nolimit.keeps fun b o e => (env_0.bs b o e).1
  have hkind : ∀ y ∈ ps.zip uz, scope.names.lookup y.1 = some .local ∨ (scope.names.lookup y.1 = some .cell ∧ ((cellsFrom (s.heap.objs.size + 1) scope.names []).lookup y.1).isSome = true) := fun ⟨n, v⟩ hy => by
    rcases S.par n (List.of_mem_zip hy).1 with q | q
    · exact .inl q
    · exact .inr ⟨q, PySem.W.cellsFrom_some _ _ _ (.inl q)⟩
  refine codeAny_call_function hroom.depth (Kin _ _ lk) rfl S.co S.gen rfl (PySem.W.codeRec_of Kin hcd) (hbi _ _ _ _ ?_)
  refine wpAny_newFunctionEnv_cells S.kind hkind fun env he s1 x => ?_
  subst he
  refine ⟨lim.keeps x.toInCall.keep, codeAny_func ?_⟩
  obtain ⟨t, ht, hqq⟩ := hwalk A oute s Hh vz Qq E (hroom.deeper _) hspec
  have I : Inv (cxOf CX P w K mg base N qual scope f cdv A oute s Hh E) [] (start N vz) Hh s1 := inv_start S hroom.hdv env_0 hl r x
  refine wpAny_mono (ht.run [] s1 (start N vz) Hh _ I hqq) (fun fl sn hs => ?_) fun e sn hs => hs
  have fin : ∀ {σ' : L2.St} {H' : Hp} {v : V} {u : Value}, Inv (cxOf CX P w K mg base N qual scope f cdv A oute s Hh E) [] σ' H' sn → RelV v u → Qq v H' → CE oute P w Hh s Qq u sn :=
    fun {σ' H' v u} J rv q => ⟨v, H', J.os, J.bare, J.base, J.hok, rv, q⟩
  cases fl with
  | ret u =>
    obtain ⟨v, σ', H', J, rv, q⟩ := hs
    exact fin J rv q
  | next =>
    obtain ⟨σ', H', J, q⟩ := hs
    exact fin (v := V.non) (u := Value.none) J rfl q
  | brk =>
    obtain ⟨_, _, _, q⟩ := hs
    exact False.elim q
  | cont =>
    obtain ⟨_, _, _, q⟩ := hs
    exact False.elim q
theorem law_callG {P : Program} {w : World} {K : PySem.W.Frag} {mg mb : Str → Option Value} {CX : CXT} {k : Nat} {fa a : Addr} {fd : FuncData} {x : Str} {sp : Sp} {sv : Shared} {vz : List Value} {ns : List Int}
    (Kin : K.In sv.heap) (hns : sv.heap.Ns mainGlobals mg) (hbi : sv.heap.Ns builtinsNs mb) (hbb : ∀ x : Str, x ≠ "__name__" → mb x = bootBuiltins x) (hlim : sv.heap.NoLimit) (hgl : sv.gens = #[])
    (hargs : sv.heap.get? a = some { cls := .type "list", data := .seq vz.toArray }) (hi : IntsAre vz ns) (hl : ns.length ≤ sizeLine) (hroom : RoomG k callerA)
    (Fg : ∀ base : Heap, K.In base → base.Ns mainGlobals mg → FnG P w K mg base CX k fa fd [x] sp) (hbind : ∀ (s : Shared) (u : Value), BindsTo s fd ⟨[u], []⟩ [(x, u)])
    (hspec : ∀ Hh : Hp, Only Hh → SqL K Hh a (ns.map V.int) → sp [.ref a] Hh (fun v _ => v = .bl true) fun _ _ _ => False)
    (hCX : ∀ Hh e sn, CX [] Hh sv (fun _ _ _ => False) e sn → False) :
    codeAny (model P w) callerA (.call (.ref fa) ⟨[.ref a], []⟩) (fun r sn => r = .ok (.ret (.bool true)) ∧ OldK sv.heap sn.heap ∧ sn.os = sv.os ∧ AllBare sn.gens) sv := by
  have rv := vals_ints hi
  have lenV := hi.length
  -- from an abstract heap in which nothing but the script may be tracked
  have kern : ∀ Hh : Hp, Only Hh → SqL K Hh a (ns.map V.int) → HOk P w Hh sv.heap → (∀ b, Hh b ≠ none → b = a) → (Hh a ≠ none → K.lookup a = none) →
      codeAny (model P w) callerA (.call (.ref fa) ⟨[.ref a], []⟩) (fun r sn => r = .ok (.ret (.bool true)) ∧ OldK sv.heap sn.heap ∧ sn.os = sv.os ∧ AllBare sn.gens) sv := by
    intro Hh hOnly hS hok hA hK
    have baseOf : ∀ {b : Addr} {o : Obj}, sv.heap.get? b = some o → Hh b = none → (hidT sv.heap Hh).get? b = some o := fun e n => hidT_get e n
    have noAt : ∀ {b : Addr} {o : Obj} {ez : Array DictEntry} {ep : Nat}, sv.heap.get? b = some o → o.data = .dict ez ep → Hh b = none := fun {b o ez ep} e d => by
      cases q : Hh b with
      | none => rfl
      | some u =>
        have e' : b = a := hA b (by rw [q]; simp)
        subst e'
        rw [hargs] at e; cases e
        have d' : Data.seq vz.toArray _ = Data.dict ez ep := d
        cases d'
    have nsKeep : ∀ {b : Addr} {m : Str → Option Value}, sv.heap.Ns b m → (hidT sv.heap Hh).Ns b m := fun {b m} ⟨o, ez, ep, e, d, r⟩ => ⟨o, ez, ep, baseOf e (noAt e d), d, r⟩
    have hKb : K.In (hidT sv.heap Hh) := fun b o e => baseOf (Kin b o e) (by
      cases q : Hh b with
      | none => rfl
      | some u =>
        have e' : b = a := hA b (by rw [q]; simp)
        subst e'
        rw [hK (by rw [q]; simp)] at e; cases e)
    have hM : Mod K mg (hidT sv.heap Hh) := ⟨hKb, nsKeep hns, ⟨mb, nsKeep hbi, hbb⟩, let ⟨mc, h1, h2⟩ := hlim; ⟨mc, nsKeep h1, h2⟩⟩
    have env_0 : Env0 P w K mg (hidT sv.heap Hh) callerA [] sv Hh := ⟨rfl, hM, fun b o e => of_hidT e, Nat.le_of_eq (hidT_size _ _), trivial, fun b hbi => absurd (show b ∈ ([] : List Addr) from hbi) (by simp), hok, .of_eq hgl⟩
    refine codeAny_mono ((Fg _ hKb (nsKeep hns)).run callerA [] sv Hh ⟨[.ref a], []⟩ [.ref a] [.ref a] _ _ hroom env_0 (hbind sv (.ref a)) (.cons rfl .nil) (hspec Hh hOnly hS)) fun r sn h => ?_
    cases r with
    | error e => exact (hCX Hh e sn h).elim
    | ok fl =>
      cases fl with
      | next => exact False.elim h
      | brk => exact False.elim h
      | cont => exact False.elim h
      | ret u =>
        obtain ⟨v, H', os, bare, un, hok', r', q⟩ := h
        have q' : v = .bl true := q
        subst q'
        obtain rfl : u = Value.bool true := r'
        refine ⟨rfl, OldK.of_keep fun b o e => ?_, os, bare⟩
        cases q : Hh b with
        | none => exact un.keep b o e q (by intro z; exact absurd (show b ∈ ([] : List Addr) from z) (by simp)) (by simp)
        | some u =>
          rcases hOnly b with z | ⟨ob, xs, z⟩
          · rw [q] at z; cases z
          · have z2 := un.frzs b ob _ z
            obtain ⟨e1, _⟩ := hok b _ z
            obtain ⟨e2, _⟩ := hok' b _ z2
            rw [e] at e1; cases e1
            exact e2
  cases hkp : K.lookup a with
  | some o =>
    -- the script is one of the module's own objects
    have e := Kin a o hkp
    rw [hargs] at e
    cases e
    refine kern (fun _ => none) (fun _ => .inl rfl) (.inr ⟨_, vz.toArray, _, hkp, rfl, rfl, rfl, by rw [List.size_toArray, lenV]; exact hl, by simpa using rv⟩) (fun b u z => by have z' : (none : Option HO) = some u := z; cases z') (fun b z => absurd rfl z) fun z => absurd rfl z
  | none =>
    refine kern (fun b => if b = a then some (.frz { cls := .type "list", data := .seq vz.toArray } (.lst (ns.map V.int))) else none) (fun b => ?_) (.inl (.inr ⟨{ cls := .type "list", data := .seq vz.toArray }, if_pos rfl⟩)) (fun b u z => ?_) (fun b z => ?_) fun _ => hkp
    · by_cases hbi : b = a
      · exact .inr ⟨_, _, if_pos hbi⟩
      · exact .inl (if_neg hbi)
    · by_cases hbi : b = a
      · have z' := (if_pos hbi).symm.trans z
        cases z'
        subst hbi
        exact ⟨hargs, by rw [List.length_map]; exact hl, vz, _, rv, hargs⟩
      · have z' := (if_neg hbi).symm.trans z
        cases z'
    · by_cases hbi : b = a
      · exact hbi
      · exact absurd (if_neg hbi) z
theorem walk_ofG {l : PySem.W.OpenLaw} {n k : Nat} {q : Program} {loose : List Str} {XP : (Str → Option Value) → Heap → Prop} {YP : World → Heap → Prop} {d : DefRec} {K : Params → PySem.W.Frag} {CX : World → CXT} {sp : World → Sp} {x : Str}
    (hn : l.most = some n) (hn2 : n ≤ sizeLine) (hdf : d.params.defaults = []) (hroom : RoomG k callerA)
    (hY : ∀ (w : World) (h : Heap), YP w h → (K w.params).In h)
    (Fg : ∀ (w : World) (mg : Str → Option Value) (fa : Addr) (h : Heap), (K w.params).In h → h.Ns mainGlobals mg → mg d.name = some (.ref fa) →
      ∃ fd : FuncData, (∀ (s : Shared) (u : Value), BindsTo s fd ⟨[u], []⟩ [(x, u)]) ∧
        ∀ base : Heap, (K w.params).In base → base.Ns mainGlobals mg → FnG l.prog w (K w.params) mg base (CX w) k fa fd [x] (sp w))
    (hspec : ∀ (w : World) (Hh : Hp) (a : Addr) (ns : List Int), ns.length ≤ n → Only Hh → SqL (K w.params) Hh a (ns.map V.int) → sp w [.ref a] Hh (fun v _ => v = .bl true) fun _ _ _ => False)
    (hCX : ∀ (w : World) (Hh : Hp) (s : Shared) (e : Value) (sn : Shared), CX w [] Hh s (fun _ _ _ => False) e sn → False) :
    PySem.W.WalkO q loose XP YP l.row.toRowW d [] (fun f vz => PySem.call f vz) := by
  refine Att.attach_call hn hdf fun w s₀ sv mg mb fa o pm cd doc a vz ns G Y ho hdv hcd hmg hobj hints hlen hgl => ?_
  have Kin := hY w _ Y
  obtain ⟨fd, hbi, hF⟩ := Fg w mg fa _ Kin G.T.g hmg
  exact law_callG Kin G.T.g G.T.b G.T.builtins G.T.nolimit hgl hobj hints (Nat.le_trans hlen hn2) hroom hF hbi (fun Hh hOnly hS => hspec w Hh a ns hlen hOnly hS) fun Hh e sn => hCX w Hh sv e sn
end Zm

set_option Elab.async false
set_option maxRecDepth 100000
/-! Zd: tests, argument lists, displays, calls, statements, loops. -/
namespace Zm
open PySem L2
section
variable {X : Cx}

/-! ### tests -/
def truthD : Cells → D → Option Bool
  | _, .non => some false
  | _, .bl b => some b
  | _, .int i => some (i != 0)
  | _, .tup ds => some !ds.isEmpty
  | _, .lst ds => some !ds.isEmpty
  | _, .frl ds => some !ds.isEmpty
  | h, .cell i => (h[i]?).map fun ds => !ds.isEmpty
  | _, _ => none
theorem dens_empty {K : PySem.W.Frag} {ρ : Rho} {H : Hp} {vs : List V} {ds : List D} (h : Dens K ρ H vs ds) : (!ds.isEmpty) = !vs.isEmpty := by cases h <;> rfl
theorem truV_of {K : PySem.W.Frag} {ρ : Rho} {h : Cells} {H : Hp} {x : V} {d : D} {b : Bool} (R : Rel K ρ h H) (dn : Den K ρ H x d) (e : truthD h d = some b) : TruV K x H b := by
  cases dn with
  | non => cases e; exact (rfl : false = false)
  | bl b => cases e; exact (rfl : b = b)
  | int i => cases e; exact (rfl : (i != 0) = (i != 0))
  | str x => cases e
  | tup r n ds => cases e; exact .inr (.inl ⟨_, .inl r, dens_empty ds⟩)
  | tupK r ds => cases e; exact .inr (.inl ⟨_, r H, dens_empty ds⟩)
  | lst r n ds => cases e; exact .inl ⟨_, SqL.of r, dens_empty ds⟩
  | frl r n ds => cases e; exact .inl ⟨_, .inl r, dens_empty ds⟩
  | frlK r ds => cases e; exact .inl ⟨_, r H, dens_empty ds⟩
  | ty n => cases e
  | dic r n => cases e
  | rng r n => cases e
  | hid a => cases e
  | exc h n r => cases e
  | cell c =>
    simp only [truthD, Option.map_eq_some_iff] at e
    obtain ⟨ds, e1, e2⟩ := e
    obtain ⟨vs, h1, h2⟩ := R.at_ _ _ _ c e1
    exact .inl ⟨vs, SqL.of h1, by rw [← e2, dens_empty h2]⟩
def mTru (f : ME) : MT := fun ms => (f ms).bind fun r => (truthD r.2 r.1).map fun b => (b, r.2)
theorem tv_val {e : Expr} {f : ME} (h : EV X e f) (he : ∀ whole, isTrue e X.env whole = (do let v ← whole; standAt e.pos; holding [v] (truthy v)) := by intro _; rfl) : TV X e (mTru f) := by
  refine pt_w (pt_truth h he) fun σ H Q hw => ?_
  obtain ⟨ρ, ms, b, h', R, S, e, q⟩ := hw
  unfold mTru at e
  obtain ⟨r, e1, e2⟩ := Option.bind_eq_some_iff.mp e
  obtain ⟨b', e3, e4⟩ := Option.map_eq_some_iff.mp e2
  obtain ⟨d, h1⟩ := r
  cases e4
  exact ⟨ρ, ms, d, h1, R, S, e1, fun v H' ρ' F R' dn => ⟨b, truV_of R' dn e3, q H' ρ' F R'⟩⟩
abbrev WV (X : Cx) (e : Expr) (f : MT) : Prop := PW X e (rdT X.K f)
def mAnd (f g : MT) : MT := fun ms => (f ms).bind fun r => bif r.1 then g { ms with h := r.2 } else some (false, r.2)
def mOr (f g : MT) : MT := fun ms => (f ms).bind fun r => bif r.1 then some (true, r.2) else g { ms with h := r.2 }
def mNot (f : MT) : MT := fun ms => (f ms).bind fun r => some (!r.1, r.2)
theorem wv_and1 {a : Expr} {pos : Pos} {f : MT} (h : TV X a f) : WV X (.BoolOp .And [a] pos) f := pw_and1 h
theorem wv_or1 {a : Expr} {pos : Pos} {f : MT} (h : TV X a f) : WV X (.BoolOp .Or [a] pos) f := pw_or1 h
theorem rd_andT {K : PySem.W.Frag} {f g : MT} {σ : St} {H : Hp} {Q : Bool → Hp → Prop} (h : rdT K (mAnd f g) σ H Q) : tAnd (rdT K f) (rdT K g) σ H Q := by
  obtain ⟨ρ, ms, b, h', R, S, e, q⟩ := h
  obtain ⟨r, e1, e2⟩ := Option.bind_eq_some_iff.mp e
  obtain ⟨c, h1⟩ := r
  refine ⟨ρ, ms, c, h1, R, S, e1, fun H1 ρ1 F1 R1 => ?_⟩
  cases c with
  | true => exact ⟨ρ1, { ms with h := h1 }, b, h', R1, S.fut F1, e2, fun H' ρ' F R' => q H' ρ' (F1.trans F) R'⟩
  | false => cases e2; exact q H1 ρ1 F1 R1
theorem rd_orT {K : PySem.W.Frag} {f g : MT} {σ : St} {H : Hp} {Q : Bool → Hp → Prop} (h : rdT K (mOr f g) σ H Q) : tOr (rdT K f) (rdT K g) σ H Q := by
  obtain ⟨ρ, ms, b, h', R, S, e, q⟩ := h
  obtain ⟨r, e1, e2⟩ := Option.bind_eq_some_iff.mp e
  obtain ⟨c, h1⟩ := r
  refine ⟨ρ, ms, c, h1, R, S, e1, fun H1 ρ1 F1 R1 => ?_⟩
  cases c with
  | false => exact ⟨ρ1, { ms with h := h1 }, b, h', R1, S.fut F1, e2, fun H' ρ' F R' => q H' ρ' (F1.trans F) R'⟩
  | true => cases e2; exact q H1 ρ1 F1 R1
theorem wv_and {a b : Expr} {rest : List Expr} {pos : Pos} {f g : MT} (ha : TV X a f) (hb : WV X (.BoolOp .And (b :: rest) pos) g) : WV X (.BoolOp .And (a :: b :: rest) pos) (mAnd f g) := pw_w (pw_and ha hb) fun _ _ _ => rd_andT
theorem wv_or {a b : Expr} {rest : List Expr} {pos : Pos} {f g : MT} (ha : TV X a f) (hb : WV X (.BoolOp .Or (b :: rest) pos) g) : WV X (.BoolOp .Or (a :: b :: rest) pos) (mOr f g) := pw_w (pw_or ha hb) fun _ _ _ => rd_orT
theorem tv_pw {a : Expr} {f : MT} (h : WV X a f) : TV X a f := h.pt
theorem tv_not {a : Expr} {pos : Pos} {f : MT} (ha : TV X a f) : TV X (.UnaryOp .Not a pos) (mNot f) := by
  refine pt_w (pt_not ha) fun σ H Q h => ?_
  obtain ⟨ρ, ms, b, h', R, S, e, q⟩ := h
  obtain ⟨r, e1, e2⟩ := Option.bind_eq_some_iff.mp e
  obtain ⟨c, h1⟩ := r
  cases e2
  exact ⟨ρ, ms, c, h1, R, S, e1, fun H1 ρ1 F1 R1 => q H1 ρ1 F1 R1⟩
/-- as values: bools -/
def asB : D → Option Bool
  | .bl b => some b
  | _ => none
theorem den_asB {K : PySem.W.Frag} {ρ : Rho} {H : Hp} {x : V} {d : D} {c : Bool} (dn : Den K ρ H x d) (e : asB d = some c) : x = .bl c := by
  cases d <;> simp [asB] at e
  subst e
  exact den_bl dn
def mAndV (f g : ME) : ME := fun ms => (f ms).bind fun r => (asB r.1).bind fun c => bif c then g { ms with h := r.2 } else some (.bl false, r.2)
def mOrV (f g : ME) : ME := fun ms => (f ms).bind fun r => (asB r.1).bind fun c => bif c then some (.bl true, r.2) else g { ms with h := r.2 }
def mNotV (f : ME) : ME := fun ms => (f ms).bind fun r => (asB r.1).bind fun c => some (.bl (!c), r.2)
theorem ev_one {a : Expr} {op : _root_.PySem.BoolOp} {pos : Pos} {f : ME} (h : EV X a f) : EV X (.BoolOp op [a] pos) f := pe_one h
theorem ev_and {a b : Expr} {rest : List Expr} {pos : Pos} {f g : ME} (ha : EV X a f) (hb : EV X (.BoolOp .And (b :: rest) pos) g) : EV X (.BoolOp .And (a :: b :: rest) pos) (mAndV f g) := by
  refine pe_w (pe_and ha hb) fun σ H Q h => ?_
  obtain ⟨ρ, ms, d, h', R, S, e, q⟩ := h
  obtain ⟨r, e1, e2⟩ := Option.bind_eq_some_iff.mp e
  obtain ⟨c, e3, e4⟩ := Option.bind_eq_some_iff.mp e2
  obtain ⟨x, h1⟩ := r
  refine ⟨ρ, ms, x, h1, R, S, e1, fun v H1 ρ1 F1 R1 dn => ⟨c, den_asB dn e3, ?_⟩⟩
  cases c with
  | true => exact ⟨ρ1, { ms with h := h1 }, d, h', R1, S.fut F1, e4, fun v H' ρ' F R' dn => q v H' ρ' (F1.trans F) R' dn⟩
  | false => cases e4; exact q _ H1 ρ1 F1 R1 (.bl false)
theorem ev_or {a b : Expr} {rest : List Expr} {pos : Pos} {f g : ME} (ha : EV X a f) (hb : EV X (.BoolOp .Or (b :: rest) pos) g) : EV X (.BoolOp .Or (a :: b :: rest) pos) (mOrV f g) := by
  refine pe_w (pe_or ha hb) fun σ H Q h => ?_
  obtain ⟨ρ, ms, d, h', R, S, e, q⟩ := h
  obtain ⟨r, e1, e2⟩ := Option.bind_eq_some_iff.mp e
  obtain ⟨c, e3, e4⟩ := Option.bind_eq_some_iff.mp e2
  obtain ⟨x, h1⟩ := r
  refine ⟨ρ, ms, x, h1, R, S, e1, fun v H1 ρ1 F1 R1 dn => ⟨c, den_asB dn e3, ?_⟩⟩
  cases c with
  | false => exact ⟨ρ1, { ms with h := h1 }, d, h', R1, S.fut F1, e4, fun v H' ρ' F R' dn => q v H' ρ' (F1.trans F) R' dn⟩
  | true => cases e4; exact q _ H1 ρ1 F1 R1 (.bl true)
theorem ev_not {a : Expr} {pos : Pos} {f : ME} (ha : EV X a f) : EV X (.UnaryOp .Not a pos) (mNotV f) := by
  refine pe_w (pe_not ha) fun σ H Q h => ?_
  obtain ⟨ρ, ms, d, h', R, S, e, q⟩ := h
  obtain ⟨r, e1, e2⟩ := Option.bind_eq_some_iff.mp e
  obtain ⟨c, e3, e4⟩ := Option.bind_eq_some_iff.mp e2
  obtain ⟨x, h1⟩ := r
  cases e4
  exact ⟨ρ, ms, x, h1, R, S, e1, fun v H1 ρ1 F1 R1 dn => ⟨c, den_asB dn e3, q _ H1 ρ1 F1 R1 (.bl _)⟩⟩
def mIf (c : MT) (f g : ME) : ME := fun ms => (c ms).bind fun r => bif r.1 then f { ms with h := r.2 } else g { ms with h := r.2 }
theorem ev_if {c a b : Expr} {pos : Pos} {t : MT} {f g : ME} (hc : TV X c t) (ha : EV X a f) (hb : EV X b g) : EV X (.IfExp c a b pos) (mIf t f g) := by
  refine pe_w (pe_ifExp hc ha hb) fun σ H Q h => ?_
  obtain ⟨ρ, ms, d, h', R, S, e, q⟩ := h
  obtain ⟨r, e1, e2⟩ := Option.bind_eq_some_iff.mp e
  obtain ⟨c, h1⟩ := r
  refine ⟨ρ, ms, c, h1, R, S, e1, fun H1 ρ1 F1 R1 => ?_⟩
  cases c with
  | true => exact ⟨ρ1, { ms with h := h1 }, d, h', R1, S.fut F1, e2, fun v H' ρ' F R' dn => q v H' ρ' (F1.trans F) R' dn⟩
  | false => exact ⟨ρ1, { ms with h := h1 }, d, h', R1, S.fut F1, e2, fun v H' ρ' F R' dn => q v H' ρ' (F1.trans F) R' dn⟩
/-- one operand -/
def Op1 (K : PySem.W.Frag) (r : V → Hp → VK → Prop) (o : Cells → D → Option D) : Prop :=
  ∀ ρ h H x dx d (Q : VK), Rel K ρ h H → Den K ρ H x dx → o h dx = some d → (∀ v H' ρ', Fut ρ H ρ' H' → Rel K ρ' h H' → Den K ρ' H' v d → Q v H') → r x H Q
def mUn (o : Cells → D → Option D) (f : ME) : ME := fun ms => (f ms).bind fun r => (o r.2 r.1).map fun d => (d, r.2)
theorem ev_un {a : Expr} {pos : Pos} {op : UnaryOp} {r : V → Hp → VK → Prop} {o : Cells → D → Option D} {f : ME} (ho : UnR X (unaryOp op) r) (p : Op1 X.K r o) (ha : EV X a f) : EV X (.UnaryOp op a pos) (mUn o f) := by
  refine pe_w (pe_un ho ha) fun σ H Q h => ?_
  obtain ⟨ρ, ms, d, h', R, S, e, q⟩ := h
  obtain ⟨r, e1, e2⟩ := Option.bind_eq_some_iff.mp e
  obtain ⟨x, h1⟩ := r
  obtain ⟨y, e3, e4⟩ := Option.map_eq_some_iff.mp e2
  cases e4
  exact ⟨ρ, ms, x, h1, R, S, e1, fun v H1 ρ1 F1 R1 dn => p ρ1 h1 H1 v x d Q R1 dn e3 fun v H' ρ' F R' dn => q v H' ρ' (F1.trans F) R' dn⟩

/-! ### argument lists, displays -/
def mNil : MA := fun ms => some ([], ms.h)
def mCons (f : ME) (g : MA) : MA := fun ms => (f ms).bind fun r => (g { ms with h := r.2 }).map fun t => (r.1 :: t.1, t.2)
theorem rd_nil {K : PySem.W.Frag} {σ : St} {H : Hp} {Q : List V → Hp → Prop} (h : rdA K mNil σ H Q) : tNil σ H Q := by
  obtain ⟨ρ, ms, d, h', R, S, e, q⟩ := h
  cases e
  exact q [] H ρ (.refl ρ H) R .nil
theorem rd_cons {K : PySem.W.Frag} {f : ME} {g : MA} {σ : St} {H : Hp} {Q : List V → Hp → Prop} (h : rdA K (mCons f g) σ H Q) : tCons (rdE K f) (rdA K g) σ H Q := by
  obtain ⟨ρ, ms, ds, h', R, S, e, q⟩ := h
  obtain ⟨r, e1, e2⟩ := Option.bind_eq_some_iff.mp e
  obtain ⟨t, e3, e4⟩ := Option.map_eq_some_iff.mp e2
  obtain ⟨x, h1⟩ := r
  obtain ⟨xs, h2⟩ := t
  cases e4
  refine ⟨ρ, ms, x, h1, R, S, e1, fun v H1 ρ1 F1 R1 dn => ?_⟩
  exact ⟨ρ1, { ms with h := h1 }, xs, h2, R1, S.fut F1, e3, fun vs H' ρ' F R' dns => q (v :: vs) H' ρ' (F1.trans F) R' (.cons (dn.fut F) dns)⟩
theorem av_nil : AV X [] mNil := pa_w pa_nil fun _ _ _ => rd_nil
theorem av_cons {e : Expr} {es : List Expr} {f : ME} {g : MA} (ha : EV X e f) (hr : AV X es g) (hs : starEach (e :: es) X.env = (false, eval e X.env) :: starEach es X.env := by rfl) : AV X (e :: es) (mCons f g) := pa_w (pa_cons ha hr hs) fun _ _ _ => rd_cons
abbrev KV' (X : Cx) (kws : List Keyword) (f : MA) : Prop := PK X kws (rdA X.K f)
theorem pk_w {kws : List Keyword} {t t' : TA} (h : PK X kws t) (w : ∀ σ H Q, t' σ H Q → t σ H Q) : PK X kws t' := ⟨fun pos pins s σ H Q I q => h.run pos pins s σ H Q I (w σ H Q q)⟩
theorem kv_nil : KV' X [] mNil := pk_w pk_nil fun _ _ _ => rd_nil
theorem kv_cons {e : Expr} {kws : List Keyword} {f : ME} {g : MA} {nm : Option Str} {kpos : Pos} (ha : EV X e f) (hr : KV' X kws g) : KV' X (⟨nm, e, kpos⟩ :: kws) (mCons f g) := pk_w (pk_cons ha hr) fun _ _ _ => rd_cons
abbrev line : Nat := 16777216
theorem line_eq : line = sizeLine := sizeLine_eq.symm
/-- a new object beside what there is -/
theorem fut_new {ρ : Rho} {H : Hp} {p : Addr} (o : HO) (hp : H p = none) : Fut ρ H ρ (upd H p o) :=
  .mk1 fun a u _ e => by rw [upd_ne (ne_of_none e hp)]; exact e
theorem Rel.out {K : PySem.W.Frag} {ρ : Rho} {h : Cells} {H : Hp} (R : Rel K ρ h H) {p : Addr} (hp : H p = none) : p ∉ ρ := by
  refine Rho.out (fun z => ?_) fun z => ?_
  · obtain ⟨i, hi, e⟩ := List.getElem_of_mem z
    have hl : i < h.length := by rw [← R.len]; exact hi
    obtain ⟨vs, q, _⟩ := R.at_ i p h[i] (by rw [List.getElem?_eq_getElem hi, e]) (List.getElem?_eq_getElem hl)
    rw [hp] at q; cases q
  · obtain ⟨o, q⟩ := R.hidden p z
    rw [hp] at q; cases q
theorem Rel.new {K : PySem.W.Frag} {ρ : Rho} {h : Cells} {H : Hp} (R : Rel K ρ h H) {p : Addr} (o : HO) (hp : H p = none) : Rel K ρ h (upd H p o) :=
  ⟨R.len, R.nd, R.apart, fun a ha => let ⟨u, q⟩ := R.hidden a ha; ⟨u, by rw [upd_ne (ne_of_none q hp)]; exact q⟩, fun i a ds e1 e2 => by
    obtain ⟨vs, q, dn⟩ := R.at_ i a ds e1 e2
    exact ⟨vs, by rw [upd_ne (ne_of_none q hp)]; exact q, dn.fut (fut_new o hp)⟩⟩
def mTup (f : MA) : ME := fun ms => (f ms).bind fun r => bif decide (r.1.length ≤ line) then some (.tup r.1, r.2) else none
def mLst (f : MA) : ME := fun ms => (f ms).bind fun r => bif decide (r.1.length ≤ line) then some (.lst r.1, r.2) else none
theorem bif_some {α : Type} {c : Bool} {x : α} {z : α} (h : (bif c then some x else none) = some z) : c = true ∧ x = z := by
  cases c
  · cases h
  · cases h; exact ⟨rfl, rfl⟩
theorem ev_tup {es : List Expr} {k : Nat} {pos : Pos} {f : MA} (h : AV X es f) : EV X (.Tuple es k pos) (mTup f) := by
  refine pe_w (pe_tup h) fun σ H Q h => ?_
  obtain ⟨ρ, ms, d, h', R, S, e, q⟩ := h
  obtain ⟨r, e1, e2⟩ := Option.bind_eq_some_iff.mp e
  obtain ⟨ds, h1⟩ := r
  obtain ⟨hl, e3⟩ := bif_some e2
  cases e3
  refine ⟨ρ, ms, ds, _, R, S, e1, fun vs H1 ρ1 F1 R1 dn => ⟨by rw [dn.length, ← line_eq]; exact of_decide_eq_true hl, fun p hp => ?_⟩⟩
  exact q _ _ ρ1 (F1.trans (fut_new _ hp)) (R1.new _ hp) (.tup (.inl upd_same) (R1.out hp) (dn.fut (fut_new _ hp)))
theorem ev_lst {es : List Expr} {pos : Pos} {f : MA} (h : AV X es f) : EV X (.List es pos) (mLst f) := by
  refine pe_w (pe_lst h) fun σ H Q h => ?_
  obtain ⟨ρ, ms, d, h', R, S, e, q⟩ := h
  obtain ⟨r, e1, e2⟩ := Option.bind_eq_some_iff.mp e
  obtain ⟨ds, h1⟩ := r
  obtain ⟨hl, e3⟩ := bif_some e2
  cases e3
  refine ⟨ρ, ms, ds, _, R, S, e1, fun vs H1 ρ1 F1 R1 dn => ⟨by rw [dn.length, ← line_eq]; exact of_decide_eq_true hl, fun p hp => ?_⟩⟩
  exact q _ _ ρ1 (F1.trans (fut_new _ hp)) (R1.new _ hp) (.lst upd_same (R1.out hp) (dn.fut (fut_new _ hp)))
/-- a list that is to change: a new cell -/
def mLstC (f : MA) : ME := fun ms => (f ms).bind fun r => bif decide (r.1.length ≤ line) then some (.cell r.2.length, r.2 ++ [r.1]) else none
def Rho.add (ρ : Rho) (p : Addr) : Rho := ⟨ρ.c ++ [p], ρ.v⟩
theorem fut_cell {ρ : Rho} {H : Hp} {p : Addr} (o : HO) (hp : H p = none) : Fut ρ H (ρ.add p) (upd H p o) :=
  ⟨fun a u _ e => by rw [upd_ne (ne_of_none e hp)]; exact e, ⟨[p], rfl⟩, fun _ h => h, fun _ h => .inl h, fun a h n => by
    rcases List.mem_append.mp h with z | z
    · exact absurd z n
    · obtain rfl : a = p := by simpa using z
      exact hp⟩
theorem Rel.more {K : PySem.W.Frag} {ρ : Rho} {h : Cells} {H : Hp} (R : Rel K ρ h H) {p : Addr} {vs : List V} {ds : List D} (hp : H p = none) (dn : Dens K ρ H vs ds) : Rel K (ρ.add p) (h ++ [ds]) (upd H p (.lst vs)) := by
  have F := fut_cell (ρ := ρ) (.lst vs) hp
  refine ⟨by simp [Rho.add, R.len], ?_, fun a ha z => ?_, fun a ha => let ⟨u, q⟩ := R.hidden a ha; ⟨u, by rw [upd_ne (ne_of_none q hp)]; exact q⟩, fun i a es e1 e2 => ?_⟩
  · exact List.nodup_append.mpr ⟨R.nd, by simp, fun a ha b hb z => by
      obtain rfl : b = p := by simpa using hb
      subst z
      exact R.out hp (.inl ha)⟩
  · rcases List.mem_append.mp ha with y | y
    · exact R.apart a y z
    · obtain rfl : a = p := by simpa using y
      exact R.out hp (.inr z)
  · simp only [Rho.add] at e1
    by_cases hi : i < ρ.c.length
    · rw [List.getElem?_append_left hi] at e1
      rw [List.getElem?_append_left (by rw [← R.len]; exact hi)] at e2
      obtain ⟨ws, q, d⟩ := R.at_ i a es e1 e2
      exact ⟨ws, by rw [upd_ne (ne_of_none q hp)]; exact q, d.fut F⟩
    · have hi' : i = ρ.c.length := by
        obtain ⟨hl, _⟩ := List.getElem?_eq_some_iff.mp e1
        simp at hl; omega
      subst hi'
      rw [List.getElem?_append_right (Nat.le_refl _)] at e1
      simp at e1
      rw [R.len, List.getElem?_append_right (Nat.le_refl _)] at e2
      simp at e2
      subst e1; subst e2
      exact ⟨vs, upd_same, dn.fut F⟩
theorem ev_lstC {es : List Expr} {pos : Pos} {f : MA} (h : AV X es f) : EV X (.List es pos) (mLstC f) := by
  refine pe_w (pe_lst h) fun σ H Q h => ?_
  obtain ⟨ρ, ms, d, h', R, S, e, q⟩ := h
  obtain ⟨r, e1, e2⟩ := Option.bind_eq_some_iff.mp e
  obtain ⟨ds, h1⟩ := r
  obtain ⟨hl, e3⟩ := bif_some e2
  cases e3
  refine ⟨ρ, ms, ds, _, R, S, e1, fun vs H1 ρ1 F1 R1 dn => ⟨by rw [dn.length, ← line_eq]; exact of_decide_eq_true hl, fun p hp => ?_⟩⟩
  exact q _ _ (ρ1.add p) (F1.trans (fut_cell _ hp)) (R1.more hp dn) (.cell (by rw [← R1.len]; simp [Rho.add]))

/-! ### calls -/
abbrev MF := List D → Cells → Option (D × Cells)
def spF (K : PySem.W.Frag) (n : Nat) (F : MF) : Sp := fun vs H Q _ => ∃ ρ h ds d h', Rel K ρ h H ∧ Dens K ρ H vs ds ∧ ds.length = n ∧ F ds h = some (d, h') ∧ ∀ v H' ρ', Fut ρ H ρ' H' → Rel K ρ' h' H' → Den K ρ' H' v d → Q v H'
def mCall (n : Nat) (F : MF) (f : MA) : ME := fun ms => (f ms).bind fun r => bif r.1.length == n then F r.1 r.2 else none
theorem rd_call {K : PySem.W.Frag} {n : Nat} {F : MF} {f : MA} {σ : St} {H : Hp} {Q : VK} (h : rdE K (mCall n F f) σ H Q) : tCall (spF K n F) [] E0 (rdA K f) σ H Q := by
  obtain ⟨ρ, ms, d, h', R, S, e, q⟩ := h
  obtain ⟨r, e1, e2⟩ := Option.bind_eq_some_iff.mp e
  obtain ⟨ds, h1⟩ := r
  cases hl : (ds.length == n) with
  | false => simp [hl] at e2
  | true =>
    simp only [hl, cond_true] at e2
    refine ⟨ρ, ms, ds, h1, R, S, e1, fun vs H1 ρ1 F1 R1 dn => ?_⟩
    show spF K n F (vs ++ []) H1 Q E0
    rw [List.append_nil]
    exact ⟨ρ1, h1, ds, d, h', R1, dn, by simpa using hl, e2, fun v H' ρ' F2 R2 d2 => q v H' ρ' (F1.trans F2) R2 d2⟩
theorem ev_call {k : Nat} {f : Addr} {fd : FuncData} {ps : List Str} {x : Str} {p pos : Pos} {e : Expr} {es : List Expr} {n : Nat} {F : MF} {fa : MA} (G : FnG X.prog X.w X.K X.mg X.base CX0 k f fd ps (spF X.K n F)) (hr : RoomG k X.A) (hm : X.mg x = some (.ref f)) (hk : PySem.W.keepIn X.K (.ref f) = true) (hb : Binds X.K fd ps [])
    (ha : AV X (e :: es) fa) (hg : Gl X x := by rfl) (hdb : (x == ("__debug__" : Str)) = false := by decide) (he : starEach (e :: es) X.env = (false, eval e X.env) :: starEach es X.env := by rfl) (hpl : (backTo pos (starEach es X.env)).any (·.1) = false := by rfl) :
    EV X (.Call (.Name x p) (e :: es) [] pos) (mCall n F fa) := pe_w (pe_callG G hr hg hm hk hb .nil pass0 ha hdb he hpl) fun _ _ _ => rd_call
/-- f(k = v, ..) alone: g puts the keywords' values in the parameters' order -/
theorem pe_callK0 {CX : CXT} {E : XK} {k : Nat} {f : Addr} {fd : FuncData} {ps ks : List Str} {x : Str} {p pos : Pos} {sp : Sp} {kws : List Keyword} {tk : TA} {g : List Value → List Value → List Value} {gV : List V → List V → List V}
    (F : FnG X.prog X.w X.K X.mg X.base CX k f fd ps sp) (hr : RoomG k X.A) (hg : Gl X x) (hm : X.mg x = some (.ref f)) (hk : PySem.W.keepIn X.K (.ref f) = true) (hb : KBinds X.K fd ps ks g gV) (hx : Passes CX X E)
    (hkw : PK X kws tk) (hall : (backToKw pos (keywordEach kws X.env)).all (·.1.isSome) = true := by rfl) (hks : (backToKw pos (keywordEach kws X.env)).filterMap (·.1) = ks := by rfl)
    (hdb : (x == ("__debug__" : Str)) = false := by decide)
    (hpl : ((backTo pos (starEach [] X.env)).any (·.1) || (backToKw pos (keywordEach kws X.env)).any (·.1.isNone)) = false := by rfl) :
    PE X (.Call (.Name x p) [] kws pos) (tCallK sp gV E tNil tk) := by
  refine ⟨fun pins s σ H Q I h => ?_⟩
  refine wpAny_Call_Name_kw (ld_glob I hg hm ?_ hdb)
  refine PySem.W.callWith_KW0 (h₀ := X.base) I.ok.mod.kin hk hall ?_ hpl
  refine thn (hkw.run pos pins s σ H _ I h) fun ws s2 ⟨zs, H2, I2, rz, q2⟩ => ⟨I2.kIn, ?_⟩
  rw [hks]
  exact run_fnkG F hr hb hx I2 (uz := []) .nil rz q2
/-- the order of keywords: perm of the data -/
def mCallK (n : Nat) (gD : List D → List D → List D) (F : MF) (f g : MA) : ME := fun ms => (f ms).bind fun r => (g { ms with h := r.2 }).bind fun t => bif (gD r.1 t.1).length == n then F (gD r.1 t.1) t.2 else none
def GD (gD : List D → List D → List D) (gV : List V → List V → List V) : Prop := ∀ K ρ H vs ws ds es, Dens K ρ H vs ds → Dens K ρ H ws es → Dens K ρ H (gV vs ws) (gD ds es)
theorem rd_callK {K : PySem.W.Frag} {n : Nat} {gD : List D → List D → List D} {gV : List V → List V → List V} (hG : GD gD gV) {F : MF} {f g : MA} {σ : St} {H : Hp} {Q : VK} (h : rdE K (mCallK n gD F f g) σ H Q) : tCallK (spF K n F) gV E0 (rdA K f) (rdA K g) σ H Q := by
  obtain ⟨ρ, ms, d, h', R, S, e, q⟩ := h
  obtain ⟨r, e1, e2⟩ := Option.bind_eq_some_iff.mp e
  obtain ⟨ds, h1⟩ := r
  obtain ⟨t, e3, e4⟩ := Option.bind_eq_some_iff.mp e2
  obtain ⟨es, h2⟩ := t
  cases hl : ((gD ds es).length == n) with
  | false => simp [hl] at e4
  | true =>
    simp only [hl, cond_true] at e4
    refine ⟨ρ, ms, ds, h1, R, S, e1, fun vs H1 ρ1 F1 R1 dn => ?_⟩
    refine ⟨ρ1, { ms with h := h1 }, es, h2, R1, S.fut F1, e3, fun ws H2 ρ2 F2 R2 dm => ?_⟩
    exact ⟨ρ2, h2, gD ds es, d, h', R2, hG K ρ2 H2 vs ws ds es (dn.fut F2) dm, by simpa using hl, e4, fun v H' ρ' F3 R3 d2 => q v H' ρ' ((F1.trans F2).trans F3) R3 d2⟩
theorem ev_callK0 {k : Nat} {f : Addr} {fd : FuncData} {ps ks : List Str} {x : Str} {p pos : Pos} {kws : List Keyword} {n : Nat} {F : MF} {fk : MA} {g : List Value → List Value → List Value} {gV : List V → List V → List V} {gD : List D → List D → List D}
    (G : FnG X.prog X.w X.K X.mg X.base CX0 k f fd ps (spF X.K n F)) (hr : RoomG k X.A) (hm : X.mg x = some (.ref f)) (hk : PySem.W.keepIn X.K (.ref f) = true) (hb : KBinds X.K fd ps ks g gV) (hG : GD gD gV)
    (hkw : KV' X kws fk) (hg : Gl X x := by rfl) (hall : (backToKw pos (keywordEach kws X.env)).all (·.1.isSome) = true := by rfl) (hks : (backToKw pos (keywordEach kws X.env)).filterMap (·.1) = ks := by rfl)
    (hdb : (x == ("__debug__" : Str)) = false := by decide)
    (hpl : ((backTo pos (starEach [] X.env)).any (·.1) || (backToKw pos (keywordEach kws X.env)).any (·.1.isNone)) = false := by rfl) : EV X (.Call (.Name x p) [] kws pos) (mCallK n gD F mNil fk) := by
  refine pe_w (pe_callK0 G hr hg hm hk hb pass0 hkw hall hks hdb hpl) fun σ H Q h => ?_
  obtain ⟨ρ, ms, ds, h', R, S, e, q⟩ := rd_callK hG h
  cases e
  exact q [] H ρ (.refl _ _) R .nil
/-- built-ins -/
def OpC (K : PySem.W.Frag) (r : List V → Hp → VK → Prop) (o : Cells → List D → Option D) : Prop :=
  ∀ ρ h H xs dxs d (Q : VK), Rel K ρ h H → Dens K ρ H xs dxs → o h dxs = some d → (∀ v H' ρ', Fut ρ H ρ' H' → Rel K ρ' h H' → Den K ρ' H' v d → Q v H') → r xs H Q
def mCB (o : Cells → List D → Option D) (f : MA) : ME := fun ms => (f ms).bind fun r => (o r.2 r.1).map fun d => (d, r.2)
theorem rd_cb {K : PySem.W.Frag} {r : List V → Hp → VK → Prop} {o : Cells → List D → Option D} {f : MA} (p : OpC K r o) {σ : St} {H : Hp} {Q : VK} (h : rdE K (mCB o f) σ H Q) : tCB r (rdA K f) σ H Q := by
  obtain ⟨ρ, ms, d, h', R, S, e, q⟩ := h
  obtain ⟨r, e1, e2⟩ := Option.bind_eq_some_iff.mp e
  obtain ⟨x, h1⟩ := r
  obtain ⟨y, e3, e4⟩ := Option.map_eq_some_iff.mp e2
  cases e4
  exact ⟨ρ, ms, x, h1, R, S, e1, fun v H1 ρ1 F1 R1 dn => p ρ1 h1 H1 v x d Q R1 dn e3 fun v H' ρ' F R' dn => q v H' ρ' (F1.trans F) R' dn⟩
theorem ev_callB {id : String} {r : List V → Hp → VK → Prop} {o : Cells → List D → Option D} {x : Str} {e : Expr} {es : List Expr} {f : MA} {p pos : Pos} (hc : CallR X (.builtin id) r) (po : OpC X.K r o) (hm : X.mg x = none) (hv : bootBuiltins x = some (.builtin id)) (ha : AV X (e :: es) f) (hg : Gl X x := by rfl) (hn : x ≠ "__name__" := by decide) (hdb : (x == ("__debug__" : Str)) = false := by decide)
    (he : starEach (e :: es) X.env = (false, eval e X.env) :: starEach es X.env := by rfl) (hpl : (backTo pos (starEach es X.env)).any (·.1) = false := by rfl) : EV X (.Call (.Name x p) (e :: es) [] pos) (mCB o f) :=
  pe_w (pe_callB hc hg hm hv ha hn hdb he hpl) fun _ _ _ => rd_cb po
theorem ev_callTy {T : String} {r : List V → Hp → VK → Prop} {o : Cells → List D → Option D} {x : Str} {e : Expr} {es : List Expr} {f : MA} {p pos : Pos} (hc : CallR X (.type T) r) (po : OpC X.K r o) (hm : X.mg x = none) (hv : bootBuiltins x = some (.type T)) (ha : AV X (e :: es) f) (hg : Gl X x := by rfl) (hn : x ≠ "__name__" := by decide) (hdb : (x == ("__debug__" : Str)) = false := by decide)
    (he : starEach (e :: es) X.env = (false, eval e X.env) :: starEach es X.env := by rfl) (hpl : (backTo pos (starEach es X.env)).any (·.1) = false := by rfl) : EV X (.Call (.Name x p) (e :: es) [] pos) (mCB o f) :=
  pe_w (pe_callTy hc hg hm hv ha hn hdb he hpl) fun _ _ _ => rd_cb po
end
end Zm

set_option Elab.async false
set_option linter.all false
set_option maxRecDepth 100000
/-! Ze: statements, targets, loops, defs. -/
namespace Zm
open PySem L2
section
variable {X : Cx}

/-! ### statements -/
def mNx : MB := fun ms => some (.nx, ms)
def mNev : MB := fun _ => none
def mBk : MB := fun ms => some (.bk, ms)
def mCt : MB := fun ms => some (.ct, ms)
def mSeq (a b : MB) : MB := fun ms => (a ms).bind fun r => match r.1 with
  | .nx => b r.2
  | o => some (o, r.2)

theorem rd_nx {K : PySem.W.Frag} {D : Ends} {σ : St} {H : Hp} (h : rdB K mNx D σ H) : tNext D σ H := by
  obtain ⟨ρ, ms, o, ms', R, S, e, q⟩ := h
  cases e
  exact q H ρ (.refl ρ H) R σ S
theorem bv_pass {pos : Pos} : BV X (.Pass pos) mNx := ps_w ps_pass fun _ _ _ => rd_nx
theorem bvs_nil : BVs X [] mNx := pss_w pss_nil fun _ _ _ => rd_nx
theorem bv_never {st : Stmt} : BV X st mNev := ps_w ps_never fun D σ H h => by
  obtain ⟨ρ, ms, o, ms', R, S, e, q⟩ := h
  cases e
theorem bv_break {pos : Pos} : BV X (.Break pos) mBk := ps_w ps_break fun D σ H h => by
  obtain ⟨ρ, ms, o, ms', R, S, e, q⟩ := h
  cases e
  exact q H ρ (.refl ρ H) R σ S
theorem bv_continue {pos : Pos} : BV X (.Continue pos) mCt := ps_w ps_continue fun D σ H h => by
  obtain ⟨ρ, ms, o, ms', R, S, e, q⟩ := h
  cases e
  exact q H ρ (.refl ρ H) R σ S
theorem bv_doc {x j pos pos'} : BV X (.Expr (.Constant (.str x) j pos) pos') mNx := ps_w ps_doc fun _ _ _ => rd_nx
theorem endsOf_mono {K : PySem.W.Frag} {ρ : Rho} {H : Hp} {D D' : Ends} {l : List (Option Zm.D)} {o : Out} (h : endsOf K ρ H D l o) (hn : D.nx = D'.nx) (hr : D.rt = D'.rt) (hb : D.bk = D'.bk) (hc : D.ct = D'.ct) : endsOf K ρ H D' l o := by
  cases o
  · rw [endsOf, ← hn]; exact h
  · rw [endsOf, ← hr]; exact h
  · rw [endsOf, ← hb]; exact h
  · rw [endsOf, ← hc]; exact h
theorem bvs_cons {st : Stmt} {rest : List Stmt} {a b : MB} (h1 : BV X st a) (h2 : BVs X rest b) : BVs X (st :: rest) (mSeq a b) := by
  refine pss_w (pss_cons h1 h2) fun D σ H h => ?_
  obtain ⟨ρ, ms, o, ms', R, S, e, q⟩ := h
  obtain ⟨r, e1, e2⟩ := Option.bind_eq_some_iff.mp e
  obtain ⟨o1, ms1⟩ := r
  refine ⟨ρ, ms, o1, ms1, R, S, e1, fun H1 ρ1 F1 R1 => ?_⟩
  cases o1 with
  | nx => exact fun σ' S' => ⟨ρ1, ms1, o, ms', R1, S', e2, fun H' ρ' F R' => q H' ρ' (F1.trans F) R'⟩
  | ret d => cases e2; exact q H1 ρ1 F1 R1
  | bk => cases e2; exact q H1 ρ1 F1 R1
  | ct => cases e2; exact q H1 ρ1 F1 R1
theorem bvs_one {st : Stmt} {a : MB} (h1 : BV X st a) : BVs X [st] a := pss_w (pss_one h1) fun _ _ _ h => h
def mDrop (f : ME) : MB := fun ms => (f ms).map fun r => (.nx, { ms with h := r.2 })
theorem bv_expr {e : Expr} {pos : Pos} {f : ME} (he : EV X e f) (hs : swapsWith e none pos.line X.env = pure false := by rfl) : BV X (.Expr e pos) (mDrop f) := by
  refine ps_w (ps_expr he hs) fun D σ H h => ?_
  obtain ⟨ρ, ms, o, ms', R, S, e, q⟩ := h
  obtain ⟨r, e1, e2⟩ := Option.map_eq_some_iff.mp e
  obtain ⟨d, h1⟩ := r
  cases e2
  exact ⟨ρ, ms, d, h1, R, S, e1, fun v H1 ρ1 F1 R1 dn => q H1 ρ1 F1 R1 σ (S.fut F1)⟩
def mRet (f : ME) : MB := fun ms => (f ms).map fun r => (.ret r.1, { ms with h := r.2 })
theorem bv_ret {e : Expr} {pos : Pos} {f : ME} (he : EV X e f) : BV X (.Return (some e) pos) (mRet f) := by
  refine ps_w (ps_ret he) fun D σ H h => ?_
  obtain ⟨ρ, ms, o, ms', R, S, e, q⟩ := h
  obtain ⟨r, e1, e2⟩ := Option.map_eq_some_iff.mp e
  obtain ⟨d, h1⟩ := r
  cases e2
  exact ⟨ρ, ms, d, h1, R, S, e1, fun v H1 ρ1 F1 R1 dn => q H1 ρ1 F1 R1 v dn⟩
def mRetN : MB := fun ms => some (.ret .non, ms)
theorem bv_retN {pos : Pos} : BV X (.Return none pos) mRetN := ps_w ps_retN fun D σ H h => by
  obtain ⟨ρ, ms, o, ms', R, S, e, q⟩ := h
  cases e
  exact q H ρ (.refl ρ H) R .non .non
def mIfS (c : MT) (a b : MB) : MB := fun ms => (c ms).bind fun r => bif r.1 then a { ms with h := r.2 } else b { ms with h := r.2 }
theorem bv_if {c : Expr} {x y : List Stmt} {pos : Pos} {t : MT} {a b : MB} (hc : TV X c t) (ha : BVs X x a) (hb : BVs X y b) : BV X (.If c x y pos) (mIfS t a b) := by
  refine ps_w (ps_if hc ha hb) fun D σ H h => ?_
  obtain ⟨ρ, ms, o, ms', R, S, e, q⟩ := h
  obtain ⟨r, e1, e2⟩ := Option.bind_eq_some_iff.mp e
  obtain ⟨c, h1⟩ := r
  refine ⟨ρ, ms, c, h1, R, S, e1, fun H1 ρ1 F1 R1 => ?_⟩
  cases c with
  | true => exact ⟨ρ1, { ms with h := h1 }, o, ms', R1, S.fut F1, e2, fun H' ρ' F R' => q H' ρ' (F1.trans F) R'⟩
  | false => exact ⟨ρ1, { ms with h := h1 }, o, ms', R1, S.fut F1, e2, fun H' ρ' F R' => q H' ρ' (F1.trans F) R'⟩

/-! ### targets -/
def gN (i : Nat) : MG := fun d ms => some { ms with s := ms.s.set i (some d) }
theorem gv_name {x : Str} {pos : Pos} (i : Nat) (hN : X.N.Nodup) (hi : X.N[i]? = some x := by rfl) (hx : Loc X.env.scope x := by first | exact Or.inl rfl | exact Or.inr rfl) (hf : X.fn x = true ∨ X.env.scope.names.lookup x = some .local := by first | exact .inl rfl | exact .inr rfl) : GV X (.Name x pos) (gN i) := by
  refine pg_w (pg_name hN hi hx hf) fun v σ H Q h => ?_
  obtain ⟨ρ, ms, d, ms', R, S, dn, e, q⟩ := h
  cases e
  exact q H ρ _ (.refl ρ H) R (S.set i dn)
/-- several, one after another -/
abbrev MGs := List D → MS → Option MS
def rdGs (K : PySem.W.Frag) (g : MGs) : TGs := fun vs σ H Q => ∃ ρ ms ds ms', Rel K ρ ms.h H ∧ Slots K ρ H ms.s σ ∧ Dens K ρ H vs ds ∧ g ds ms = some ms' ∧ ∀ H' ρ' σ', Fut ρ H ρ' H' → Rel K ρ' ms'.h H' → Slots K ρ' H' ms'.s σ' → Q σ' H'
abbrev GVs (X : Cx) (es : List Expr) (g : MGs) : Prop := PGs X es (rdGs X.K g)
def gsNil : MGs := fun ds ms => match ds with
  | [] => some ms
  | _ => none
def gsCons (g : MG) (gs : MGs) : MGs := fun ds ms => match ds with
  | [] => none
  | d :: r => (g d ms).bind (gs r)
theorem pgs_w {es : List Expr} {t t' : TGs} (h : PGs X es t) (w : ∀ v σ H Q, t' v σ H Q → t v σ H Q) : PGs X es t' := ⟨fun pins s σ H v u Q I r q => h.run pins s σ H v u Q I r (w v σ H Q q)⟩
theorem gvs_nil : GVs X [] gsNil := by
  refine pgs_w pgs_nil fun vs σ H Q h => ?_
  obtain ⟨ρ, ms, d, ms', R, S, dn, e, q⟩ := h
  cases dn with
  | nil => cases e; exact ⟨rfl, q H ρ σ (.refl ρ H) R S⟩
  | cons a b => cases e
theorem gvs_cons {e : Expr} {es : List Expr} {g : MG} {gs : MGs} (h1 : GV X e g) (h2 : GVs X es gs)
    (hs : (assignEach (e :: es) X.env).map (·.2) = assign e X.env :: (assignEach es X.env).map (·.2) := by rfl) : GVs X (e :: es) (gsCons g gs) := by
  refine pgs_w (pgs_cons h1 h2 hs) fun vs σ H Q h => ?_
  obtain ⟨ρ, ms, d, ms', R, S, dn, e, q⟩ := h
  cases dn with
  | nil => cases e
  | cons a b =>
    obtain ⟨ms1, e1, e2⟩ := Option.bind_eq_some_iff.mp e
    refine ⟨_, _, rfl, ρ, ms, _, ms1, R, S, a, e1, fun H1 ρ1 σ1 F1 R1 S1 => ?_⟩
    exact ⟨ρ1, ms1, _, ms', R1, S1, b.fut F1, e2, fun H' ρ' σ' F R' S' => q H' ρ' σ' (F1.trans F) R' S'⟩
def gT (n : Nat) (gs : MGs) : MG := fun d ms => match d with
  | .tup ds => bif ds.length == n then gs ds ms else none
  | _ => none
theorem den_tup {K : PySem.W.Frag} {ρ : Rho} {H : Hp} {v : V} {ds : List D} (h : Den K ρ H v (.tup ds)) : ∃ a vs, v = .ref a ∧ SqT K H a vs ∧ Dens K ρ H vs ds := by
  cases h with
  | tup r n d => exact ⟨_, _, rfl, .inl r, d⟩
  | tupK r d => exact ⟨_, _, rfl, r H, d⟩
theorem gv_tup {es : List Expr} {k : Nat} {pos : Pos} {gs : MGs} {n : Nat} (hc : X.calm = true) (h : GVs X es gs)
    (hn : (assignEach es X.env).length = n := by rfl) (hst : (assignEach es X.env).findIdx? (·.1) = none := by rfl) : GV X (.Tuple es k pos) (gT n gs) := by
  refine pg_w (pg_tup hc h hn hst) fun v σ H Q h => ?_
  obtain ⟨ρ, ms, d, ms', R, S, dn, e, q⟩ := h
  cases d <;> simp only [gT] at e <;> try (cases e; done)
  rename_i ds
  obtain ⟨a, vs, rfl, hq, dn⟩ := den_tup dn
  cases hl : (ds.length == n) with
  | false => simp [hl] at e
  | true =>
    simp only [hl, cond_true] at e
    exact ⟨a, vs, rfl, hq, by rw [dn.length]; simpa using hl, ρ, ms, ds, ms', R, S, dn, e, q⟩
def mAsg (f : ME) (g : MG) : MB := fun ms => (f ms).bind fun r => (g r.1 { ms with h := r.2 }).map fun t => (.nx, t)
theorem rd_asg {K : PySem.W.Frag} {f : ME} {g : MG} {D : Ends} {σ : St} {H : Hp} (h : rdB K (mAsg f g) D σ H) : tAsg (rdE K f) (rdG K g) D σ H := by
  obtain ⟨ρ, ms, o, ms', R, S, e, q⟩ := h
  obtain ⟨r, e1, e2⟩ := Option.bind_eq_some_iff.mp e
  obtain ⟨d, h1⟩ := r
  obtain ⟨t, e3, e4⟩ := Option.map_eq_some_iff.mp e2
  cases e4
  refine ⟨ρ, ms, d, h1, R, S, e1, fun v H1 ρ1 F1 R1 dn => ?_⟩
  exact ⟨ρ1, { ms with h := h1 }, d, _, R1, S.fut F1, dn, e3, fun H' ρ' σ' F R' S' => q H' ρ' (F1.trans F) R' σ' S'⟩
theorem rd_asgN {K : PySem.W.Frag} {f : ME} {i : Nat} {D : Ends} {σ : St} {H : Hp} (h : rdB K (mAsg f (gN i)) D σ H) : tAsg (rdE K f) (gName i) D σ H := by
  obtain ⟨ρ, ms, o, ms', R, S, e, q⟩ := h
  obtain ⟨r, e1, e2⟩ := Option.bind_eq_some_iff.mp e
  obtain ⟨d, h1⟩ := r
  cases e2
  exact ⟨ρ, ms, d, h1, R, S, e1, fun v H1 ρ1 F1 R1 dn => q H1 ρ1 F1 R1 _ ((S.fut F1).set i dn)⟩
theorem bv_set {x : Str} {e : Expr} {pos pos' : Pos} {f : ME} (i : Nat) (hN : X.N.Nodup) (he : EV X e f) (hi : X.N[i]? = some x := by rfl) (hx : Loc X.env.scope x := by first | exact Or.inl rfl | exact Or.inr rfl) (hs : swapsWith e (some (.Name x pos')) pos.line X.env = pure false := by rfl)
    (hf : X.fn x = true ∨ X.env.scope.names.lookup x = some .local := by first | exact .inl rfl | exact .inr rfl) : BV X (.Assign [.Name x pos'] e pos) (mAsg f (gN i)) :=
  ps_w (ps_set hN hi hx he hs hf) fun _ _ _ => rd_asgN
theorem bv_asg {tg e : Expr} {pos : Pos} {f : ME} {g : MG} (he : EV X e f) (hg : GV X tg g) (hs : swapsWithSole [tg] e pos.line X.env = pure false := by rfl) (hw : swappedStores [tg] e X.env = pure none := by rfl)
    (h1 : (assignEach [tg] X.env).map (·.2) = [assign tg X.env] := by rfl) : BV X (.Assign [tg] e pos) (mAsg f g) := ps_w (ps_asg he hg hs hw h1) fun _ _ _ => rd_asg

/-! ### while, by fuel -/
def mWhileL (c : MT) (b : MB) : Nat → MB
  | 0, _ => none
  | n + 1, ms => (c ms).bind fun r => bif r.1 then (b { ms with h := r.2 }).bind fun t => (match t.1 with
      | .nx => mWhileL c b n t.2
      | .ct => mWhileL c b n t.2
      | .bk => some (.nx, t.2)
      | .ret d => some (.ret d, t.2)) else some (.nx, { ms with h := r.2 })
def mWhile (fuel : MS → Nat) (c : MT) (b : MB) : MB := fun ms => mWhileL c b (fuel ms) ms
theorem bv_while {c : Expr} {body : List Stmt} {pos : Pos} {t : MT} {b : MB} (fuel : MS → Nat) (hc : TV X c t) (hb : BVs X body b) (hp : PassesOwn (model X.prog X.w) X.A X.env X.xe) : BV X (.While c body [] pos) (mWhile fuel t b) := by
  refine ps_w (ps_while hp hc hb) fun D σ H h => ?_
  obtain ⟨ρ, ms, o, ms', R, S, e, q⟩ := h
  refine ⟨fun m σ1 H1 => ∃ ρ1 ms1, Fut ρ H ρ1 H1 ∧ Rel X.K ρ1 ms1.h H1 ∧ Slots X.K ρ1 H1 ms1.s σ1 ∧ mWhileL t b m ms1 = some (o, ms'), ⟨_, ρ, ms, .refl ρ H, R, S, e⟩, ?_⟩
  rintro m σ1 H1 ⟨ρ1, ms1, F1, R1, S1, e1⟩
  cases m with
  | zero => cases e1
  | succ n =>
    obtain ⟨r, e2, e3⟩ := Option.bind_eq_some_iff.mp e1
    obtain ⟨c', h2⟩ := r
    refine ⟨ρ1, ms1, c', h2, R1, S1, e2, fun H2 ρ2 F2 R2 => ?_⟩
    cases c' with
    | false =>
      cases e3
      exact iteF (q H2 ρ2 (F1.trans F2) R2 σ1 (S1.fut F2))
    | true =>
      obtain ⟨u, e4, e5⟩ := Option.bind_eq_some_iff.mp e3
      obtain ⟨o3, ms3⟩ := u
      refine iteT ⟨fun σ3 H3 => ∃ ρ3 ms3, Fut ρ H ρ3 H3 ∧ Rel X.K ρ3 ms3.h H3 ∧ Slots X.K ρ3 H3 ms3.s σ3 ∧ mWhileL t b n ms3 = some (o, ms'), fun σ' H' w => ⟨n, Nat.lt_succ_self n, w⟩, ?_⟩
      refine ⟨ρ2, { ms1 with h := h2 }, o3, ms3, R2, S1.fut F2, e4, fun H3 ρ3 F3 R3 => ?_⟩
      have F13 := (F1.trans F2).trans F3
      cases o3 with
      | nx => exact fun σ3 S3 => ⟨ρ3, ms3, F13, R3, S3, e5⟩
      | ct => exact fun σ3 S3 => ⟨ρ3, ms3, F13, R3, S3, e5⟩
      | bk => cases e5; exact fun σ3 S3 => q H3 ρ3 F13 R3 σ3 S3
      | ret d => cases e5; exact fun v dn => q H3 ρ3 F13 R3 v dn

/-! ### for, over the items of a source -/
def mForL (g : MG) (b : MB) : List D → MB
  | [], ms => some (.nx, ms)
  | d :: ds, ms => (g d ms).bind fun m1 => (b m1).bind fun t => match t.1 with
      | .nx => mForL g b ds t.2
      | .ct => mForL g b ds t.2
      | .bk => some (.nx, t.2)
      | .ret d => some (.ret d, t.2)
/-- a source: the state to items and cells -/
abbrev MI := MS → Option (List D × Cells)
/-- what a walk J yields is the items ds: at any future of ρ0, H0 -/
def Yields (K : PySem.W.Frag) (ρ0 : Rho) (H0 : Hp) (J : It) (ds : List D) : Prop :=
  ∀ i ρ H h, Fut ρ0 H0 ρ H → Rel K ρ h H → (ds.length ≤ i → J.stop i H) ∧ ∀ d, ds[i]? = some d → J.go i H ∧ ∀ x H', J.yld i H x H' → Fut ρ H ρ H' ∧ Rel K ρ h H' ∧ Den K ρ H' x d
def rdI (K : PySem.W.Frag) (f : MI) : TI := fun σ H Rk => ∃ ρ ms ds h', Rel K ρ ms.h H ∧ Slots K ρ H ms.s σ ∧ f ms = some (ds, h') ∧ ∀ J H' ρ', Fut ρ H ρ' H' → Rel K ρ' h' H' → Yields K ρ' H' J ds → Rk J H'
abbrev IV (X : Cx) (tg iter : Expr) (f : MI) : Prop := PI X tg iter (rdI X.K f)
def mFor (f : MI) (g : MG) (b : MB) : MB := fun ms => (f ms).bind fun r => mForL g b r.1 { ms with h := r.2 }
theorem bv_for {tg iter : Expr} {body : List Stmt} {pos : Pos} {f : MI} {g : MG} {b : MB} (hi : IV X tg iter f) (hg : GV X tg g) (hb : BVs X body b) (hc : X.calm = true) (hp : PassesOwn (model X.prog X.w) X.A X.env X.xe)
    (hs : ∀ x, foldedSetIterable iter X.env x = pure x := by intro _; rfl) : BV X (.For tg iter body [] pos) (mFor f g b) := by
  refine ps_w (ps_for hp hc hi hg hb hs) fun D σ H h => ?_
  obtain ⟨ρ, ms, o, ms', R, S, e, q⟩ := h
  obtain ⟨r, e1, e2⟩ := Option.bind_eq_some_iff.mp e
  obtain ⟨ds, h1⟩ := r
  refine ⟨ρ, ms, ds, h1, R, S, e1, fun J H1 ρ1 F1 R1 Y => ?_⟩
  refine ⟨fun i m σ2 H2 => m = ds.length - i ∧ i ≤ ds.length ∧ ∃ ρ2 ms2, Fut ρ1 H1 ρ2 H2 ∧ Rel X.K ρ2 ms2.h H2 ∧ Slots X.K ρ2 H2 ms2.s σ2 ∧ mForL g b (ds.drop i) ms2 = some (o, ms'), ⟨_, rfl, Nat.zero_le _, ρ1, { ms with h := h1 }, .refl ρ1 H1, R1, S.fut F1, e2⟩, ?_⟩
  rintro i m σ2 H2 ⟨rfl, hi, ρ2, ms2, F2, R2, S2, e3⟩
  obtain ⟨ystop, ygo⟩ := Y i ρ2 H2 ms2.h F2 R2
  by_cases hl : i < ds.length
  · right
    have hd : ds[i]? = some ds[i] := List.getElem?_eq_getElem hl
    obtain ⟨g1, g2⟩ := ygo _ hd
    rw [List.drop_eq_getElem_cons hl] at e3
    obtain ⟨m1, e4, e5⟩ := Option.bind_eq_some_iff.mp e3
    obtain ⟨u, e6, e7⟩ := Option.bind_eq_some_iff.mp e5
    obtain ⟨o3, ms3⟩ := u
    refine ⟨g1, fun σ3 H3 => ∃ ρ3 ms3, Fut ρ1 H1 ρ3 H3 ∧ Rel X.K ρ3 ms3.h H3 ∧ Slots X.K ρ3 H3 ms3.s σ3 ∧ mForL g b (ds.drop (i + 1)) ms3 = some (o, ms'), fun σ' H' w => ⟨ds.length - (i + 1), by omega, rfl, hl, w⟩, fun x H' y => ?_⟩
    obtain ⟨Fy, Ry, dy⟩ := g2 x H' y
    refine ⟨ρ2, ms2, _, m1, Ry, S2.fut Fy, dy, e4, fun H4 ρ4 σ4 F4 R4 S4 => ?_⟩
    refine ⟨ρ4, m1, o3, ms3, R4, S4, e6, fun H5 ρ5 F5 R5 => ?_⟩
    have F15 := ((F2.trans Fy).trans F4).trans F5
    cases o3 with
    | nx => exact fun σ5 S5 => ⟨ρ5, ms3, F15, R5, S5, e7⟩
    | ct => exact fun σ5 S5 => ⟨ρ5, ms3, F15, R5, S5, e7⟩
    | bk => cases e7; exact fun σ5 S5 => q H5 ρ5 (F1.trans F15) R5 σ5 S5
    | ret d => cases e7; exact fun v dn => q H5 ρ5 (F1.trans F15) R5 v dn
  · left
    rw [List.drop_eq_nil_of_le (Nat.le_of_not_lt hl)] at e3
    cases e3
    exact ⟨ystop (Nat.le_of_not_lt hl), q H2 ρ2 (F1.trans F2) R2 σ2 S2⟩
/-- the sources -/
def asL : D → Option (List D)
  | .lst ds => some ds
  | .frl ds => some ds
  | _ => none
def asT : D → Option (List D)
  | .tup ds => some ds
  | _ => none
def iL (f : ME) : MI := fun ms => (f ms).bind fun r => (asL r.1).map fun ds => (ds, r.2)
def iT (f : ME) : MI := fun ms => (f ms).bind fun r => (asT r.1).map fun ds => (ds, r.2)
theorem den_lst {K : PySem.W.Frag} {ρ : Rho} {H : Hp} {v : V} {ds : List D} (h : Den K ρ H v (.lst ds)) : ∃ a vs, v = .ref a ∧ (∀ ρ' H', Fut ρ H ρ' H' → SqL K H' a vs ∧ Dens K ρ' H' vs ds) := by
  cases h with
  | lst r n d => exact ⟨_, _, rfl, fun ρ' H' F => ⟨SqL.of (F.keep _ _ (Rho.notIn n).1 r), d.fut F⟩⟩
theorem den_frl {K : PySem.W.Frag} {ρ : Rho} {H : Hp} {v : V} {ds : List D} (h : Den K ρ H v (.frl ds)) : ∃ a vs, v = .ref a ∧ (∀ ρ' H', Fut ρ H ρ' H' → SqL K H' a vs ∧ Dens K ρ' H' vs ds) := by
  cases h with
  | frl r n d => exact ⟨_, _, rfl, fun ρ' H' F => ⟨.inl (F.rd n r), d.fut F⟩⟩
  | frlK r d => exact ⟨_, _, rfl, fun ρ' H' F => ⟨r H', d.fut F⟩⟩
theorem den_lf {K : PySem.W.Frag} {ρ : Rho} {H : Hp} {v : V} {d : D} {ds : List D} (h : Den K ρ H v d) (e : asL d = some ds) : ∃ a vs, v = .ref a ∧ (∀ ρ' H', Fut ρ H ρ' H' → SqL K H' a vs ∧ Dens K ρ' H' vs ds) := by
  cases d <;> simp only [asL] at e <;> try (cases e; done)
  · cases e; exact den_lst h
  · cases e; exact den_frl h
theorem den_tupF {K : PySem.W.Frag} {ρ : Rho} {H : Hp} {v : V} {ds : List D} (h : Den K ρ H v (.tup ds)) : ∃ a vs, v = .ref a ∧ (∀ ρ' H', Fut ρ H ρ' H' → SqT K H' a vs ∧ Dens K ρ' H' vs ds) := by
  cases h with
  | tup r n d => exact ⟨_, _, rfl, fun ρ' H' F => ⟨.inl (F.rd n r), d.fut F⟩⟩
  | tupK r d => exact ⟨_, _, rfl, fun ρ' H' F => ⟨r H', d.fut F⟩⟩
theorem pi_w {tg iter : Expr} {t t' : TI} (h : PI X tg iter t) (w : ∀ σ H R, t' σ H R → t σ H R) : PI X tg iter t' := ⟨fun pins s σ H R I q => h.run pins s σ H R I (w σ H R q)⟩
theorem iv_list {tg l : Expr} {f : ME} (h : EV X l f) : IV X tg l (iL f) := by
  refine pi_w (pi_list h) fun σ H Rk h => ?_
  obtain ⟨ρ, ms, ds, h', R, S, e, q⟩ := h
  obtain ⟨r, e1, e2⟩ := Option.bind_eq_some_iff.mp e
  obtain ⟨d, h1⟩ := r
  obtain ⟨es, e3, e4⟩ := Option.map_eq_some_iff.mp e2
  cases e4
  refine ⟨ρ, ms, _, _, R, S, e1, fun v H1 ρ1 F1 R1 dn => ?_⟩
  obtain ⟨a, vs, rfl, hq⟩ := den_lf dn e3
  refine ⟨a, rfl, ⟨vs, (hq ρ1 H1 (.refl _ _)).1⟩, q _ _ ρ1 F1 R1 fun i ρ2 H2 h2 F2 R2 => ⟨fun hl => ⟨vs, (hq ρ2 H2 F2).1, by rw [(hq ρ2 H2 F2).2.length]; exact hl⟩, fun d hd => ?_⟩⟩
  obtain ⟨x, hx, dx⟩ := (hq ρ2 H2 F2).2.get hd
  refine ⟨⟨vs, x, (hq ρ2 H2 F2).1, hx⟩, fun y H' hy => ?_⟩
  obtain ⟨rfl, hy⟩ := hy
  have hy' := hy vs (hq ρ2 _ F2).1
  rw [hx] at hy'
  cases hy'
  exact ⟨.refl _ _, R2, dx⟩
theorem iv_tup {tg l : Expr} {f : ME} (h : EV X l f) : IV X tg l (iT f) := by
  refine pi_w (pi_tup h) fun σ H Rk h => ?_
  obtain ⟨ρ, ms, ds, h', R, S, e, q⟩ := h
  obtain ⟨r, e1, e2⟩ := Option.bind_eq_some_iff.mp e
  obtain ⟨d, h1⟩ := r
  obtain ⟨es, e3, e4⟩ := Option.map_eq_some_iff.mp e2
  cases e4
  cases d <;> simp only [asT] at e3 <;> try (cases e3; done)
  cases e3
  refine ⟨ρ, ms, _, _, R, S, e1, fun v H1 ρ1 F1 R1 dn => ?_⟩
  obtain ⟨a, vs, rfl, hq⟩ := den_tupF dn
  refine ⟨a, rfl, ⟨vs, (hq ρ1 H1 (.refl _ _)).1⟩, q _ _ ρ1 F1 R1 fun i ρ2 H2 h2 F2 R2 => ⟨fun hl => ⟨vs, (hq ρ2 H2 F2).1, by rw [(hq ρ2 H2 F2).2.length]; exact hl⟩, fun d hd => ?_⟩⟩
  obtain ⟨x, hx, dx⟩ := (hq ρ2 H2 F2).2.get hd
  refine ⟨⟨vs, x, (hq ρ2 H2 F2).1, hx⟩, fun y H' hy => ?_⟩
  obtain ⟨rfl, hy⟩ := hy
  have hy' := hy vs (hq ρ2 _ F2).1
  rw [hx] at hy'
  cases hy'
  exact ⟨.refl _ _, R2, dx⟩
def intsD (lo : Int) (n : Nat) : List D := (List.range n).map fun (i : Nat) => D.int (lo + (i : Int))
theorem yields_rng {K : PySem.W.Frag} {ρ : Rho} {H : Hp} (lo : Int) (n : Nat) : Yields K ρ H (Itr lo n) (intsD lo n) := by
  intro i ρ2 H2 h2 F2 R2
  refine ⟨fun hl => show n ≤ i by simpa [intsD] using hl, fun d hd => ?_⟩
  have hi : i < n := by
    obtain ⟨hl, _⟩ := List.getElem?_eq_some_iff.mp hd
    simpa [intsD] using hl
  refine ⟨hi, fun x H' hy => ?_⟩
  obtain ⟨rfl, rfl⟩ := hy
  simp [intsD, hi] at hd
  subst hd
  exact ⟨.refl _ _, R2, .int _⟩
def big62 (j : Int) : Bool := decide (-4611686018427387904 ≤ j ∧ j < 4611686018427387904)
def iR1 (f : MA) : MI := fun ms => (f ms).bind fun r => match r.1 with
  | [.int j] => bif big62 j then some (intsD 0 j.toNat, r.2) else none
  | _ => none
def iR2 (f : MA) : MI := fun ms => (f ms).bind fun r => match r.1 with
  | [.int i, .int j] => bif big62 i && big62 j then some (intsD i (j - i).toNat, r.2) else none
  | _ => none
theorem iv_range1 {tg a : Expr} {p pos : Pos} {f : MA} (hm : X.mg "range" = none) (ha : AV X [a] f) (hg : Gl X "range" := by rfl) (hs : starEach [a] X.env = [(false, eval a X.env)] := by rfl) : IV X tg (.Call (.Name "range" p) [a] [] pos) (iR1 f) := by
  refine pi_w (pi_range1 hg hm ha hs) fun σ H Rk h => ?_
  obtain ⟨ρ, ms, ds, h', R, S, e, q⟩ := h
  obtain ⟨r, e1, e2⟩ := Option.bind_eq_some_iff.mp e
  obtain ⟨xs, h1⟩ := r
  dsimp only at e2
  split at e2
  · rename_i j
    obtain ⟨hb, e3⟩ := bif_some e2
    cases e3
    have hb' : -4611686018427387904 ≤ j ∧ j < 4611686018427387904 := of_decide_eq_true hb
    refine ⟨ρ, ms, _, _, R, S, e1, fun vs H1 ρ1 F1 R1 dn => ?_⟩
    cases dn with
    | cons a b =>
      cases b
      exact ⟨j, by rw [den_int a], by omega, by omega, q _ _ ρ1 F1 R1 (yields_rng 0 j.toNat)⟩
  · cases e2
theorem iv_range2 {tg a b : Expr} {p pos : Pos} {f : MA} (hm : X.mg "range" = none) (ha : AV X [a, b] f) (hg : Gl X "range" := by rfl) (hs : starEach [a, b] X.env = [(false, eval a X.env), (false, eval b X.env)] := by rfl) (hs2 : starEach [b] X.env = [(false, eval b X.env)] := by rfl) : IV X tg (.Call (.Name "range" p) [a, b] [] pos) (iR2 f) := by
  refine pi_w (pi_range2 hg hm ha hs hs2) fun σ H Rk h => ?_
  obtain ⟨ρ, ms, ds, h', R, S, e, q⟩ := h
  obtain ⟨r, e1, e2⟩ := Option.bind_eq_some_iff.mp e
  obtain ⟨xs, h1⟩ := r
  dsimp only at e2
  split at e2
  · rename_i i j
    obtain ⟨hb, e3⟩ := bif_some e2
    cases e3
    rw [Bool.and_eq_true] at hb
    have hb1 : -4611686018427387904 ≤ i ∧ i < 4611686018427387904 := of_decide_eq_true hb.1
    have hb2 : -4611686018427387904 ≤ j ∧ j < 4611686018427387904 := of_decide_eq_true hb.2
    refine ⟨ρ, ms, _, _, R, S, e1, fun vs H1 ρ1 F1 R1 dn => ?_⟩
    cases dn with
    | cons a b =>
      cases b with
      | cons b c =>
        cases c
        exact ⟨i, j, by rw [den_int a, den_int b], ⟨by omega, by omega, by omega, by omega⟩, q _ _ ρ1 F1 R1 (yields_rng i _)⟩
  · cases e2
end

/-! ### a def -/
def mFun (n m : Nat) (b : MB) : MF := fun ds h => (b ⟨ds.map some ++ List.replicate (n - m) none, h⟩).bind fun r => match r.1 with
  | .ret d => some (d, r.2.h)
  | .nx => some (.non, r.2.h)
  | _ => none
theorem slots_start {K : PySem.W.Frag} {ρ : Rho} {H : Hp} {N : List Str} {vs : List V} {ds : List D} (dn : Dens K ρ H vs ds) : Slots K ρ H (ds.map some ++ List.replicate (N.length - ds.length) none) (L2.start N vs) := by
  refine ⟨by simp [L2.start, dn.length], fun i d h => ?_⟩
  by_cases hi : i < ds.length
  · rw [List.getElem?_append_left (by simpa using hi), List.getElem?_map] at h
    cases e : ds[i]? with
    | none => rw [e] at h; cases h
    | some d' =>
      rw [e] at h
      cases h
      obtain ⟨v, h1, h2⟩ := dn.get e
      exact ⟨v, by unfold L2.start; rw [List.getElem?_append_left (by simpa [dn.length] using hi), List.getElem?_map, h1]; rfl, h2⟩
  · rw [List.getElem?_append_right (by simpa using Nat.le_of_not_lt hi)] at h
    obtain ⟨_, e⟩ := List.getElem?_eq_some_iff.mp h
    simp at e
theorem fn_ok {P : Program} {w : World} {K : PySem.W.Frag} {mg : Str → Option Value} {base : Heap} {x qual : Str} {st : Stmt} {f : Addr} {fd : FuncData} {N ps : List Str} {k n m : Nat} {b : MB} (F : Fun K x qual st f fd) (S : FnScope N ps (defScope st)) (hn : N.length = n) (hm : ps.length = m)
    (hbody : ∀ (cdv : Value) (A : Around) (outer : List Env) (s : Shared) (H : Hp) (E : XK), RoomG k (A.deeper (PyProof.Rows.envOfC qual (defScope st) s.heap.objs.size f cdv)) →
      BVs (cxOf CX0 P w K mg base N qual (defScope st) f cdv A outer s H E).nox (defBody st) b) : FnG P w K mg base CX0 (k + 1) f fd ps (spF K m (mFun n m b)) := by
  subst hn hm
  obtain ⟨oc, od, kV, doc, pm, an, cdv, ct, osl, rfl, lk, hcd⟩ := F.ex
  refine fn_ofG lk hcd S (fun vs H Q E h => ?_) fun A outer s H vs Q E hr h => ?_
  · obtain ⟨ρ, h, ds, d, h', R, dn, e, _⟩ := h
    rw [dn.length, e]
  · obtain ⟨ρ, h, ds, d, h', R, dn, hl, e, q⟩ := h
    refine ⟨_, (hbody cdv A outer s H E hr).nox, ?_⟩
    obtain ⟨r, e1, e2⟩ := Option.bind_eq_some_iff.mp e
    obtain ⟨o, ms'⟩ := r
    refine ⟨ρ, ⟨ds.map some ++ List.replicate (N.length - ps.length) none, h⟩, o, ms', R, ?_, e1, fun H' ρ' F' R' => ?_⟩
    · have := slots_start (N := N) dn
      rw [hl] at this
      exact this
    · cases o with
      | ret d => cases e2; exact fun v dn => q v H' ρ' F' R' dn
      | nx => cases e2; exact fun σ' _ => q _ H' ρ' F' R' .non
      | bk => cases e2
      | ct => cases e2
/-! ### a def that hands its own lists back: they are frozen -/
mutual
def clean : D → Bool
  | .tup ds => cleans ds
  | .lst ds => cleans ds
  | .frl ds => cleans ds
  | .cell _ => false
  | .exc _ _ _ d => clean d
  | _ => true
def cleans : List D → Bool
  | [] => true
  | d :: ds => clean d && cleans ds
end
-- fewer cells
def Rho.less (ρ : Rho) (n : Nat) : Rho := ⟨ρ.c.take n, ρ.v⟩
theorem Rho.lessOut {ρ : Rho} {n : Nat} {a : Addr} (h : a ∉ ρ) : a ∉ ρ.less n := Rho.out (fun z => (Rho.notIn h).1 (List.mem_of_mem_take z)) (Rho.notIn h).2
mutual
theorem Den.less {K : PySem.W.Frag} {ρ : Rho} {m : Nat} {H : Hp} : ∀ {v : V} {d : D}, clean d = true → Den K ρ H v d → Den K (ρ.less m) H v d
  | _, _, _, .non => .non
  | _, _, _, .bl b => .bl b
  | _, _, _, .int i => .int i
  | _, _, _, .str x => .str x
  | _, _, c, .tup h n ds => .tup h (Rho.lessOut n) (Dens.less (by simpa [clean] using c) ds)
  | _, _, c, .tupK h ds => .tupK h (Dens.less (by simpa [clean] using c) ds)
  | _, _, c, .lst h n ds => .lst h (Rho.lessOut n) (Dens.less (by simpa [clean] using c) ds)
  | _, _, c, .frl h n ds => .frl h (Rho.lessOut n) (Dens.less (by simpa [clean] using c) ds)
  | _, _, c, .frlK h ds => .frlK h (Dens.less (by simpa [clean] using c) ds)
  | _, _, _, .ty n => .ty n
  | _, _, _, .dic h n => .dic h (Rho.lessOut n)
  | _, _, _, .rng h n => .rng h (Rho.lessOut n)
  | _, _, _, .hid a => .hid a
  | _, _, c, .exc h n r => .exc h (Rho.lessOut n) (Den.less (by simpa [clean] using c) r)
  | _, _, c, .cell h => by simp [clean] at c
theorem Dens.less {K : PySem.W.Frag} {ρ : Rho} {m : Nat} {H : Hp} : ∀ {vs : List V} {ds : List D}, cleans ds = true → Dens K ρ H vs ds → Dens K (ρ.less m) H vs ds
  | _, _, _, .nil => .nil
  | _, _, c, .cons a b => .cons (Den.less (by simp [cleans] at c; exact c.1) a) (Dens.less (by simp [cleans] at c; exact c.2) b)
end
def frzD (n : Nat) (h : Cells) (d : D) : Option D := match d with
  | .cell i => bif decide (i < n) then some (.cell i) else (h[i]?).bind fun ds => bif cleans ds then some (.lst ds) else none
  | d => bif clean d then some d else none
def mFrz (F : MF) : MF := fun ds h => (F ds h).bind fun r => bif decide (h.length ≤ r.2.length) && (r.2.take h.length).all cleans then (frzD h.length r.2 r.1).map fun d => (d, r.2.take h.length) else none
theorem fn_frz {P : Program} {w : World} {K : PySem.W.Frag} {mg : Str → Option Value} {base : Heap} {f : Addr} {fd : FuncData} {ps : List Str} {k n : Nat} {F : MF} (G : FnG P w K mg base CX0 k f fd ps (spF K n F)) : FnG P w K mg base CX0 k f fd ps (spF K n (mFrz F)) := by
  have im : ∀ vs H Q E, spF K n (mFrz F) vs H Q E → spF K n F vs H Q E := fun vs H Q E h => by
    obtain ⟨ρ, h, ds, d, h', R, dn, hl, e, q⟩ := h
    obtain ⟨r, e1, e2⟩ := Option.bind_eq_some_iff.mp e
    obtain ⟨d1, h1⟩ := r
    cases hc : decide (h.length ≤ h1.length) && (h1.take h.length).all cleans with
    | false => simp only [hc, cond_false] at e2; cases e2
    | true =>
      simp only [hc, cond_true] at e2
      obtain ⟨d2, e3, e4⟩ := Option.map_eq_some_iff.mp e2
      cases e4
      rw [Bool.and_eq_true] at hc
      obtain ⟨hc1, hc2⟩ := hc
      have hle := of_decide_eq_true hc1
      refine ⟨ρ, h, ds, d1, h1, R, dn, hl, e1, fun v H' ρ' F' R' dn' => ?_⟩
      have ec : (ρ'.less h.length).c = ρ.c := by
        obtain ⟨more, e5⟩ := F'.ext
        show ρ'.c.take h.length = ρ.c
        rw [e5, ← R.len, List.take_left]
      have F2 : Fut ρ H (ρ'.less h.length) H' := ⟨F'.keep, ⟨[], by rw [ec]; simp⟩, F'.sub, F'.hid, fun _ h n => absurd (by rw [← ec]; exact h) n⟩
      have R2 : Rel K (ρ'.less h.length) (h1.take h.length) H' := by
        refine ⟨by rw [ec, R.len, List.length_take]; omega, by rw [ec]; exact R.nd, fun a ha z => R'.apart a (List.mem_of_mem_take ha) z, R'.hidden, fun i a es g1 g2 => ?_⟩
        have hi : i < h.length := by
          obtain ⟨z, _⟩ := List.getElem?_eq_some_iff.mp g2
          rw [List.length_take] at z; omega
        rw [List.getElem?_take_of_lt hi] at g2
        rw [ec] at g1
        obtain ⟨vs, q1, q2⟩ := R'.at_ i a es (F'.cellAt g1) g2
        exact ⟨vs, q1, q2.less (List.all_eq_true.mp hc2 es (List.mem_of_getElem? (i := i) (by rw [List.getElem?_take_of_lt hi]; exact g2)))⟩
      refine q v H' _ F2 R2 ?_
      cases d1 with
      | cell i =>
        simp only [frzD] at e3
        cases hi : decide (i < h.length) with
        | true =>
          simp only [hi, cond_true] at e3
          cases e3
          cases dn' with
          | cell g =>
            refine .cell ?_
            unfold Rho.less
            rw [List.getElem?_take_of_lt (of_decide_eq_true hi)]
            exact g
        | false =>
          simp only [hi, cond_false] at e3
          obtain ⟨es, e6, e7⟩ := Option.bind_eq_some_iff.mp e3
          obtain ⟨hcl, e8⟩ := bif_some e7
          cases e8
          cases dn' with
          | cell g =>
            obtain ⟨vs, q1, q2⟩ := R'.at_ i _ es g e6
            have nd := R'.nd
            have hi' : ¬ i < h.length := of_decide_eq_false hi
            obtain ⟨hi2, e10⟩ := List.getElem?_eq_some_iff.mp g
            refine .lst q1 (Rho.out (fun z => ?_) fun z => ?_) (q2.less hcl)
            · rw [ec] at z
              obtain ⟨j, hj, e9⟩ := List.getElem_of_mem z
              have g2 := F'.cellAt (List.getElem?_eq_some_iff.mpr ⟨hj, e9⟩)
              obtain ⟨hj2, e11⟩ := List.getElem?_eq_some_iff.mp g2
              have e12 := (List.getElem_inj nd).mp (e11.trans e10.symm)
              rw [R.len] at hj
              omega
            · have hin : _ ∉ ρ.c := fun hin => by
                obtain ⟨j, hj, e9⟩ := List.getElem_of_mem hin
                have g2 := F'.cellAt (List.getElem?_eq_some_iff.mpr ⟨hj, e9⟩)
                obtain ⟨hj2, e11⟩ := List.getElem?_eq_some_iff.mp g2
                have e12 := (List.getElem_inj nd).mp (e11.trans e10.symm)
                rw [R.len] at hj
                omega
              exact R'.apart _ (List.mem_of_getElem? g) z
      | _ =>
        simp only [frzD] at e3
        obtain ⟨hcl, e8⟩ := bif_some e3
        cases e8
        exact dn'.less hcl
  exact ⟨fun vs H Q E q => G.len vs H Q E (im _ _ _ _ q), fun A oute s Hh args uz vz Qq E hr he hb hv hs => G.run A oute s Hh args uz vz Qq E hr he hb hv (im _ _ _ _ hs)⟩
end Zm

set_option Elab.async false
set_option linter.all false
set_option maxRecDepth 100000
/-! Zf: operators, data, built-ins. -/
namespace Zm
open PySem L2
section
variable {X : Cx} {K : PySem.W.Frag}

/-! ### arithmetic -/
def wideM (i j : Int) : Bool := decide (i.natAbs.log2 + j.natAbs.log2 < 1000000)
def wideD (j : Int) : Bool := decide (0 < j ∧ j.natAbs.log2 < 9000)
def oSub : Cells → D → D → Option D
  | _, .int i, .int j => some (.int (i - j))
  | _, _, _ => none
def oMul : Cells → D → D → Option D
  | _, .int i, .int j => bif wideM i j then some (.int (i * j)) else none
  | _, _, _ => none
def oDiv : Cells → D → D → Option D
  | _, .int i, .int j => bif wideD j then some (.int (i / j)) else none
  | _, _, _ => none
def oMod : Cells → D → D → Option D
  | _, .int i, .int j => bif decide (0 < j) then some (.int (i % j)) else none
  | _, _, _ => none
def oPow : Cells → D → D → Option D
  | _, .int i, .int j => bif decide (0 ≤ j ∧ j ≤ 1000000 ∧ i.natAbs < 18446744073709551616) then some (.int (i ^ j.toNat)) else none
  | _, _, _ => none
def oNeg : Cells → D → Option D
  | _, .int i => some (.int (-i))
  | _, _ => none
theorem p_sub : Op2 K (rI0 fun i j => .int (i - j)) oSub := by
  intro ρ h H x y dx dy d Q R a b e k
  cases dx <;> cases dy <;> simp only [oSub] at e <;> try (cases e; done)
  cases e
  exact ⟨_, _, den_int a, den_int b, k _ _ ρ (.refl _ _) R (.int _)⟩
theorem p_mul : Op2 K (rI CMulW fun i j => .int (i * j)) oMul := by
  intro ρ h H x y dx dy d Q R a b e k
  cases dx <;> cases dy <;> simp only [oMul] at e <;> try (cases e; done)
  obtain ⟨c, e⟩ := bif_some e
  cases e
  exact ⟨_, _, den_int a, den_int b, by simpa [wideM, CMulW] using c, k _ _ ρ (.refl _ _) R (.int _)⟩
theorem p_div : Op2 K (rI CDivW fun i j => .int (i / j)) oDiv := by
  intro ρ h H x y dx dy d Q R a b e k
  cases dx <;> cases dy <;> simp only [oDiv] at e <;> try (cases e; done)
  obtain ⟨c, e⟩ := bif_some e
  cases e
  exact ⟨_, _, den_int a, den_int b, by simpa [wideD, CDivW] using c, k _ _ ρ (.refl _ _) R (.int _)⟩
theorem p_mod : Op2 K (rI (fun _ j => 0 < j) fun i j => .int (i % j)) oMod := by
  intro ρ h H x y dx dy d Q R a b e k
  cases dx <;> cases dy <;> simp only [oMod] at e <;> try (cases e; done)
  obtain ⟨c, e⟩ := bif_some e
  cases e
  exact ⟨_, _, den_int a, den_int b, of_decide_eq_true c, k _ _ ρ (.refl _ _) R (.int _)⟩
theorem p_pow : Op2 K (rI CPow fun i j => .int (i ^ j.toNat)) oPow := by
  intro ρ h H x y dx dy d Q R a b e k
  cases dx <;> cases dy <;> simp only [oPow] at e <;> try (cases e; done)
  obtain ⟨c, e⟩ := bif_some e
  cases e
  exact ⟨_, _, den_int a, den_int b, by simpa [CPow] using c, k _ _ ρ (.refl _ _) R (.int _)⟩
theorem p_neg : Op1 K (rU fun i => .int (-i)) oNeg := by
  intro ρ h H x dx d Q R a e k
  cases dx <;> simp only [oNeg] at e <;> try (cases e; done)
  cases e
  exact ⟨_, den_int a, k _ _ ρ (.refl _ _) R (.int _)⟩
/-- + of ints, texts, lists, tuples -/
def oAdd : Cells → D → D → Option D
  | _, .int i, .int j => some (.int (i + j))
  | _, .str i, .str j => bif decide (i.length + j.length ≤ line) then some (.str (i ++ j)) else none
  | _, .lst i, .lst j => bif decide (i.length + j.length ≤ line) then some (.lst (i ++ j)) else none
  | _, .tup i, .tup j => bif decide (i.length + j.length ≤ line) then some (.tup (i ++ j)) else none
  | _, _, _ => none
def rAddS : R2 := fun x y H Q => ∃ i j, x = .str i ∧ y = .str j ∧ i.length + j.length ≤ sizeLine ∧ Q (.str (i ++ j)) H
def rAddAll (K : PySem.W.Frag) : R2 := fun x y H Q => rI0 (fun i j => .int (i + j)) x y H Q ∨ rAddS x y H Q ∨ rCat x y H Q ∨ rCatA K x y H Q
theorem or_addAll : OpR X (binaryOp .Add) (rAddAll X.K) := op_add.or (OpR.or (r := rAddS) op_add_str (op_cat.or op_catA))
theorem den_len {ρ : Rho} {H : Hp} {v : V} {ds : List D} (h : Den K ρ H v (.lst ds)) : ∃ a vs, v = .ref a ∧ H a = some (.lst vs) ∧ a ∉ ρ ∧ Dens K ρ H vs ds := by
  cases h with
  | lst r n d => exact ⟨_, _, rfl, r, n, d⟩
theorem p_add : Op2 K (rAddAll K) oAdd := by
  intro ρ h H x y dx dy d Q R a b e k
  cases dx <;> cases dy <;> simp only [oAdd] at e <;> try (cases e; done)
  · cases e
    exact .inl ⟨_, _, den_int a, den_int b, k _ _ ρ (.refl _ _) R (.int _)⟩
  · obtain ⟨c, e⟩ := bif_some e
    cases e
    exact .inr (.inl ⟨_, _, den_str a, den_str b, by rw [← line_eq]; exact of_decide_eq_true c, k _ _ ρ (.refl _ _) R (.str _)⟩)
  · obtain ⟨c, e⟩ := bif_some e
    cases e
    obtain ⟨p, vs, rfl, hp⟩ := den_tupF a
    obtain ⟨q, ws, rfl, hq⟩ := den_tupF b
    obtain ⟨s1, t1⟩ := hp ρ H (.refl _ _)
    obtain ⟨s2, t2⟩ := hq ρ H (.refl _ _)
    refine .inr (.inr (.inr ⟨p, q, vs, ws, rfl, rfl, s1, s2, by rw [t1.length, t2.length, ← line_eq]; exact of_decide_eq_true c, fun z => ?_, fun _ z => ?_, fun _ _ o ho => ?_⟩))
    · subst z
      cases t1
      exact k _ H ρ (.refl _ _) R (by simpa using b)
    · subst z
      cases t2
      exact k _ H ρ (.refl _ _) R (by simpa using a)
    · exact k _ _ ρ (fut_new _ ho) (R.new _ ho) (.tup (.inl upd_same) (R.out ho) ((t1.append t2).fut (fut_new _ ho)))
  · obtain ⟨c, e⟩ := bif_some e
    cases e
    obtain ⟨p, vs, rfl, hp, np, t1⟩ := den_len a
    obtain ⟨q, ws, rfl, hq, nq, t2⟩ := den_len b
    refine .inr (.inr (.inl ⟨p, q, vs, ws, rfl, rfl, hp, hq, by rw [t1.length, t2.length, ← line_eq]; exact of_decide_eq_true c, fun o ho => ?_⟩))
    exact k _ _ ρ (fut_new _ ho) (R.new _ ho) (.lst upd_same (R.out ho) ((t1.append t2).fut (fut_new _ ho)))

/-! ### order of ints -/
def cI (p : Int → Int → Bool) : Cells → D → D → Option Bool
  | _, .int i, .int j => some (p i j)
  | _, _, _ => none
theorem p_cI {p : Int → Int → Bool} : Op2 K (rI0 fun i j => .bl (p i j)) (oB (cI p)) := by
  intro ρ h H x y dx dy d Q R a b e k
  cases dx <;> cases dy <;> simp only [oB, cI, Option.map_none, Option.map_some] at e <;> try (cases e; done)
  cases e
  exact ⟨_, _, den_int a, den_int b, k _ _ ρ (.refl _ _) R (.bl _)⟩
abbrev cLt := cI fun i j => decide (i < j)
abbrev cLe := cI fun i j => decide (i ≤ j)
abbrev cGt := cI fun i j => decide (j < i)
abbrev cGe := cI fun i j => decide (j ≤ i)
/-- a op b op' c -/
def mChain (o o' : Cells → D → D → Option Bool) (f g k : ME) : ME := fun ms => (f ms).bind fun r => (g { ms with h := r.2 }).bind fun s => (o s.2 r.1 s.1).bind fun b =>
  bif b then (k { ms with h := s.2 }).bind fun t => (o' t.2 s.1 t.1).map fun c => (.bl c, t.2) else some (.bl false, s.2)
theorem ev_chain {a b c : Expr} {pos : Pos} {op op' : CmpOp} {r r' : R2} {o o' : Cells → D → D → Option Bool} {f g k : ME} (ho : OpR X (compareOp op) r) (p : Op2 X.K r (oB o)) (ho' : OpR X (compareOp op') r') (p' : Op2 X.K r' (oB o'))
    (ha : EV X a f) (hb : EV X b g) (hc : EV X c k) (hm : lastMarks [op, op'] [b, c] = false := by with_unfolding_all rfl) : EV X (.Compare a [op, op'] [b, c] pos) (mChain o o' f g k) := by
  refine pe_w (pe_chain ho ho' ha hb hc hm) fun σ H Q h => ?_
  obtain ⟨ρ, ms, d, h', R, S, e, q⟩ := h
  obtain ⟨⟨dx, h1⟩, e1, e2⟩ := Option.bind_eq_some_iff.mp e
  obtain ⟨⟨dy, h2⟩, e3, e4⟩ := Option.bind_eq_some_iff.mp e2
  obtain ⟨b', e5, e6⟩ := Option.bind_eq_some_iff.mp e4
  refine ⟨ρ, ms, dx, h1, R, S, e1, fun x H1 ρ1 F1 R1 d1 => ?_⟩
  refine ⟨ρ1, { ms with h := h1 }, dy, h2, R1, S.fut F1, e3, fun y H2 ρ2 F2 R2 d2 => ?_⟩
  refine p ρ2 h2 H2 x y dx dy (.bl b') _ R2 (d1.fut F2) d2 (by simp [oB, show o h2 dx dy = some b' from e5]) fun v H3 ρ3 F3 R3 d3 => ⟨b', den_bl d3, ?_⟩
  cases b' with
  | false => cases e6; exact q _ H3 ρ3 ((F1.trans F2).trans F3) R3 (.bl false)
  | true =>
    obtain ⟨⟨dz, h4⟩, e7, e8⟩ := Option.bind_eq_some_iff.mp e6
    obtain ⟨c', e9, e10⟩ := Option.map_eq_some_iff.mp e8
    cases e10
    refine iteT ⟨ρ3, { ms with h := h2 }, dz, _, R3, S.fut ((F1.trans F2).trans F3), e7, fun z H4 ρ4 F4 R4 d4 => ?_⟩
    exact p' ρ4 _ H4 y z dy dz (.bl c') _ R4 ((d2.fut F3).fut F4) d4 (by simp [oB, show o' _ dy dz = some c' from e9]) fun v H5 ρ5 F5 R5 d5 => q v H5 ρ5 ((((F1.trans F2).trans F3).trans F4).trans F5) R5 d5
def tB' (f : ME) : MT := fun ms => (f ms).bind fun r => (asB r.1).map fun b => (b, r.2)
theorem tv_chain {a b c : Expr} {pos : Pos} {op op' : CmpOp} {r r' : R2} {o o' : Cells → D → D → Option Bool} {f g k : ME} (ho : OpR X (compareOp op) r) (p : Op2 X.K r (oB o)) (ho' : OpR X (compareOp op') r') (p' : Op2 X.K r' (oB o'))
    (ha : EV X a f) (hb : EV X b g) (hc : EV X c k) (hm : lastMarks [op, op'] [b, c] = false := by with_unfolding_all rfl) : TV X (.Compare a [op, op'] [b, c] pos) (tB' (mChain o o' f g k)) := by
  refine pt_w (pt_chain ho ho' ha hb hc hm) fun σ H Q h => ?_
  obtain ⟨ρ, ms, bb, h', R, S, ee, q⟩ := h
  obtain ⟨⟨d, h''⟩, e, ex⟩ := Option.bind_eq_some_iff.mp ee
  obtain ⟨bq, ey, ez⟩ := Option.map_eq_some_iff.mp ex
  cases ez
  obtain ⟨⟨dx, h1⟩, e1, e2⟩ := Option.bind_eq_some_iff.mp e
  obtain ⟨⟨dy, h2⟩, e3, e4⟩ := Option.bind_eq_some_iff.mp e2
  obtain ⟨b', e5, e6⟩ := Option.bind_eq_some_iff.mp e4
  refine ⟨ρ, ms, dx, h1, R, S, e1, fun x H1 ρ1 F1 R1 d1 => ?_⟩
  refine ⟨ρ1, { ms with h := h1 }, dy, h2, R1, S.fut F1, e3, fun y H2 ρ2 F2 R2 d2 => ?_⟩
  refine p ρ2 h2 H2 x y dx dy (.bl b') _ R2 (d1.fut F2) d2 (by simp [oB, show o h2 dx dy = some b' from e5]) fun v H3 ρ3 F3 R3 d3 => ⟨b', den_bl d3, ?_⟩
  cases b' with
  | false => cases e6; cases ey; exact iteF ⟨false, rfl, q H3 ρ3 ((F1.trans F2).trans F3) R3⟩
  | true =>
    obtain ⟨⟨dz, h4⟩, e7, e8⟩ := Option.bind_eq_some_iff.mp e6
    obtain ⟨c', e9, e10⟩ := Option.map_eq_some_iff.mp e8
    cases e10
    simp only [asB] at ey
    cases ey
    refine iteT ⟨ρ3, { ms with h := h2 }, dz, _, R3, S.fut ((F1.trans F2).trans F3), e7, fun z H4 ρ4 F4 R4 d4 => ?_⟩
    exact p' ρ4 _ H4 y z dy dz (.bl _) _ R4 ((d2.fut F3).fut F4) d4 (by simp [oB, show o' _ dy dz = some _ from e9]) fun v H5 ρ5 F5 R5 d5 => ⟨_, den_bl d5, q H5 ρ5 ((((F1.trans F2).trans F3).trans F4).trans F5) R5⟩

/-! ### data of any depth -/
mutual
inductive DenP (K : PySem.W.Frag) (H : Hp) : V → PyData → Prop
  | non : DenP K H .non .none
  | bl (b) : DenP K H (.bl b) (.bool b)
  | int (i) : DenP K H (.int i) (.int i)
  | str (x) : DenP K H (.str x) (.str x)
  | tup {a vs ps} : SqT K H a vs → DensP K H vs ps → DenP K H (.ref a) (.tuple ps)
  | lst {a vs ps} : SqL K H a vs → DensP K H vs ps → DenP K H (.ref a) (.list ps)
inductive DensP (K : PySem.W.Frag) (H : Hp) : List V → List PyData → Prop
  | nil : DensP K H [] []
  | cons {v p vs ps} : DenP K H v p → DensP K H vs ps → DensP K H (v :: vs) (p :: ps)
end
mutual
def pyC (c : Nat → Option PyData) : D → Option PyData
  | .non => some .none
  | .bl b => some (.bool b)
  | .int i => some (.int i)
  | .str x => some (.str x)
  | .tup ds => (pyCs c ds).map .tuple
  | .lst ds => (pyCs c ds).map .list
  | .frl ds => (pyCs c ds).map .list
  | .cell i => c i
  | _ => none
def pyCs (c : Nat → Option PyData) : List D → Option (List PyData)
  | [] => some []
  | d :: ds => (pyC c d).bind fun p => (pyCs c ds).map fun ps => p :: ps
end
def cellP (h : Cells) (i : Nat) : Option PyData := (h[i]?).bind fun ds => (pyCs (fun _ => none) ds).map .list
abbrev py (h : Cells) : D → Option PyData := pyC (cellP h)
mutual
theorem denP_of {ρ : Rho} {H : Hp} {c : Nat → Option PyData} (hc : ∀ i p a, c i = some p → ρ.c[i]? = some a → DenP K H (.ref a) p) : ∀ {v : V} {d : D} {p : PyData}, Den K ρ H v d → pyC c d = some p → DenP K H v p
  | _, _, _, .non, e => by simp only [pyC] at e; cases e; exact .non
  | _, _, _, .bl b, e => by simp only [pyC] at e; cases e; exact .bl b
  | _, _, _, .int i, e => by simp only [pyC] at e; cases e; exact .int i
  | _, _, _, .str x, e => by simp only [pyC] at e; cases e; exact .str x
  | _, _, _, .tup h n ds, e => by
    simp only [pyC] at e
    obtain ⟨ps, e1, e2⟩ := Option.map_eq_some_iff.mp e
    cases e2
    exact .tup (.inl h) (densP_of hc ds e1)
  | _, _, _, .tupK h ds, e => by
    simp only [pyC] at e
    obtain ⟨ps, e1, e2⟩ := Option.map_eq_some_iff.mp e
    cases e2
    exact .tup (h H) (densP_of hc ds e1)
  | _, _, _, .lst h n ds, e => by
    simp only [pyC] at e
    obtain ⟨ps, e1, e2⟩ := Option.map_eq_some_iff.mp e
    cases e2
    exact .lst (SqL.of h) (densP_of hc ds e1)
  | _, _, _, .frl h n ds, e => by
    simp only [pyC] at e
    obtain ⟨ps, e1, e2⟩ := Option.map_eq_some_iff.mp e
    cases e2
    exact .lst (.inl h) (densP_of hc ds e1)
  | _, _, _, .frlK h ds, e => by
    simp only [pyC] at e
    obtain ⟨ps, e1, e2⟩ := Option.map_eq_some_iff.mp e
    cases e2
    exact .lst (h H) (densP_of hc ds e1)
  | _, _, _, .dic h n, e => by simp only [pyC] at e; cases e
  | _, _, _, .rng h n, e => by simp only [pyC] at e; cases e
  | _, _, _, .hid a, e => by simp only [pyC] at e; cases e
  | _, _, _, .exc h n r, e => by simp only [pyC] at e; cases e
  | _, _, _, .ty n, e => by simp only [pyC] at e; cases e
  | _, _, _, .cell h, e => by simp only [pyC] at e; exact hc _ _ _ e h
theorem densP_of {ρ : Rho} {H : Hp} {c : Nat → Option PyData} (hc : ∀ i p a, c i = some p → ρ.c[i]? = some a → DenP K H (.ref a) p) : ∀ {vs : List V} {ds : List D} {ps : List PyData}, Dens K ρ H vs ds → pyCs c ds = some ps → DensP K H vs ps
  | _, _, _, .nil, e => by simp only [pyCs] at e; cases e; exact .nil
  | _, _, _, .cons a b, e => by
    simp only [pyCs] at e
    obtain ⟨p, e1, e2⟩ := Option.bind_eq_some_iff.mp e
    obtain ⟨ps, e3, e4⟩ := Option.map_eq_some_iff.mp e2
    cases e4
    exact .cons (denP_of hc a e1) (densP_of hc b e3)
end
theorem denP_py {ρ : Rho} {h : Cells} {H : Hp} {v : V} {d : D} {p : PyData} (R : Rel K ρ h H) (dn : Den K ρ H v d) (e : py h d = some p) : DenP K H v p := by
  refine denP_of (c := cellP h) (fun i q a e1 e2 => ?_) dn e
  obtain ⟨ds, e3, e4⟩ := Option.bind_eq_some_iff.mp e1
  obtain ⟨ps, e5, e6⟩ := Option.map_eq_some_iff.mp e4
  cases e6
  obtain ⟨vs, q1, q2⟩ := R.at_ i a ds e2 e3
  exact .lst (SqL.of q1) (densP_of (fun _ _ _ z => by simp at z) q2 e5)
mutual
theorem reads_of {pins : List (Addr × Obj)} {σ : L2.St} {H : Hp} {s : Shared} (I : Inv X pins σ H s) : ∀ {v : V} {p : PyData} {u : Value}, DenP X.K H v p → RelV v u → ∃ as, Reads s.heap u p as
  | _, _, _, .non, r => by cases r; exact ⟨_, .none⟩
  | _, _, _, .bl b, r => by cases r; exact ⟨_, .bool b⟩
  | _, _, _, .int i, r => by obtain ⟨t, rfl⟩ := r; exact ⟨_, .int i t⟩
  | _, _, _, .str x, r => by obtain ⟨t, rfl⟩ := r; exact ⟨_, .str x t⟩
  | _, _, _, .tup h ds, r => by
    cases r
    obtain ⟨its, rv, ⟨o, e, c, n, d⟩, hz⟩ := I.tuple h
    obtain ⟨as, ra⟩ := readsAll_of I ds rv
    exact ⟨_, .tuple e c d (by simpa using ra)⟩
  | _, _, _, .lst h ds, r => by
    cases r
    obtain ⟨its, rv, ⟨o, n, e, c, _, d⟩, hz⟩ := I.list h
    obtain ⟨as, ra⟩ := readsAll_of I ds rv
    exact ⟨_, .list e c d (by simpa using ra)⟩
theorem readsAll_of {pins : List (Addr × Obj)} {σ : L2.St} {H : Hp} {s : Shared} (I : Inv X pins σ H s) : ∀ {vs : List V} {ps : List PyData} {us : List Value}, DensP X.K H vs ps → Vals vs us → ∃ as, ReadsAll s.heap us ps as
  | _, _, _, .nil, r => by cases r; exact ⟨_, .nil⟩
  | _, _, _, .cons a b, r => by
    cases r with
    | cons r1 r2 =>
      obtain ⟨as, ra⟩ := reads_of I a r1
      obtain ⟨bs, rb⟩ := readsAll_of I b r2
      exact ⟨_, .cons ra rb⟩
end
/-- == and != of data -/
def rEqP (K : PySem.W.Frag) (neg : Bool) : R2 := fun x y H Q => ∃ p q, DenP K H x p ∧ DenP K H y q ∧ SeqAt.shaped p = true ∧ SeqAt.shaped q = true ∧ Q (.bl (if neg then !PyData.eqv p q else PyData.eqv p q)) H
theorem op_eqP (hu : X.A.units + 64 < cLine) : OpR X (compareOp .Eq) (rEqP X.K false) := by
  intro pins s σ H x y v u Q I rx ry h
  obtain ⟨p, q, dx, dy, s1, s2, k⟩ := h
  obtain ⟨as, ra⟩ := reads_of I dx rx
  obtain ⟨bs, rb⟩ := reads_of I dy ry
  exact PyProof.Rows.eq_dataH ra rb s1 s2 hu ⟨.bl _, H, I, rfl, k⟩
theorem op_neP (hu : X.A.units + 64 < cLine) : OpR X (compareOp .NotEq) (rEqP X.K true) := by
  intro pins s σ H x y v u Q I rx ry h
  obtain ⟨p, q, dx, dy, s1, s2, k⟩ := h
  obtain ⟨as, ra⟩ := reads_of I dx rx
  obtain ⟨bs, rb⟩ := reads_of I dy ry
  exact PyProof.Rows.ne_dataH ra rb s1 s2 hu ⟨.bl _, H, I, rfl, k⟩
def cEqP (neg : Bool) : Cells → D → D → Option Bool := fun h x y => (py h x).bind fun p => (py h y).bind fun q => bif SeqAt.shaped p && SeqAt.shaped q then some (if neg then !PyData.eqv p q else PyData.eqv p q) else none
theorem p_eqP {neg : Bool} : Op2 K (rEqP K neg) (oB (cEqP neg)) := by
  intro ρ h H x y dx dy d Q R a b e k
  simp only [oB, cEqP] at e
  obtain ⟨z, e1, e2⟩ := Option.map_eq_some_iff.mp e
  obtain ⟨p, e3, e4⟩ := Option.bind_eq_some_iff.mp e1
  obtain ⟨q, e5, e6⟩ := Option.bind_eq_some_iff.mp e4
  obtain ⟨c, e7⟩ := bif_some e6
  subst e7
  subst e2
  rw [Bool.and_eq_true] at c
  exact ⟨p, q, denP_py R a e3, denP_py R b e5, c.1, c.2, k _ _ ρ (.refl _ _) R (.bl _)⟩
/-- the usual ==: by ints, texts, bools, else data -/
def oEq : Cells → D → D → Option Bool
  | _, .int i, .int j => some (decide (i = j))
  | _, .str i, .str j => some (decide (i = j))
  | _, .bl i, .bl j => some (decide (i = j))
  | h, x, y => cEqP false h x y
def oNe : Cells → D → D → Option Bool
  | _, .int i, .int j => some (!decide (i = j))
  | _, .str i, .str j => some (!decide (i = j))
  | _, .bl i, .bl j => some (!decide (i = j))
  | h, x, y => cEqP true h x y
def rEqA (K : PySem.W.Frag) : R2 := fun x y H Q => rEq x y H Q ∨ rEqP K false x y H Q
def rNeA (K : PySem.W.Frag) : R2 := fun x y H Q => rNe x y H Q ∨ rEqP K true x y H Q
theorem or_eq (hu : X.A.units + 64 < cLine) : OpR X (compareOp .Eq) (rEqA X.K) := op_eq.or (op_eqP hu)
theorem or_ne (hu : X.A.units + 64 < cLine) : OpR X (compareOp .NotEq) (rNeA X.K) := op_ne.or (op_neP hu)
theorem p_eq : Op2 K (rEqA K) (oB oEq) := by
  intro ρ h H x y dx dy d Q R a b e k
  have gen : (oB (cEqP false)) h dx dy = some d → rEqA K x y H Q := fun e => .inr (p_eqP ρ h H x y dx dy d Q R a b e k)
  cases dx <;> cases dy <;> first
    | exact gen e
    | (simp only [oB, oEq, Option.map_some] at e
       cases e
       left
       first
         | (cases den_int a; cases den_int b; refine ⟨rfl, k _ _ ρ (.refl _ _) R ?_⟩; simpa using Den.bl (K := K) (ρ := ρ) (H := H) _)
         | (cases den_str a; cases den_str b; refine ⟨rfl, k _ _ ρ (.refl _ _) R ?_⟩; simpa using Den.bl (K := K) (ρ := ρ) (H := H) _)
         | (cases den_bl a; cases den_bl b; refine ⟨rfl, k _ _ ρ (.refl _ _) R ?_⟩; simpa using Den.bl (K := K) (ρ := ρ) (H := H) _))
theorem p_ne : Op2 K (rNeA K) (oB oNe) := by
  intro ρ h H x y dx dy d Q R a b e k
  have gen : (oB (cEqP true)) h dx dy = some d → rNeA K x y H Q := fun e => .inr (p_eqP ρ h H x y dx dy d Q R a b e k)
  cases dx <;> cases dy <;> first
    | exact gen e
    | (simp only [oB, oNe, Option.map_some] at e
       cases e
       left
       first
         | (cases den_int a; cases den_int b; refine ⟨rfl, k _ _ ρ (.refl _ _) R ?_⟩; simpa using Den.bl (K := K) (ρ := ρ) (H := H) _)
         | (cases den_str a; cases den_str b; refine ⟨rfl, k _ _ ρ (.refl _ _) R ?_⟩; simpa using Den.bl (K := K) (ρ := ρ) (H := H) _)
         | (cases den_bl a; cases den_bl b; refine ⟨rfl, k _ _ ρ (.refl _ _) R ?_⟩; simpa using Den.bl (K := K) (ρ := ρ) (H := H) _))
end
end Zm

set_option Elab.async false
set_option linter.all false
set_option maxRecDepth 100000
/-! Zh: built-ins, places, slices, comprehensions, lists that change. -/
namespace Zm
open PySem L2
section
variable {X : Cx} {K : PySem.W.Frag}

/-! ### names of built-in types -/
theorem ev_ty {x : Str} {n : String} {pos : Pos} (hm : X.mg x = none) (hv : bootBuiltins x = some (.type n)) (hg : Gl X x := by rfl) (hn : x ≠ "__name__" := by decide) (hd : (x == ("__debug__" : Str)) = false := by decide) : EV X (.Name x pos) (mC (.ty n)) :=
  pe_w (pe_bltn hg hm hv (v := .ty n) rfl hn hd) fun _ _ _ => rd_c fun _ _ => .ty n

/-! ### repr -/
def rRepr (K : PySem.W.Frag) : List V → Hp → VK → Prop := fun xs H Q => ∃ x p, xs = [x] ∧ DenP K H x p ∧ p.showable = true ∧ p.hasDict = false ∧ p.shown.length ≤ sizeLine ∧ p.depth ≤ 50 ∧ Q (.str p.shown) H
theorem call_reprP (hg : X.A.guards = some []) (hu : X.A.units + 64 < cLine) : CallR X (.builtin "repr") (rRepr X.K) := by
  intro pins s σ H xs us Q I r h
  obtain ⟨x, p, rfl, dx, h1, h2, h3, h4, q⟩ := h
  obtain ⟨u, rfl, ru⟩ := vals1 r
  obtain ⟨as, ra⟩ := reads_of I dx ru
  have fin : ∀ {a : Addr}, Reads s.heap (.ref a) p as → wpAny (model X.prog X.w) X.A (call (.builtin "repr") [.ref a]) (EP X pins σ Q) X.xe s := fun {a} ra =>
    repr_of_reads' ra h1 (fun z => by rw [h2] at z; cases z) hg (by omega) (fun _ _ e => e) (fun h' u tk hk => ⟨.str p.shown, H, I.kept hk, ⟨u, rfl⟩, q⟩) h3
  cases dx with
  | non => cases ru; exact PySem.P.repr_of_none ⟨.str _, H, I.tok _, ⟨_, rfl⟩, q⟩
  | bl b => cases ru; exact PySem.P.repr_of_bool ⟨.str _, H, I.tok _, ⟨_, rfl⟩, q⟩
  | int i =>
    obtain ⟨t, rfl⟩ := ru
    exact PySem.P.repr_of_int (by simpa [PyData.showable] using h1) ⟨.str _, H, I.tok _, ⟨_, rfl⟩, q⟩
  | str y =>
    obtain ⟨t, rfl⟩ := ru
    exact PySem.P.repr_of_str ⟨.str _, H, I.tok _, ⟨_, rfl⟩, q⟩ h3
  | tup _ _ => cases ru; exact fin ra
  | lst _ _ => cases ru; exact fin ra
def shOk (p : PyData) : Bool := p.showable && !p.hasDict && decide (p.shown.length ≤ line) && decide (p.depth ≤ 50)
def oRepr : Cells → List D → Option D
  | h, [d] => (py h d).bind fun p => bif shOk p then some (.str p.shown) else none
  | _, _ => none
theorem c_repr : OpC K (rRepr K) oRepr := by
  intro ρ h H xs dxs d Q R a e k
  cases a with
  | nil => cases e
  | cons a b =>
    cases b with
    | cons _ _ => cases e
    | nil =>
      simp only [oRepr] at e
      obtain ⟨p, e1, e2⟩ := Option.bind_eq_some_iff.mp e
      obtain ⟨c, e3⟩ := bif_some e2
      cases e3
      simp only [shOk, Bool.and_eq_true, Bool.not_eq_true', decide_eq_true_eq] at c
      exact ⟨_, p, rfl, denP_py R a e1, c.1.1.1, c.1.1.2, by rw [← line_eq]; exact c.1.2, c.2, k _ _ ρ (.refl _ _) R (.str _)⟩

/-! ### isinstance of data and built-in types -/
def tyD : D → Option String
  | .non => some "NoneType"
  | .bl _ => some "bool"
  | .int _ => some "int"
  | .str _ => some "str"
  | .tup _ => some "tuple"
  | .lst _ => some "list"
  | .frl _ => some "list"
  | .dic => some "dict"
  | .rng _ _ => none
  | .hid _ => none
  | .exc _ _ _ _ => none
  | .cell _ => some "list"
  | .ty _ => none
theorem tyX_of {ρ : Rho} {h : Cells} {H : Hp} {x : V} {d : D} {t : String} (R : Rel K ρ h H) (dn : Den K ρ H x d) (e : tyD d = some t) (nk : (∃ es, d = .tup es) → ∀ a, x = .ref a → ∀ vs, (∀ H, SqT K H a vs) → False) (nl : (∃ es, d = .frl es) → False) (hi : ∀ i, d = .cell i → i < h.length) : TyX K H x (.type t) := by
  cases dn with
  | non => cases e; exact .base .non
  | bl b => cases e; exact .base (.bl b)
  | int i => cases e; exact .base (.int i)
  | str y => cases e; exact .base (.str y)
  | tup r n ds =>
    cases e
    rcases r with r | ⟨o, r⟩
    · exact .base (.tup r)
    · exact .fTuple r
  | tupK r ds => exact (nk ⟨_, rfl⟩ _ rfl _ r).elim
  | lst r n ds => cases e; exact .base (.lst r)
  | frl r n ds => exact (nl ⟨_, rfl⟩).elim
  | frlK r ds => exact (nl ⟨_, rfl⟩).elim
  | dic r n => cases e; exact .base (.dK r)
  | rng r n => cases e
  | hid a => cases e
  | exc h n r => cases e
  | ty n => cases e
  | cell c =>
    cases e
    have hl := hi _ rfl
    obtain ⟨vs, q, _⟩ := R.at_ _ _ _ c (List.getElem?_eq_getElem hl)
    exact .base (.lst q)
/-- a tuple of the written part, too -/
theorem tyX_tup {ρ : Rho} {H : Hp} {x : V} {ds : List D} (dn : Den K ρ H x (.tup ds)) : TyX K H x (.type "tuple") := by
  cases dn with
  | tup r n ds =>
    rcases r with r | ⟨o, r⟩
    · exact .base (.tup r)
    · exact .fTuple r
  | tupK r ds =>
    rcases r (fun _ => none) with (r | ⟨o, r⟩) | ⟨o, its, n, e1, e2, _⟩
    · cases r
    · cases r
    · exact .kTuple e1 e2
theorem tyX_frl {ρ : Rho} {H : Hp} {x : V} {ds : List D} (dn : Den K ρ H x (.frl ds)) : TyX K H x (.type "list") := by
  cases dn with
  | frl r n ds =>
    rcases r with r | ⟨o, r⟩
    · exact .base (.lst r)
    · exact .base (.frz r)
  | frlK r ds =>
    rcases r (fun _ => none) with (r | ⟨o, r⟩) | ⟨o, its, n, e1, e2, _⟩
    · cases r
    · cases r
    · exact .kList e1 e2
theorem tyX {ρ : Rho} {h : Cells} {H : Hp} {x : V} {d : D} {t : String} (R : Rel K ρ h H) (dn : Den K ρ H x d) (e : tyD d = some t) (hi : ∀ i, d = .cell i → i < h.length) : TyX K H x (.type t) := by
  cases d with
  | tup ds => cases e; exact tyX_tup dn
  | frl ds => cases e; exact tyX_frl dn
  | _ => exact tyX_of R dn e (fun ⟨_, z⟩ => by cases z) (fun ⟨_, z⟩ => by cases z) hi
def isiB (t n : String) : Option Bool :=
  if n = "int" then some (t == "int" || t == "bool") else if n = "bool" then some (t == "bool") else if n = "tuple" then some (t == "tuple") else if n = "str" then some (t == "str") else if n = "list" then some (t == "list") else none
def tyNames : List String := ["NoneType", "bool", "int", "str", "tuple", "list", "dict"]
theorem kit_isi : ∀ t ∈ tyNames, ∀ n ∈ ["int", "bool", "tuple", "str", "list"], kitB t n = isiB t n := by decide +kernel
theorem isiB_n {t n : String} {b : Bool} (h : isiB t n = some b) : n ∈ ["int", "bool", "tuple", "str", "list"] := by
  unfold isiB at h
  repeat' split at h
  all_goals first
    | (rename_i z; simp [z]; done)
    | (subst_vars; simp; done)
    | cases h
theorem tyD_n {d : D} {t : String} (h : tyD d = some t) : t ∈ tyNames := by
  cases d <;> simp only [tyD] at h <;> first | (cases h; decide) | cases h
def okCell (h : Cells) : D → Bool
  | .cell i => decide (i < h.length)
  | _ => true
def oIsi : Cells → List D → Option D
  | h, [d, .ty n] => bif okCell h d then (tyD d).bind fun t => (isiB t n).map .bl else none
  | _, _ => none
theorem c_isi : OpC K (rIsi K) oIsi := by
  intro ρ h H xs dxs d Q R a e k
  unfold oIsi at e
  split at e
  · rename_i d' n
    cases a with
    | cons a b =>
      cases b with
      | cons b c =>
        cases c
        cases hc : okCell h d' with
        | false => simp [hc] at e
        | true =>
          simp only [hc, cond_true] at e
          obtain ⟨t, e1, e2⟩ := Option.bind_eq_some_iff.mp e
          obtain ⟨r, e3, e4⟩ := Option.map_eq_some_iff.mp e2
          subst e4
          cases b
          refine ⟨_, _, .type t, .type n, r, rfl, .ty n, tyX R a e1 (fun i z => by subst z; simpa [okCell] using hc), kit_ty ?_, k _ _ ρ (.refl _ _) R (.bl _)⟩
          rw [kit_isi t (tyD_n e1) n (isiB_n e3)]
          exact e3
  · cases e

/-! ### len, int, abs, min, max, divmod, sum, all -/
def oLen : Cells → List D → Option D
  | _, [.tup ds] => some (.int ds.length)
  | _, [.lst ds] => some (.int ds.length)
  | _, [.frl ds] => some (.int ds.length)
  | h, [.cell i] => (h[i]?).map fun ds => .int ds.length
  | _, _ => none
theorem c_len : OpC K (fun xs H Q => ∃ x n, xs = [x] ∧ LenV K x H n ∧ Q (.int n) H) oLen := by
  intro ρ h H xs dxs d Q R a e k
  unfold oLen at e
  split at e
  · cases e
    cases a with
    | cons a b =>
      cases b
      obtain ⟨p, vs, rfl, hp⟩ := den_tupF a
      obtain ⟨s1, t1⟩ := hp ρ H (.refl _ _)
      exact ⟨_, _, rfl, .inr ⟨vs, s1, t1.length.symm⟩, k _ _ ρ (.refl _ _) R (.int _)⟩
  · cases e
    cases a with
    | cons a b =>
      cases b
      obtain ⟨p, vs, rfl, hp⟩ := den_lst a
      obtain ⟨s1, t1⟩ := hp ρ H (.refl _ _)
      exact ⟨_, _, rfl, .inl ⟨vs, s1, t1.length.symm⟩, k _ _ ρ (.refl _ _) R (.int _)⟩
  · cases e
    cases a with
    | cons a b =>
      cases b
      obtain ⟨p, vs, rfl, hp⟩ := den_frl a
      obtain ⟨s1, t1⟩ := hp ρ H (.refl _ _)
      exact ⟨_, _, rfl, .inl ⟨vs, s1, t1.length.symm⟩, k _ _ ρ (.refl _ _) R (.int _)⟩
  · obtain ⟨ds, e1, e2⟩ := Option.map_eq_some_iff.mp e
    cases e2
    cases a with
    | cons a b =>
      cases b
      cases a with
      | cell c =>
        obtain ⟨vs, q1, q2⟩ := R.at_ _ _ _ c e1
        exact ⟨_, _, rfl, .inl ⟨vs, SqL.of q1, q2.length.symm⟩, k _ _ ρ (.refl _ _) R (.int _)⟩
  · cases e
def oInt : Cells → List D → Option D
  | _, [.int i] => some (.int i)
  | _, [.bl b] => some (.int (if b then 1 else 0))
  | _, _ => none
theorem dens1 {ρ : Rho} {H : Hp} {xs : List V} {d : D} (a : Dens K ρ H xs [d]) : ∃ x, xs = [x] ∧ Den K ρ H x d := by
  cases a with
  | cons a b => cases b; exact ⟨_, rfl, a⟩
theorem dens2 {ρ : Rho} {H : Hp} {xs : List V} {d e : D} (a : Dens K ρ H xs [d, e]) : ∃ x y, xs = [x, y] ∧ Den K ρ H x d ∧ Den K ρ H y e := by
  cases a with
  | cons a b =>
    obtain ⟨y, rfl, b1⟩ := dens1 b
    exact ⟨_, _, rfl, a, b1⟩
theorem c_int : OpC K (fun xs H Q => (∃ i, xs = [.int i] ∧ Q (.int i) H) ∨ ∃ k, xs = [.bl k] ∧ Q (.int (if k then 1 else 0)) H) oInt := by
  intro ρ h H xs dxs d Q R a e k
  unfold oInt at e
  split at e
  · cases e
    obtain ⟨x, rfl, a1⟩ := dens1 a
    exact .inl ⟨_, by rw [den_int a1], k _ _ ρ (.refl _ _) R (.int _)⟩
  · cases e
    obtain ⟨x, rfl, a1⟩ := dens1 a
    exact .inr ⟨_, by rw [den_bl a1], k _ _ ρ (.refl _ _) R (.int _)⟩
  · cases e
def oAbs : Cells → List D → Option D
  | _, [.int i] => some (.int (if i < 0 then -i else i))
  | _, _ => none
theorem c_abs : OpC K (fun xs H Q => ∃ i, xs = [.int i] ∧ Q (.int (if i < 0 then -i else i)) H) oAbs := by
  intro ρ h H xs dxs d Q R a e k
  unfold oAbs at e
  split at e
  · cases e
    obtain ⟨x, rfl, a1⟩ := dens1 a
    exact ⟨_, by rw [den_int a1], k _ _ ρ (.refl _ _) R (.int _)⟩
  · cases e
def oMax2 : Cells → List D → Option D
  | _, [.int i, .int j] => some (.int (if j > i then j else i))
  | _, _ => none
theorem c_max2 : OpC K (fun xs H Q => ∃ i j, xs = [.int i, .int j] ∧ Q (.int (if j > i then j else i)) H) oMax2 := by
  intro ρ h H xs dxs d Q R a e k
  unfold oMax2 at e
  split at e
  · cases e
    obtain ⟨x, y, rfl, a1, b1⟩ := dens2 a
    exact ⟨_, _, by rw [den_int a1, den_int b1], k _ _ ρ (.refl _ _) R (.int _)⟩
  · cases e
def oMin2 : Cells → List D → Option D
  | _, [.int i, .int j] => some (.int (if j < i then j else i))
  | _, _ => none
theorem c_min2 : OpC K (fun xs H Q => ∃ i j, xs = [.int i, .int j] ∧ Q (.int (if j < i then j else i)) H) oMin2 := by
  intro ρ h H xs dxs d Q R a e k
  unfold oMin2 at e
  split at e
  · cases e
    obtain ⟨x, y, rfl, a1, b1⟩ := dens2 a
    exact ⟨_, _, by rw [den_int a1, den_int b1], k _ _ ρ (.refl _ _) R (.int _)⟩
  · cases e
/-- divmod: by a divisor that is no great one, or of numbers that are not too far apart -/
def dmOk (i j : Int) : Bool := decide (0 < j) && (decide (j < 1073741824) || !Builtin.divisionGoesByPylong i j)
def oDivmod : Cells → List D → Option D
  | _, [.int i, .int j] => bif dmOk i j then some (.tup [.int (i / j), .int (i % j)]) else none
  | _, _ => none
def rDm : List V → Hp → VK → Prop := fun xs H Q => ∃ i j, xs = [.int i, .int j] ∧ CDiv i j ∧ ∀ p, H p = none → Q (.ref p) (upd H p (.tup [.int (i / j), .int (i % j)]))
def rDmW : List V → Hp → VK → Prop := fun xs H Q => ∃ i j, xs = [.int i, .int j] ∧ CDivP i j ∧ ∀ p, H p = none → Q (.ref p) (upd H p (.tup [.int (i / j), .int (i % j)]))
theorem CallR.or {f : Value} {r r' : List V → Hp → VK → Prop} (h : CallR X f r) (h' : CallR X f r') : CallR X f (fun x H Q => r x H Q ∨ r' x H Q) := by
  intro pins s σ H xs us Q I r q
  rcases q with q | q
  · exact h pins s σ H xs us Q I r q
  · exact h' pins s σ H xs us Q I r q
theorem call_dm : CallR X (.builtin "divmod") (fun x H Q => rDm x H Q ∨ rDmW x H Q) := CallR.or (r := rDm) (r' := rDmW) call_divmod call_divmodW
theorem c_dm : OpC K (fun x H Q => rDm x H Q ∨ rDmW x H Q) oDivmod := by
  intro ρ h H xs dxs d Q R a e k
  unfold oDivmod at e
  split at e
  · rename_i i j
    obtain ⟨c, e⟩ := bif_some e
    cases e
    obtain ⟨x, y, rfl, a1, b1⟩ := dens2 a
    simp only [dmOk, Bool.and_eq_true, Bool.or_eq_true, Bool.not_eq_true', decide_eq_true_eq] at c
    have fin : ∀ p, H p = none → Q (.ref p) (upd H p (.tup [.int (i / j), .int (i % j)])) := fun p hp =>
      k _ _ ρ (fut_new _ hp) (R.new _ hp) (.tup (.inl upd_same) (R.out hp) (.cons (.int _) (.cons (.int _) .nil)))
    rcases c.2 with c2 | c2
    · exact .inl ⟨i, j, by rw [den_int a1, den_int b1], ⟨c.1, c2⟩, fin⟩
    · exact .inr ⟨i, j, by rw [den_int a1, den_int b1], ⟨c.1, c2⟩, fin⟩
  · cases e
def asInt : D → Option Int
  | .int i => some i
  | _ => none
def asInts : List D → Option (List Int)
  | [] => some []
  | d :: ds => (asInt d).bind fun i => (asInts ds).map fun is => i :: is
def asBs : List D → Option (List Bool)
  | [] => some []
  | d :: ds => (asB d).bind fun i => (asBs ds).map fun is => i :: is
theorem den_asInt {ρ : Rho} {H : Hp} {x : V} {d : D} {c : Int} (dn : Den K ρ H x d) (e : asInt d = some c) : x = .int c := by
  cases d <;> simp [asInt] at e
  subst e
  exact den_int dn
theorem dens_ints {ρ : Rho} {H : Hp} : ∀ {xs : List V} {ds : List D} {ns : List Int}, Dens K ρ H xs ds → asInts ds = some ns → xs = ns.map V.int
  | _, _, _, .nil, e => by cases e; rfl
  | _, _, _, .cons a b, e => by
    simp only [asInts] at e
    obtain ⟨i, e1, e2⟩ := Option.bind_eq_some_iff.mp e
    obtain ⟨is, e3, e4⟩ := Option.map_eq_some_iff.mp e2
    cases e4
    rw [den_asInt a e1, dens_ints b e3]
    rfl
theorem dens_bs {ρ : Rho} {H : Hp} : ∀ {xs : List V} {ds : List D} {ns : List Bool}, Dens K ρ H xs ds → asBs ds = some ns → xs = ns.map V.bl
  | _, _, _, .nil, e => by cases e; rfl
  | _, _, _, .cons a b, e => by
    simp only [asBs] at e
    obtain ⟨i, e1, e2⟩ := Option.bind_eq_some_iff.mp e
    obtain ⟨is, e3, e4⟩ := Option.map_eq_some_iff.mp e2
    cases e4
    rw [den_asB a e1, dens_bs b e3]
    rfl
def oSum : Cells → List D → Option D
  | _, [d] => (asL d).bind fun ds => (asInts ds).map fun ns => .int ns.sum
  | _, _ => none
theorem c_sum : OpC K (rSum K) oSum := by
  intro ρ h H xs dxs d Q R a e k
  unfold oSum at e
  split at e
  · obtain ⟨ds, e1, e2⟩ := Option.bind_eq_some_iff.mp e
    obtain ⟨ns, e3, e4⟩ := Option.map_eq_some_iff.mp e2
    cases e4
    obtain ⟨x, rfl, a1⟩ := dens1 a
    obtain ⟨p, vs, rfl, hp⟩ := den_lf a1 e1
    obtain ⟨s1, t1⟩ := hp ρ H (.refl _ _)
    rw [dens_ints t1 e3] at s1
    exact ⟨p, ns, rfl, s1, k _ _ ρ (.refl _ _) R (.int _)⟩
  · cases e
def oAll : Cells → List D → Option D
  | _, [d] => (asL d).bind fun ds => (asBs ds).map fun ns => .bl (ns.all id)
  | _, _ => none
theorem c_all : OpC K (rAll K) oAll := by
  intro ρ h H xs dxs d Q R a e k
  unfold oAll at e
  split at e
  · obtain ⟨ds, e1, e2⟩ := Option.bind_eq_some_iff.mp e
    obtain ⟨ns, e3, e4⟩ := Option.map_eq_some_iff.mp e2
    cases e4
    obtain ⟨x, rfl, a1⟩ := dens1 a
    obtain ⟨p, vs, rfl, hp⟩ := den_lf a1 e1
    obtain ⟨s1, t1⟩ := hp ρ H (.refl _ _)
    rw [dens_bs t1 e3] at s1
    exact ⟨p, ns, rfl, s1, k _ _ ρ (.refl _ _) R (.bl _)⟩
  · cases e
def oTuple : Cells → List D → Option D
  | _, [.lst ds] => some (.tup ds)
  | h, [.cell i] => (h[i]?).map .tup
  | _, _ => none

/-! ### places -/
def asSeq (h : Cells) : D → Option (List D)
  | .tup ds => some ds
  | .lst ds => some ds
  | .frl ds => some ds
  | .cell i => h[i]?
  | _ => none
def oIx : Cells → D → D → Option D
  | h, x, .int i => (asSeq h x).bind fun ds => atI ds i
  | _, _, _ => none
theorem den_atI {ρ : Rho} {H : Hp} {vs : List V} {ds : List D} {i : Int} {d : D} (a : Dens K ρ H vs ds) (e : atI ds i = some d) : ∃ v, atI vs i = some v ∧ Den K ρ H v d := by
  unfold atI at e ⊢
  obtain ⟨j, e1, e2⟩ := Option.bind_eq_some_iff.mp e
  obtain ⟨v, q1, q2⟩ := a.get e2
  exact ⟨v, by rw [a.length, e1]; exact q1, q2⟩
theorem seq_of {ρ : Rho} {h : Cells} {H : Hp} {x : V} {d : D} {ds : List D} (R : Rel K ρ h H) (dn : Den K ρ H x d) (e : asSeq h d = some ds) : ∃ a vs, x = .ref a ∧ (SqL K H a vs ∨ SqT K H a vs) ∧ Dens K ρ H vs ds := by
  cases d <;> simp only [asSeq] at e <;> try (cases e; done)
  · cases e
    obtain ⟨p, vs, rfl, hp⟩ := den_tupF dn
    exact ⟨p, vs, rfl, .inr (hp ρ H (.refl _ _)).1, (hp ρ H (.refl _ _)).2⟩
  · cases e
    obtain ⟨p, vs, rfl, hp⟩ := den_lst dn
    exact ⟨p, vs, rfl, .inl (hp ρ H (.refl _ _)).1, (hp ρ H (.refl _ _)).2⟩
  · cases e
    obtain ⟨p, vs, rfl, hp⟩ := den_frl dn
    exact ⟨p, vs, rfl, .inl (hp ρ H (.refl _ _)).1, (hp ρ H (.refl _ _)).2⟩
  · cases dn with
    | cell c =>
      obtain ⟨vs, q1, q2⟩ := R.at_ _ _ _ c e
      exact ⟨_, vs, rfl, .inl (SqL.of q1), q2⟩
theorem p_ix : Op2 K (rIx K) oIx := by
  intro ρ h H x y dx dy d Q R a b e k
  cases dy <;> simp only [oIx] at e <;> try (cases e; done)
  obtain ⟨ds, e1, e2⟩ := Option.bind_eq_some_iff.mp e
  obtain ⟨p, vs, rfl, hp, dn⟩ := seq_of R a e1
  obtain ⟨v, q1, q2⟩ := den_atI dn e2
  have := den_int b
  subst this
  rcases hp with hp | hp
  · exact .inl ⟨p, vs, _, v, rfl, rfl, hp, q1, k _ _ ρ (.refl _ _) R q2⟩
  · exact .inr (.inl ⟨p, vs, _, v, rfl, rfl, hp, q1, k _ _ ρ (.refl _ _) R q2⟩)
theorem ev_ix {a b : Expr} {pos : Pos} {f g : ME} (ha : EV X a f) (hb : EV X b g) (hs : PlainIx b := by exact fun _ _ => rfl) : EV X (.Subscript a b pos) (mBin oIx f g) :=
  pe_w (pe_ix ix_seq ha hb hs) fun _ _ _ h => rd2 h fun ρ h2 H2 x y dx dy d R a b e k => p_ix ρ h2 H2 x y dx dy d _ R a b e k
/-- slices -/
abbrev MO := MS → Option (Option Int × Cells)
def rdO (K : PySem.W.Frag) (f : MO) : TO := fun σ H Q => ∃ ρ ms o h', Rel K ρ ms.h H ∧ Slots K ρ H ms.s σ ∧ f ms = some (o, h') ∧ ∀ H' ρ', Fut ρ H ρ' H' → Rel K ρ' h' H' → Q o H'
abbrev OV (X : Cx) (e : Option Expr) (f : MO) : Prop := PO X e (rdO X.K f)
theorem po_w {e : Option Expr} {t t' : TO} (h : PO X e t) (w : ∀ σ H Q, t' σ H Q → t σ H Q) : PO X e t' := ⟨fun pins s σ H Q I q => h.run pins s σ H Q I (w σ H Q q)⟩
def mNo : MO := fun ms => some (none, ms.h)
def mSo (f : ME) : MO := fun ms => (f ms).bind fun r => (asInt r.1).map fun i => (some i, r.2)
theorem ov_no : OV X none mNo := po_w po_none fun σ H Q h => by
  obtain ⟨ρ, ms, o, h', R, S, e, q⟩ := h
  cases e
  exact q H ρ (.refl _ _) R
theorem ov_so {e : Expr} {f : ME} (h : EV X e f) : OV X (some e) (mSo f) := po_w (po_some h) fun σ H Q h => by
  obtain ⟨ρ, ms, o, h', R, S, e, q⟩ := h
  obtain ⟨⟨d, h1⟩, e1, e2⟩ := Option.bind_eq_some_iff.mp e
  obtain ⟨i, e3, e4⟩ := Option.map_eq_some_iff.mp e2
  cases e4
  cases d <;> simp only [asInt] at e3 <;> try (cases e3; done)
  cases e3
  exact ⟨ρ, ms, _, _, R, S, e1, fun v H1 ρ1 F1 R1 dn => ⟨_, den_int dn, q H1 ρ1 F1 R1⟩⟩
def cutD (ds : List D) (lo hi : Option Int) : List D := (ds.drop (HT.sIx ds.length 0 lo)).take (HT.sIx ds.length ds.length hi - HT.sIx ds.length 0 lo)
theorem den_cut {ρ : Rho} {H : Hp} {vs : List V} {ds : List D} (a : Dens K ρ H vs ds) (lo hi : Option Int) : Dens K ρ H (cutV vs lo hi) (cutD ds lo hi) := by
  unfold cutV cutD
  rw [a.length]
  exact (a.drop _).take _
def oSl (h : Cells) (x : D) (lo hi : Option Int) : Option D := match x with
  | .tup ds => some (.tup (cutD ds lo hi))
  | .lst ds => some (.lst (cutD ds lo hi))
  | .frl ds => some (.lst (cutD ds lo hi))
  | .cell i => (h[i]?).map fun ds => .lst (cutD ds lo hi)
  | .str z => bif decide (z.length ≤ line) then some (.str (cutS z lo hi)) else none
  | _ => none
def rSlAll (K : PySem.W.Frag) : V → Option Int → Option Int → Hp → VK → Prop := fun x lo hi H Q => rSlL K x lo hi H Q ∨ rSlA K x lo hi H Q ∨ rSlS x lo hi H Q
theorem sl_all : SlR X (rSlAll X.K) := sl_list.or (sl_tupA.or sl_str)
def mSl (f : ME) (lo hi : MO) : ME := fun ms => (f ms).bind fun r => (lo { ms with h := r.2 }).bind fun l => (hi { ms with h := l.2 }).bind fun u => (oSl u.2 r.1 l.1 u.1).map fun d => (d, u.2)
theorem cut_full {α : Type} (ds : List α) (lo hi : Option Int) (h : HT.sIx ds.length 0 lo = 0 ∧ HT.sIx ds.length ds.length hi = ds.length) : (ds.drop (HT.sIx ds.length 0 lo)).take (HT.sIx ds.length ds.length hi - HT.sIx ds.length 0 lo) = ds := by
  rw [h.1, h.2]; simp
theorem ev_slice {e : Expr} {lo hi : Option Expr} {p2 pos : Pos} {f : ME} {l u : MO} (he : EV X e f) (hl : OV X lo l) (hu : OV X hi u) : EV X (.Subscript e (.Slice lo hi none p2) pos) (mSl f l u) := by
  refine pe_w (pe_slice sl_all he hl hu) fun σ H Q h => ?_
  obtain ⟨ρ, ms, d, h', R, S, e, q⟩ := h
  obtain ⟨⟨dx, h1⟩, e1, e2⟩ := Option.bind_eq_some_iff.mp e
  obtain ⟨⟨lo', h2⟩, e3, e4⟩ := Option.bind_eq_some_iff.mp e2
  obtain ⟨⟨hi', h3⟩, e5, e6⟩ := Option.bind_eq_some_iff.mp e4
  obtain ⟨y, e7, e8⟩ := Option.map_eq_some_iff.mp e6
  cases e8
  refine ⟨ρ, ms, dx, h1, R, S, e1, fun x H1 ρ1 F1 R1 d1 => ?_⟩
  refine ⟨ρ1, { ms with h := h1 }, lo', h2, R1, S.fut F1, e3, fun H2 ρ2 F2 R2 => ?_⟩
  refine ⟨ρ2, { ms with h := h2 }, hi', _, R2, (S.fut F1).fut F2, e5, fun H3 ρ3 F3 R3 => ?_⟩
  have dn := (d1.fut F2).fut F3
  have F := (F1.trans F2).trans F3
  cases dx <;> simp only [oSl] at e7 <;> try (cases e7; done)
  · obtain ⟨c, e7⟩ := bif_some e7
    cases e7
    rw [den_str dn]
    exact .inr (.inr ⟨_, rfl, by rw [← line_eq]; exact of_decide_eq_true c, q _ H3 ρ3 F R3 (.str _)⟩)
  · cases e7
    rename_i ds
    obtain ⟨p, vs, rfl, hp⟩ := den_tupF dn
    obtain ⟨s1, t1⟩ := hp ρ3 H3 (.refl _ _)
    refine .inr (.inl ⟨p, vs, rfl, s1, fun z => ?_, fun _ o ho => ?_⟩)
    · rw [t1.length] at z
      have : cutD ds lo' hi' = ds := cut_full ds lo' hi' z
      exact q _ H3 ρ3 F R3 (by rw [this]; exact dn)
    · exact q _ _ ρ3 (F.trans (fut_new _ ho)) (R3.new _ ho) (.tup (.inl upd_same) (R3.out ho) ((den_cut t1 _ _).fut (fut_new _ ho)))
  · cases e7
    obtain ⟨p, vs, rfl, hp⟩ := den_lst dn
    obtain ⟨s1, t1⟩ := hp ρ3 H3 (.refl _ _)
    exact .inl ⟨p, vs, rfl, s1, fun o ho => q _ _ ρ3 (F.trans (fut_new _ ho)) (R3.new _ ho) (.lst upd_same (R3.out ho) ((den_cut t1 _ _).fut (fut_new _ ho)))⟩
  · cases e7
    obtain ⟨p, vs, rfl, hp⟩ := den_frl dn
    obtain ⟨s1, t1⟩ := hp ρ3 H3 (.refl _ _)
    exact .inl ⟨p, vs, rfl, s1, fun o ho => q _ _ ρ3 (F.trans (fut_new _ ho)) (R3.new _ ho) (.lst upd_same (R3.out ho) ((den_cut t1 _ _).fut (fut_new _ ho)))⟩
  · obtain ⟨ds, e9, e10⟩ := Option.map_eq_some_iff.mp e7
    subst e10
    cases dn with
    | cell c =>
      obtain ⟨vs, q1, q2⟩ := R3.at_ _ _ _ c e9
      exact .inl ⟨_, vs, rfl, SqL.of q1, fun o ho => q _ _ ρ3 (F.trans (fut_new _ ho)) (R3.new _ ho) (.lst upd_same (R3.out ho) ((den_cut q2 _ _).fut (fut_new _ ho)))⟩

/-! ### lists that change -/
theorem fut_wr {ρ : Rho} {H : Hp} {a : Addr} {i : Nat} (o : HO) (h : ρ.c[i]? = some a) : Fut ρ H ρ (upd H a o) :=
  .mk1 fun b u n e => by rw [upd_ne (fun z => n (by rw [z]; exact List.mem_of_getElem? h))]; exact e
theorem Rel.wr {ρ : Rho} {h : Cells} {H : Hp} (R : Rel K ρ h H) {a : Addr} {i : Nat} {vs : List V} {ds : List D} (e : ρ.c[i]? = some a) (dn : Dens K ρ H vs ds) : Rel K ρ (h.set i ds) (upd H a (.lst vs)) := by
  have F := fut_wr (H := H) (.lst vs) e
  refine ⟨by simp [R.len], R.nd, R.apart, fun b hb => ?_, fun j b es e1 e2 => ?_⟩
  · obtain ⟨o, q⟩ := R.hidden b hb
    by_cases hba : b = a
    · subst hba; exact ⟨_, upd_same⟩
    · exact ⟨o, by rw [upd_ne hba]; exact q⟩
  by_cases hj : j = i
  · subst hj
    rw [e] at e1
    cases e1
    have hl : j < h.length := by
      obtain ⟨z, _⟩ := List.getElem?_eq_some_iff.mp e
      rw [← R.len]; exact z
    rw [List.getElem?_set_self hl] at e2
    cases e2
    exact ⟨vs, upd_same, dn.fut F⟩
  · rw [List.getElem?_set_ne (Ne.symm hj)] at e2
    obtain ⟨ws, q1, q2⟩ := R.at_ j b es e1 e2
    refine ⟨ws, ?_, q2.fut F⟩
    rw [upd_ne ?_]
    · exact q1
    · rintro rfl
      obtain ⟨z1, w1⟩ := List.getElem?_eq_some_iff.mp e
      obtain ⟨z2, w2⟩ := List.getElem?_eq_some_iff.mp e1
      exact hj ((List.getElem_inj R.nd).mp (w2.trans w1.symm))
def mApp (f : ME) (g : MA) : ME := fun ms => (f ms).bind fun r => (g { ms with h := r.2 }).bind fun s => match r.1, s.1 with
  | .cell i, [d] => (s.2[i]?).bind fun ds => bif decide (ds.length < line) then some (.non, s.2.set i (ds ++ [d])) else none
  | _, _ => none
theorem ev_app {o e : Expr} {apos cpos : Pos} {f : ME} {g : MA} (ho : EV X o f) (ha : AV X [e] g) (hbase : attributeBase o "append" X.env (eval o X.env) = eval o X.env := by rfl)
    (hfew : ((backTo cpos (starEach [e] X.env)).all (fun x => !x.1) && (backToKw cpos (keywordEach [] X.env)).all (fun x => x.1.isSome)
      && decide (([e] : List Expr).length + ([] : List Keyword).length + (if ([] : List Keyword).isEmpty then 0 else 1) < 30)) = true := by rfl)
    (hline : (apos.endLine == cpos.line) = true := by rfl) (hs : starEach [e] X.env = (false, eval e X.env) :: starEach [] X.env := by rfl) (hplain : (backTo cpos (starEach [] X.env)).any (·.1) = false := by rfl) :
    EV X (.Call (.Attribute o "append" apos) [e] [] cpos) (mApp f g) := by
  refine pe_w (pe_bm PySem.F.plainAttrs_list PySem.F.slot_list_append PySem.F.type_list_append mt_append ho ha hbase hfew hline hs hplain) fun σ H Q h => ?_
  obtain ⟨ρ, ms, d, h', R, S, e, q⟩ := h
  obtain ⟨⟨dx, h1⟩, e1, e2⟩ := Option.bind_eq_some_iff.mp e
  obtain ⟨⟨ds, h2⟩, e3, e4⟩ := Option.bind_eq_some_iff.mp e2
  dsimp only at e4
  split at e4
  · rename_i i d1
    obtain ⟨es, e5, e6⟩ := Option.bind_eq_some_iff.mp e4
    obtain ⟨c, e7⟩ := bif_some e6
    cases e7
    refine ⟨ρ, ms, .cell i, h1, R, S, e1, fun x H1 ρ1 F1 R1 dn1 => ?_⟩
    have dn1' := dn1
    cases dn1 with
    | cell g1 =>
      rename_i a
      have hl : i < h1.length := by
        obtain ⟨z, _⟩ := List.getElem?_eq_some_iff.mp g1
        rw [← R1.len]; exact z
      obtain ⟨vs0, q0, _⟩ := R1.at_ _ _ _ g1 (List.getElem?_eq_getElem hl)
      refine ⟨Or.inl ⟨rfl, _, SqL.of q0⟩, ρ1, { ms with h := h1 }, [d1], h2, R1, S.fut F1, e3, fun xs H2 ρ2 F2 R2 dn2 => ?_⟩
      obtain ⟨x2, rfl, dn3⟩ := dens1 dn2
      have g2 := F2.cellAt g1
      obtain ⟨vs, q1, q2⟩ := R2.at_ _ _ _ g2 e5
      refine ⟨a, vs, x2, rfl, rfl, q1, by rw [q2.length, ← line_eq]; exact of_decide_eq_true c, ?_⟩
      exact q _ _ ρ2 ((F1.trans F2).trans (fut_wr _ g2)) (R2.wr g2 (q2.append (.cons dn3 .nil))) .non
  · cases e4
/-- o[i] = v -/
def gSubD (f g : ME) : MG := fun d ms => (f ms).bind fun r => (g { ms with h := r.2 }).bind fun s => match r.1, s.1 with
  | .cell c, .int k => (s.2[c]?).bind fun ds => (ixN ds.length k).map fun j => { ms with h := s.2.set c (ds.set j d) }
  | _, _ => none
theorem gv_sub {o i : Expr} {pos : Pos} {f g : ME} (ho : EV X o f) (hi : EV X i g)
    (ha : ∀ v, assign (.Subscript o i pos) X.env v = (do
      let ov ← holding [v] (eval o X.env)
      let iv ← holding [v, ov] (eval i X.env)
      standAt pos
      holding [v, ov, iv] (setItem ov iv v)
      release [v, ov, iv] []) := by intro _; rfl) : GV X (.Subscript o i pos) (gSubD f g) := by
  refine pg_w (pg_sub ho hi set_list ha) fun v σ H Q h => ?_
  obtain ⟨ρ, ms, d, ms', R, S, dn, e, q⟩ := h
  obtain ⟨⟨dx, h1⟩, e1, e2⟩ := Option.bind_eq_some_iff.mp e
  obtain ⟨⟨dy, h2⟩, e3, e4⟩ := Option.bind_eq_some_iff.mp e2
  dsimp only at e4
  split at e4
  · rename_i c k
    obtain ⟨ds, e5, e6⟩ := Option.bind_eq_some_iff.mp e4
    obtain ⟨j, e7, e8⟩ := Option.map_eq_some_iff.mp e6
    cases e8
    refine ⟨ρ, ms, .cell c, h1, R, S, e1, fun x H1 ρ1 F1 R1 dn1 => ?_⟩
    refine ⟨ρ1, { ms with h := h1 }, .int k, h2, R1, S.fut F1, e3, fun y H2 ρ2 F2 R2 dn2 => ?_⟩
    have dn1 := dn1.fut F2
    cases dn1 with
    | cell g1 =>
      obtain ⟨vs, q1, q2⟩ := R2.at_ _ _ _ g1 e5
      have F := F1.trans F2
      refine ⟨_, vs, k, j, rfl, den_int dn2, q1, by rw [q2.length]; exact e7, ?_⟩
      exact q _ ρ2 σ (F.trans (fut_wr _ g1)) (R2.wr g1 (q2.set (dn.fut F) j)) (S.fut (F.trans (fut_wr _ g1)))
  · cases e4
/-- a, b = x, y and a, b, c = x, y, z, plain names -/
def mPar (i j : Nat) (f : MA) : MB := fun ms => (f ms).bind fun r => match r.1 with
  | [x, y] => some (.nx, ⟨(ms.s.set i (some x)).set j (some y), r.2⟩)
  | _ => none
theorem bv_par {x y : Str} {a b : Expr} {f : MA} {px py pt pos : Pos} {kt k2 pt2} (i j : Nat) (hc : X.calm = true) (hN : X.N.Nodup) (ha : AV X [a, b] f) (hi : X.N[i]? = some x := by rfl) (hj : X.N[j]? = some y := by rfl) (hij : i ≠ j := by decide)
    (hx : X.env.scope.names.lookup x = some .local := by rfl) (hy : X.env.scope.names.lookup y = some .local := by rfl)
    (hw : swappedStores [.Tuple [.Name x px, .Name y py] kt pt] (.Tuple [a, b] k2 pt2) X.env = pure (some [x, y]) := by rfl)
    (hs : swapsWithSole [.Tuple [.Name x px, .Name y py] kt pt] (.Tuple [a, b] k2 pt2) pos.line X.env = pure false := by rfl) :
    BV X (.Assign [.Tuple [.Name x px, .Name y py] kt pt] (.Tuple [a, b] k2 pt2) pos) (mPar i j f) := by
  refine ps_w (ps_par hc hN hi hj hij hx hy ha hw hs) fun D σ H h => ?_
  obtain ⟨ρ, ms, o, ms', R, S, e, q⟩ := h
  obtain ⟨⟨ds, h1⟩, e1, e2⟩ := Option.bind_eq_some_iff.mp e
  dsimp only at e2
  split at e2
  · cases e2
    refine ⟨ρ, ms, _, h1, R, S, e1, fun vs H1 ρ1 F1 R1 dn => ?_⟩
    obtain ⟨u, v, rfl, du, dv⟩ := dens2 dn
    exact ⟨u, v, rfl, q H1 ρ1 F1 R1 _ (((S.fut F1).set i du).set j dv)⟩
  · cases e2
def mPar3 (i j l : Nat) (f : MA) : MB := fun ms => (f ms).bind fun r => match r.1 with
  | [x, y, z] => some (.nx, ⟨((ms.s.set i (some x)).set j (some y)).set l (some z), r.2⟩)
  | _ => none
theorem bv_par3 {x y z : Str} {a b c : Expr} {f : MA} {px py pz pt pos : Pos} {kt k2 pt2} (i j l : Nat) (hc : X.calm = true) (hN : X.N.Nodup) (ha : AV X [a, b, c] f) (hi : X.N[i]? = some x := by rfl) (hj : X.N[j]? = some y := by rfl) (hl : X.N[l]? = some z := by rfl) (hij : i ≠ j := by decide) (hil : i ≠ l := by decide) (hjl : j ≠ l := by decide)
    (hx : X.env.scope.names.lookup x = some .local := by rfl) (hy : X.env.scope.names.lookup y = some .local := by rfl) (hz : X.env.scope.names.lookup z = some .local := by rfl)
    (hw : swappedStores [.Tuple [.Name x px, .Name y py, .Name z pz] kt pt] (.Tuple [a, b, c] k2 pt2) X.env = pure (some [x, y, z]) := by rfl)
    (hs : swapsWithSole [.Tuple [.Name x px, .Name y py, .Name z pz] kt pt] (.Tuple [a, b, c] k2 pt2) pos.line X.env = pure false := by rfl) :
    BV X (.Assign [.Tuple [.Name x px, .Name y py, .Name z pz] kt pt] (.Tuple [a, b, c] k2 pt2) pos) (mPar3 i j l f) := by
  refine ps_w (ps_par3 hc hN hi hj hl hij hil hjl hx hy hz ha hw hs) fun D σ H h => ?_
  obtain ⟨ρ, ms, o, ms', R, S, e, q⟩ := h
  obtain ⟨⟨ds, h1⟩, e1, e2⟩ := Option.bind_eq_some_iff.mp e
  dsimp only at e2
  split at e2
  · cases e2
    refine ⟨ρ, ms, _, h1, R, S, e1, fun vs H1 ρ1 F1 R1 dn => ?_⟩
    cases dn with
    | cons du dn =>
      obtain ⟨v, w, rfl, dv, dw⟩ := dens2 dn
      exact ⟨_, v, w, rfl, q H1 ρ1 F1 R1 _ ((((S.fut F1).set i du).set j dv).set l dw)⟩
  · cases e2
/-- name += e of ints -/
def mAugI (i : Nat) (p : Int → Int → Int) (f : ME) : MB := fun ms => match ms.s[i]? with
  | some (some (.int a)) => (f ms).bind fun r => match r.1 with
    | .int b => some (.nx, ⟨ms.s.set i (some (.int (p a b))), r.2⟩)
    | _ => none
  | _ => none
theorem bv_augI {x : Str} {e : Expr} {op : Operator} {p : Int → Int → Int} {pos pos' : Pos} {f : ME} (i : Nat) (hN : X.N.Nodup) (ho : OpR X (inplaceOp op) (rI0 fun i j => .int (p i j))) (he : EV X e f) (hi : X.N[i]? = some x := by rfl) (hx : Loc X.env.scope x := by first | exact Or.inl rfl | exact Or.inr rfl)
    (hf : X.fn x = true ∨ X.env.scope.names.lookup x = some .local := by first | exact .inl rfl | exact .inr rfl) : BV X (.AugAssign (.Name x pos') op e pos) (mAugI i p f) := by
  have ho' : PIp X op (fun x y H Q => ∃ i j, x = .int i ∧ y = .int j ∧ Q (.int (p i j)) H) := fun pins s σ H x y v u Q I rx ry t => ho pins s σ H x y v u Q I rx ry t
  refine ps_w (ps_aug hN hi hx he ho' hf) fun D σ H h => ?_
  obtain ⟨ρ, ms, o, ms', R, S, e, q⟩ := h
  unfold mAugI at e
  split at e
  · rename_i a ha
    obtain ⟨⟨d, h1⟩, e1, e2⟩ := Option.bind_eq_some_iff.mp e
    dsimp only at e2
    split at e2
    · rename_i b
      cases e2
      obtain ⟨v, g1, g2⟩ := S.2 i _ ha
      refine ⟨v, g1, ρ, ms, _, h1, R, S, e1, fun y H1 ρ1 F1 R1 dn => ⟨a, b, den_int g2, den_int dn, ?_⟩⟩
      exact q H1 ρ1 F1 R1 _ ((S.fut F1).set i (.int _))
    · cases e2
  · cases e
end
end Zm

set_option Elab.async false
set_option linter.all false
set_option maxRecDepth 100000
/-! Zi: comprehensions; more walks. -/
namespace Zm
open PySem L2
section
variable {X : Cx} {K : PySem.W.Frag}

/-! ### comprehensions -/
theorem wipe_get (σ : L2.St) (j : Nat) : ∀ vs : List Nat, (wipe σ vs)[j]? = if j ∈ vs then (if j < σ.length then some none else none) else σ[j]?
  | [] => by simp [wipe]
  | v :: vs => by
    have ih := wipe_get σ j vs
    show ((wipe σ vs).set v none)[j]? = _
    by_cases e : v = j
    · subst e
      by_cases hl : v < σ.length
      · rw [List.getElem?_set_self (by rw [wipe_length]; exact hl)]; simp [hl]
      · rw [List.getElem?_eq_none (by rw [List.length_set, wipe_length]; omega)]; simp [hl]
    · rw [List.getElem?_set_ne e, ih]
      simp [Ne.symm e]
theorem wipe_set {σ : L2.St} {i : Nat} {x : Option V} {vs : List Nat} (h : i ∈ vs) : wipe (σ.set i x) vs = wipe σ vs := by
  apply List.ext_getElem?
  intro j
  rw [wipe_get, wipe_get]
  by_cases hj : j ∈ vs
  · simp [hj]
  · simp only [hj, if_false]
    rw [List.getElem?_set_ne (fun z => hj (by rw [← z]; exact h))]
/-- a target that stores names at vs alone -/
def TgOk (K : PySem.W.Frag) (t : TG) (g : MG) (vs : List Nat) : Prop :=
  ∀ ρ ms ms' H v d (σ : L2.St) (Q : L2.St → Hp → Prop), Slots K ρ H ms.s σ → Den K ρ H v d → g d ms = some ms' → (∀ σ', wipe σ' vs = wipe σ vs → Slots K ρ H ms'.s σ' → ms'.h = ms.h → Q σ' H) → t v σ H Q
theorem tg_name {i : Nat} {vs : List Nat} (h : i ∈ vs) : TgOk K (gName i) (gN i) vs := by
  intro ρ ms ms' H v d σ Q S dn e k
  cases e
  exact k _ (wipe_set h) (S.set i dn) rfl
def TgsOk (K : PySem.W.Frag) (t : TGs) (g : MGs) (vs : List Nat) : Prop :=
  ∀ ρ ms ms' H v d (σ : L2.St) (Q : L2.St → Hp → Prop), Slots K ρ H ms.s σ → Dens K ρ H v d → g d ms = some ms' → (∀ σ', wipe σ' vs = wipe σ vs → Slots K ρ H ms'.s σ' → ms'.h = ms.h → Q σ' H) → t v σ H Q
theorem tgs_nil {vs : List Nat} : TgsOk K gNil gsNil vs := by
  intro ρ ms ms' H v d σ Q S dn e k
  cases dn with
  | nil => cases e; exact ⟨rfl, k σ rfl S rfl⟩
  | cons a b => cases e
theorem tgs_cons {t : TG} {g : MG} {ts : TGs} {gs : MGs} {vs : List Nat} (h1 : TgOk K t g vs) (h2 : TgsOk K ts gs vs) : TgsOk K (gCons t ts) (gsCons g gs) vs := by
  intro ρ ms ms' H v d σ Q S dn e k
  cases dn with
  | nil => cases e
  | cons a b =>
    obtain ⟨m1, e1, e2⟩ := Option.bind_eq_some_iff.mp e
    exact ⟨_, _, rfl, h1 ρ ms m1 H _ _ σ _ S a e1 fun σ1 w1 S1 hh1 => h2 ρ m1 ms' H _ _ σ1 _ S1 b e2 fun σ2 w2 S2 hh2 => k σ2 (w2.trans w1) S2 (hh2.trans hh1)⟩
theorem tg_tup {ts : TGs} {gs : MGs} {n : Nat} {vs : List Nat} (h : TgsOk K ts gs vs) : TgOk K (gTup K n ts) (gT n gs) vs := by
  intro ρ ms ms' H v d σ Q S dn e k
  cases d <;> simp only [gT] at e <;> try (cases e; done)
  rename_i ds
  obtain ⟨a, xs, rfl, hq, dn⟩ := den_tup dn
  cases hl : (ds.length == n) with
  | false => simp [hl] at e
  | true =>
    simp only [hl, cond_true] at e
    exact ⟨a, xs, rfl, hq, by rw [dn.length]; simpa using hl, h ρ ms ms' H _ _ σ _ S dn e k⟩
/-! a list in the making is hidden -/
def Rho.hide (ρ : Rho) (a : Addr) : Rho := ⟨ρ.c, a :: ρ.v⟩
def Rho.shows (ρ : Rho) (a : Addr) : Rho := ⟨ρ.c, ρ.v.filter fun b => decide (b ≠ a)⟩
theorem fut_hide {ρ : Rho} {H : Hp} {p : Addr} (o : HO) (hp : H p = none) (hc : p ∉ ρ.c) : Fut ρ H (ρ.hide p) (upd H p o) :=
  ⟨fun a u _ e => by rw [upd_ne (ne_of_none e hp)]; exact e, ⟨[], by simp [Rho.hide]⟩, fun _ h => List.mem_cons_of_mem _ h, fun a h => by
    rcases List.mem_cons.mp h with z | z
    · subst z; exact .inr ⟨hp, hc⟩
    · exact .inl z, fun a h n => absurd h n⟩
-- the hidden list is written
mutual
theorem Den.poke {ρ : Rho} {H : Hp} {p : Addr} {o : HO} (hp : p ∈ ρ.v) : ∀ {v : V} {d : D}, Den K ρ H v d → Den K ρ (upd H p o) v d
  | _, _, .non => .non
  | _, _, .bl b => .bl b
  | _, _, .int i => .int i
  | _, _, .str x => .str x
  | _, _, .tup (a := a) h n ds => .tup (by unfold Rd; rw [upd_ne (fun z : a = p => n (.inr (by rw [z]; exact hp)))]; exact h) n (Dens.poke hp ds)
  | _, _, .tupK h ds => .tupK h (Dens.poke hp ds)
  | _, _, .lst (a := a) h n ds => .lst (by rw [upd_ne (fun z : a = p => n (.inr (by rw [z]; exact hp)))]; exact h) n (Dens.poke hp ds)
  | _, _, .frl (a := a) h n ds => .frl (by unfold Rd; rw [upd_ne (fun z : a = p => n (.inr (by rw [z]; exact hp)))]; exact h) n (Dens.poke hp ds)
  | _, _, .frlK h ds => .frlK h (Dens.poke hp ds)
  | _, _, .ty n => .ty n
  | _, _, .dic (a := a) h n => .dic (by rw [upd_ne (fun z : a = p => n (.inr (by rw [z]; exact hp)))]; exact h) n
  | _, _, .rng (a := a) h n => .rng (by rw [upd_ne (fun z : a = p => n (.inr (by rw [z]; exact hp)))]; exact h) n
  | _, _, .hid a => .hid a
  | _, _, .exc (dd := a) h n r => .exc (by rw [upd_ne (fun z : a = p => n (.inr (by rw [z]; exact hp)))]; exact h) n (Den.poke hp r)
  | _, _, .cell h => .cell h
theorem Dens.poke {ρ : Rho} {H : Hp} {p : Addr} {o : HO} (hp : p ∈ ρ.v) : ∀ {vs : List V} {ds : List D}, Dens K ρ H vs ds → Dens K ρ (upd H p o) vs ds
  | _, _, .nil => .nil
  | _, _, .cons a b => .cons (Den.poke hp a) (Dens.poke hp b)
end
-- it is shown again
theorem Rho.showOut {ρ : Rho} {p a : Addr} (h : a ∉ ρ) : a ∉ ρ.shows p := Rho.out (Rho.notIn h).1 fun z => (Rho.notIn h).2 (List.mem_filter.mp z).1
mutual
theorem Den.shows {ρ : Rho} {H : Hp} {p : Addr} : ∀ {v : V} {d : D}, Den K ρ H v d → Den K (ρ.shows p) H v d
  | _, _, .non => .non
  | _, _, .bl b => .bl b
  | _, _, .int i => .int i
  | _, _, .str x => .str x
  | _, _, .tup h n ds => .tup h (Rho.showOut n) (Dens.shows ds)
  | _, _, .tupK h ds => .tupK h (Dens.shows ds)
  | _, _, .lst h n ds => .lst h (Rho.showOut n) (Dens.shows ds)
  | _, _, .frl h n ds => .frl h (Rho.showOut n) (Dens.shows ds)
  | _, _, .frlK h ds => .frlK h (Dens.shows ds)
  | _, _, .ty n => .ty n
  | _, _, .dic h n => .dic h (Rho.showOut n)
  | _, _, .rng h n => .rng h (Rho.showOut n)
  | _, _, .hid a => .hid a
  | _, _, .exc h n r => .exc h (Rho.showOut n) (Den.shows r)
  | _, _, .cell h => .cell h
theorem Dens.shows {ρ : Rho} {H : Hp} {p : Addr} : ∀ {vs : List V} {ds : List D}, Dens K ρ H vs ds → Dens K (ρ.shows p) H vs ds
  | _, _, .nil => .nil
  | _, _, .cons a b => .cons (Den.shows a) (Dens.shows b)
end
theorem Rel.hide {ρ : Rho} {h : Cells} {H : Hp} (R : Rel K ρ h H) {p : Addr} (o : HO) (hp : H p = none) : Rel K (ρ.hide p) h (upd H p o) := by
  have F := fut_hide (ρ := ρ) o hp (Rho.notIn (R.out hp)).1
  refine ⟨R.len, R.nd, fun a ha z => ?_, fun a ha => ?_, fun i a ds e1 e2 => ?_⟩
  · rcases List.mem_cons.mp z with y | y
    · subst y; exact R.out hp (.inl ha)
    · exact R.apart a ha y
  · rcases List.mem_cons.mp ha with z | z
    · subst z; exact ⟨_, upd_same⟩
    · exact (R.new o hp).hidden a z
  · obtain ⟨vs, q, dn⟩ := R.at_ i a ds e1 e2
    exact ⟨vs, by rw [upd_ne (ne_of_none q hp)]; exact q, dn.fut F⟩
theorem Rel.poke {ρ : Rho} {h : Cells} {H : Hp} (R : Rel K ρ h H) {p : Addr} (o : HO) (hp : p ∈ ρ.v) : Rel K ρ h (upd H p o) :=
  ⟨R.len, R.nd, R.apart, fun a ha => by
    by_cases z : a = p
    · subst z; exact ⟨_, upd_same⟩
    · obtain ⟨u, q⟩ := R.hidden a ha
      exact ⟨u, by rw [upd_ne z]; exact q⟩, fun i a ds e1 e2 => by
    obtain ⟨vs, q, dn⟩ := R.at_ i a ds e1 e2
    exact ⟨vs, by rw [upd_ne (fun z => R.apart a (List.mem_of_getElem? e1) (by rw [z]; exact hp))]; exact q, dn.poke hp⟩⟩
theorem Rel.shows {ρ : Rho} {h : Cells} {H : Hp} {p : Addr} (R : Rel K ρ h H) : Rel K (ρ.shows p) h H :=
  ⟨R.len, R.nd, fun a ha z => R.apart a ha (List.mem_filter.mp z).1, fun a ha => R.hidden a (List.mem_filter.mp ha).1, fun i a ds e1 e2 => by
    obtain ⟨vs, q, dn⟩ := R.at_ i a ds e1 e2
    exact ⟨vs, q, dn.shows⟩⟩
def wipeD (l : List (Option D)) (vs : List Nat) : List (Option D) := vs.foldr (fun v l => l.set v none) l
def mCompL (g : MG) (t : MT) (e : ME) (w : List (Option D)) : List D → Cells → Option (List D × Cells)
  | [], h => some ([], h)
  | d :: ds, h => (g d ⟨w, h⟩).bind fun m1 => (t m1).bind fun b => bif b.1 then (e ⟨m1.s, b.2⟩).bind fun y => (mCompL g t e w ds y.2).map fun r => (y.1 :: r.1, r.2) else mCompL g t e w ds b.2
def mComp (f : MI) (g : MG) (t : MT) (e : ME) (vs : List Nat) : ME := fun ms => (f ms).bind fun r => (mCompL g t e (wipeD ms.s vs) r.1 r.2).bind fun q => bif decide (q.1.length ≤ line) then some (.lst q.1, q.2) else none
def mYes : MT := fun ms => some (true, ms.h)
theorem rd_yes {σ : L2.St} {H : Hp} {Q : Bool → Hp → Prop} (h : rdT K mYes σ H Q) : tYes σ H Q := by
  obtain ⟨ρ, ms, b, h', R, S, e, q⟩ := h
  cases e
  exact q H ρ (.refl _ _) R
theorem pts_w {es : List Expr} {t t' : TT} (h : PTs X es t) (w : ∀ σ H Q, t' σ H Q → t σ H Q) : PTs X es t' := ⟨fun pins s σ H Q I q => h.run pins s σ H Q I (w σ H Q q)⟩
theorem tvs_nil : PTs X [] (rdT X.K mYes) := pts_w pts_nil fun _ _ _ => rd_yes
theorem tvs_one {c : Expr} {f : MT} (h : TV X c f) : PTs X [c] (rdT X.K f) := pts_one h
theorem rd_lc {f : MI} {g : MG} {tG : TG} {t : MT} {e : ME} {vs : List Nat} (hG : TgOk K tG g vs) {σ : L2.St} {H : Hp} {Q : VK} (h : rdE K (mComp f g t e vs) σ H Q) : tLc (rdI K f) tG (rdT K t) (rdE K e) vs σ H Q := by
  obtain ⟨ρ, ms, d, h', R, S, e0, q⟩ := h
  obtain ⟨⟨ds, h1⟩, e1, e2⟩ := Option.bind_eq_some_iff.mp e0
  obtain ⟨⟨out, h2⟩, e3, e4⟩ := Option.bind_eq_some_iff.mp e2
  obtain ⟨hz, e5⟩ := bif_some e4
  cases e5
  have hz' : out.length ≤ line := of_decide_eq_true hz
  refine ⟨ρ, ms, ds, h1, R, S, e1, fun J H1 ρ1 F1 R1 Y Ad hAd => ?_⟩
  have nAc : Ad ∉ ρ1.c := (Rho.notIn (R1.out hAd)).1
  refine ⟨fun i m H2 => m = ds.length - i ∧ i ≤ ds.length ∧ ∃ ρ2 hh acc dacc rest, Fut ρ1 H1 ρ2 H2 ∧ Rel K ρ2 hh H2 ∧ H2 Ad = some (.lst acc) ∧ Ad ∈ ρ2.v ∧ Dens K ρ2 H2 acc dacc ∧ mCompL g t e (wipeD ms.s vs) (ds.drop i) hh = some (rest, h2) ∧ dacc ++ rest = out,
    ⟨_, rfl, Nat.zero_le _, ρ1.hide Ad, h1, [], [], out, fut_hide _ hAd nAc, R1.hide _ hAd, upd_same, List.mem_cons_self, .nil, e3, rfl⟩, ?_⟩
  rintro i m H2 ⟨rfl, hi, ρ2, hh, acc, dacc, rest, F2, R2, hA, nA, dn, e6, e7⟩
  obtain ⟨ystop, ygo⟩ := Y i ρ2 H2 hh F2 R2
  by_cases hl : i < ds.length
  · right
    obtain ⟨g1, g2⟩ := ygo _ (List.getElem?_eq_getElem hl)
    rw [List.drop_eq_getElem_cons hl] at e6
    simp only [mCompL] at e6
    obtain ⟨m1, e8, e9⟩ := Option.bind_eq_some_iff.mp e6
    obtain ⟨⟨b, hb⟩, e10, e11⟩ := Option.bind_eq_some_iff.mp e9
    refine ⟨g1, fun H3 => ∃ ρ2 hh acc dacc rest, Fut ρ1 H1 ρ2 H3 ∧ Rel K ρ2 hh H3 ∧ H3 Ad = some (.lst acc) ∧ Ad ∈ ρ2.v ∧ Dens K ρ2 H3 acc dacc ∧ mCompL g t e (wipeD ms.s vs) (ds.drop (i + 1)) hh = some (rest, h2) ∧ dacc ++ rest = out, fun H' w => ⟨ds.length - (i + 1), by omega, rfl, hl, w⟩, fun x H' y => ?_⟩
    obtain ⟨Fy, Ry, dy⟩ := g2 x H' y
    have Fs : Fut ρ H ρ2 H' := F1.trans (F2.trans Fy)
    have nc2 : Ad ∉ ρ2.c := fun z => R2.apart Ad z nA
    have hA' := Fy.keep _ _ nc2 hA
    refine hG ρ2 ⟨wipeD ms.s vs, hh⟩ m1 H' x _ _ _ ((S.fut Fs).wipe vs) dy e8 fun σ3 hw S3 hh3 => ⟨?_, ?_⟩
    · apply List.ext_getElem?
      intro j
      have hw2 := congrArg (fun l => l[j]?) hw
      simp only [wipe_get, wipe_length] at hw2 ⊢
      by_cases hj : j ∈ vs
      · simpa [hj] using hw2
      · simpa [hj] using hw2
    · refine ⟨ρ2, m1, b, hb, by rw [hh3]; exact Ry, S3, e10, fun H4 ρ4 F4 R4 => ?_⟩
      have hA4 := F4.keep _ _ nc2 hA'
      have nA4 : Ad ∈ ρ4.v := F4.sub _ nA
      have nc4 : Ad ∉ ρ4.c := fun z => R4.apart Ad z nA4
      cases b with
      | false =>
        exact iteF ⟨ρ4, hb, acc, dacc, rest, (F2.trans Fy).trans F4, R4, hA4, nA4, (dn.fut Fy).fut F4, e11, e7⟩
      | true =>
        obtain ⟨⟨y, hy⟩, e12, e13⟩ := Option.bind_eq_some_iff.mp e11
        obtain ⟨⟨r2, h6⟩, e14, e15⟩ := Option.map_eq_some_iff.mp e13
        cases e15
        refine iteT ⟨ρ4, ⟨m1.s, hb⟩, y, hy, R4, S3.fut F4, e12, fun v H5 ρ5 F5 R5 dv => ?_⟩
        have hA5 := F5.keep _ _ nc4 hA4
        have nA5 : Ad ∈ ρ5.v := F5.sub _ nA4
        have F15 := ((F2.trans Fy).trans F4).trans F5
        have dn5 := (dn.fut (Fy.trans F4)).fut F5
        have hlen : acc.length < sizeLine := by
          rw [dn.length, ← line_eq]
          have : (dacc ++ y :: r2).length ≤ line := by rw [e7]; exact hz'
          simp at this
          omega
        refine ⟨acc, hA5, hlen, ρ5, hy, acc ++ [v], dacc ++ [y], r2, ?_, R5.poke _ nA5, upd_same, nA5, ?_, e14, by simpa using e7⟩
        · refine ⟨fun a o n e => ?_, F15.ext, F15.sub, F15.hid, F15.fresh⟩
          rw [upd_ne (ne_of_none e hAd)]
          exact F15.keep a o n e
        · exact Dens.append (dn5.poke nA5) (.cons (dv.poke nA5) .nil)
  · left
    have hie : i = ds.length := by omega
    rw [List.drop_eq_nil_of_le (Nat.le_of_not_lt hl)] at e6
    cases e6
    refine ⟨ystop (Nat.le_of_not_lt hl), ?_⟩
    rw [List.append_nil] at e7
    subst e7
    have F3 : Fut ρ1 H1 (ρ2.shows Ad) H2 := ⟨F2.keep, F2.ext, fun a ha => List.mem_filter.mpr ⟨F2.sub a ha, decide_eq_true fun z => by
      obtain ⟨o, q⟩ := R1.hidden a ha
      rw [z, hAd] at q; cases q⟩, fun a ha => F2.hid a (List.mem_filter.mp ha).1, F2.fresh⟩
    refine q _ H2 (ρ2.shows Ad) (F1.trans F3) R2.shows (.lst hA (Rho.out (fun z => R2.apart Ad z nA) fun z => ?_) dn.shows)
    have := of_decide_eq_true (List.mem_filter.mp z).2
    exact this rfl
/-- [e for tg in src if t] -/
theorem ev_lc {elt tg iter : Expr} {ifs : List Expr} {scope : Scope} {own : List (Str × Nat)} {vs : List Nat} {pos : Pos} {f : MI} {g : MG} {tG : TG} {t : MT} {e : ME} (hc : X.calm = true) (hN : X.N.Nodup) (hi : IV X tg iter f) (hG : TgOk X.K tG g vs) (ok : BlkOk X.N X.env.scope scope own) (hvs : own.map (·.2) = vs)
    (hg : ∀ (s : Shared) (H : Hp) (C : Addr) (cl : List (Str × Addr)) (fp : List Addr), PG (X.blk s H scope (compEnvC scope cl C X.env) fp) tg tG) (ht : ∀ (s : Shared) (H : Hp) (C : Addr) (cl : List (Str × Addr)) (fp : List Addr), PTs (X.blk s H scope (compEnvC scope cl C X.env) fp) ifs (rdT X.K t))
    (he : ∀ (s : Shared) (H : Hp) (C : Addr) (cl : List (Str × Addr)) (fp : List Addr), PE (X.blk s H scope (compEnvC scope cl C X.env) fp) elt (rdE X.K e)) (hs : ∀ x, foldedSetIterable iter X.env x = pure x := by intro _; rfl) :
    EV X (.ListComp elt [⟨tg, iter, ifs, 0⟩] scope pos) (mComp f g t e vs) := by
  subst hvs
  exact pe_w (pe_lc hc hN hi ok hg ht he hs) fun _ _ _ h => rd_lc hG h
theorem bv_setLc {y : Str} {py : Pos} {elt tg iter : Expr} {ifs : List Expr} {scope : Scope} {own : List (Str × Nat)} {vs : List Nat} {pos spos : Pos} {f : MI} {g : MG} {tG : TG} {t : MT} {e : ME} (i : Nat) (hc : X.calm = true) (hN : X.N.Nodup) (hi : IV X tg iter f) (hG : TgOk X.K tG g vs) (ok : BlkOk X.N X.env.scope scope own) (hvs : own.map (·.2) = vs)
    (hsw : swapsWith (.ListComp elt [⟨tg, iter, ifs, 0⟩] scope pos) (some (.Name y py)) spos.line X.env = pure true)
    (hg : ∀ (s : Shared) (H : Hp) (C : Addr) (cl : List (Str × Addr)) (fp : List Addr), PG (X.blk s H scope (compEnvC scope cl C X.env) fp) tg tG) (ht : ∀ (s : Shared) (H : Hp) (C : Addr) (cl : List (Str × Addr)) (fp : List Addr), PTs (X.blk s H scope (compEnvC scope cl C X.env) fp) ifs (rdT X.K t))
    (he : ∀ (s : Shared) (H : Hp) (C : Addr) (cl : List (Str × Addr)) (fp : List Addr), PE (X.blk s H scope (compEnvC scope cl C X.env) fp) elt (rdE X.K e)) (hy : X.N[i]? = some y := by rfl) (hyl : X.env.scope.names.lookup y = some .local := by rfl) (hs : ∀ x, foldedSetIterable iter X.env x = pure x := by intro _; rfl) :
    BV X (.Assign [.Name y py] (.ListComp elt [⟨tg, iter, ifs, 0⟩] scope pos) spos) (mAsg (mComp f g t e vs) (gN i)) := by
  subst hvs
  exact ps_w (ps_setLc hc hN hy hyl hsw hi ok hg ht he hs) fun D σ H h => rd_lc hG (by
    obtain ⟨ρ, ms, o, ms', R, S, e, q⟩ := h
    obtain ⟨r, e1, e2⟩ := Option.bind_eq_some_iff.mp e
    obtain ⟨d, h1⟩ := r
    cases e2
    exact ⟨ρ, ms, d, h1, R, S, e1, fun v H1 ρ1 F1 R1 dn => q H1 ρ1 F1 R1 _ ((S.fut F1).set i dn)⟩)
end
end Zm

set_option Elab.async false
set_option linter.all false
set_option maxRecDepth 100000
/-! Zj: more operators and walks. -/
namespace Zm
open PySem L2
section
variable {X : Cx} {K : PySem.W.Frag}

/-! ### x in a list or tuple of data -/
def rInP (K : PySem.W.Frag) (neg : Bool) : R2 := fun x y H Q => ∃ d q ds, DenP K H x d ∧ DenP K H y q ∧ (q = .list ds ∨ q = .tuple ds) ∧ SeqAt.shaped d = true ∧ SeqAt.shaped q = true ∧ Q (.bl (if neg then !ds.any fun z => PyData.eqv z d else ds.any fun z => PyData.eqv z d)) H
theorem room_in {A : Around} {d : PyData} {n : Nat} (h : SeqAt.shaped d = true) (hu : A.units + 65 < cLine) : A.units + 1 + min n d.depth < cLine := by
  have h1 := SeqAt.depth_of_shaped h
  have h2 : min n d.depth ≤ d.depth := Nat.min_le_right _ _
  omega
theorem op_inP (hu : X.A.units + 65 < cLine) : OpR X (compareOp .In) (rInP X.K false) := by
  intro pins s σ H x y v u Q I rx ry h
  obtain ⟨d, q, ds, dx, dy, hq, s1, s2, k⟩ := h
  obtain ⟨as, ra⟩ := reads_of I dx rx
  obtain ⟨bs, rb⟩ := reads_of I dy ry
  rcases hq with rfl | rfl
  · exact SeqAt.in_list_reads rb ra (SeqAt.canLay_of_shaped s2) (SeqAt.canLay_of_shaped s1) (room_in s1 hu) ⟨.bl _, H, I, rfl, k⟩
  · exact SeqAt.in_tuple_reads rb ra (SeqAt.canLay_of_shaped s2) (SeqAt.canLay_of_shaped s1) (room_in s1 hu) ⟨.bl _, H, I, rfl, k⟩
theorem op_notInP (hu : X.A.units + 65 < cLine) : OpR X (compareOp .NotIn) (rInP X.K true) := by
  intro pins s σ H x y v u Q I rx ry h
  obtain ⟨d, q, ds, dx, dy, hq, s1, s2, k⟩ := h
  obtain ⟨as, ra⟩ := reads_of I dx rx
  obtain ⟨bs, rb⟩ := reads_of I dy ry
  rcases hq with rfl | rfl
  · exact SeqAt.notIn_list_reads rb ra (SeqAt.canLay_of_shaped s2) (SeqAt.canLay_of_shaped s1) (room_in s1 hu) ⟨.bl _, H, I, rfl, k⟩
  · exact SeqAt.notIn_tuple_reads rb ra (SeqAt.canLay_of_shaped s2) (SeqAt.canLay_of_shaped s1) (room_in s1 hu) ⟨.bl _, H, I, rfl, k⟩
def itemsP : PyData → Option (List PyData)
  | .list ds => some ds
  | .tuple ds => some ds
  | _ => none
def oIn (neg : Bool) : Cells → D → D → Option Bool := fun h x y => (py h x).bind fun d => (py h y).bind fun q => (itemsP q).bind fun ds => bif SeqAt.shaped d && SeqAt.shaped q then some (if neg then !ds.any fun z => PyData.eqv z d else ds.any fun z => PyData.eqv z d) else none
theorem p_in {neg : Bool} : Op2 K (rInP K neg) (oB (oIn neg)) := by
  intro ρ h H x y dx dy d Q R a b e k
  simp only [oB, oIn] at e
  obtain ⟨z, e1, e2⟩ := Option.map_eq_some_iff.mp e
  obtain ⟨p, e3, e4⟩ := Option.bind_eq_some_iff.mp e1
  obtain ⟨q, e5, e6⟩ := Option.bind_eq_some_iff.mp e4
  obtain ⟨ds, e7, e8⟩ := Option.bind_eq_some_iff.mp e6
  obtain ⟨c, e9⟩ := bif_some e8
  subst e9
  subst e2
  rw [Bool.and_eq_true] at c
  refine ⟨p, q, ds, denP_py R a e3, denP_py R b e5, ?_, c.1, c.2, k _ _ ρ (.refl _ _) R (.bl _)⟩
  cases q <;> simp only [itemsP] at e7 <;> first | (cases e7; done) | (cases e7; first | exact .inl rfl | exact .inr rfl)

/-! ### is None -/
def isNonD : D → Bool
  | .non => true
  | _ => false
def oIsN : Cells → D → D → Option Bool
  | _, x, .non => some (isNonD x)
  | _, _, _ => none
theorem isN_of {ρ : Rho} {H : Hp} {v : V} {d : D} (a : Den K ρ H v d) : decide (v = .non) = isNonD d := by
  cases a <;> rfl
theorem p_isN : Op2 K (fun x y H Q => y = .non ∧ Q (.bl (decide (x = .non))) H) (oB oIsN) := by
  intro ρ h H x y dx dy d Q R a b e k
  cases dy <;> simp only [oB, oIsN, Option.map_none, Option.map_some] at e <;> try (cases e; done)
  cases e
  exact ⟨den_non b, by rw [isN_of a]; exact k _ _ ρ (.refl _ _) R (.bl _)⟩
def oNotN : Cells → D → D → Option Bool
  | _, x, .non => some !isNonD x
  | _, _, _ => none
theorem p_notN : Op2 K (fun x y H Q => y = .non ∧ Q (.bl (!decide (x = .non))) H) (oB oNotN) := by
  intro ρ h H x y dx dy d Q R a b e k
  cases dy <;> simp only [oB, oNotN, Option.map_none, Option.map_some] at e <;> try (cases e; done)
  cases e
  exact ⟨den_non b, by rw [isN_of a]; exact k _ _ ρ (.refl _ _) R (.bl _)⟩

/-! ### [..] * n, {}, str(n), max, min of a list -/
def oMulA : Cells → D → D → Option D
  | _, .lst ds, .int k => bif decide (-9223372036854775808 ≤ k ∧ k < 9223372036854775808 ∧ ds.length * k.toNat ≤ line) then some (.lst (List.replicate k.toNat ds).flatten) else none
  | h, x, y => oMul h x y
def rMulA : R2 := fun x y H Q => rI CMulW (fun i j => .int (i * j)) x y H Q ∨ rRep x y H Q
theorem or_mul : OpR X (binaryOp .Mult) rMulA := op_mulW.or op_rep
theorem dens_rep {ρ : Rho} {H : Hp} {vs : List V} {ds : List D} (a : Dens K ρ H vs ds) : ∀ n, Dens K ρ H (List.replicate n vs).flatten (List.replicate n ds).flatten
  | 0 => .nil
  | n + 1 => by
    rw [List.replicate_succ, List.replicate_succ, List.flatten_cons, List.flatten_cons]
    exact a.append (dens_rep a n)
theorem p_mulA : Op2 K rMulA oMulA := by
  intro ρ h H x y dx dy d Q R a b e k
  have gen : oMul h dx dy = some d → rMulA x y H Q := fun e => .inl (p_mul ρ h H x y dx dy d Q R a b e k)
  cases dx <;> cases dy <;> first
    | exact gen e
    | (simp only [oMulA] at e
       obtain ⟨c, e⟩ := bif_some e
       cases e
       obtain ⟨p, vs, rfl, hp, np, t1⟩ := den_len a
       have c' := of_decide_eq_true c
       exact .inr ⟨p, _, vs, rfl, den_int b, hp, by omega, by omega, by rw [t1.length, ← line_eq]; exact c'.2.2, fun o ho =>
         k _ _ ρ (fut_new _ ho) (R.new _ ho) (.lst upd_same (R.out ho) ((dens_rep t1 _).fut (fut_new _ ho)))⟩)
def mDic : ME := fun ms => some (.dic, ms.h)
theorem ev_dic {pos : Pos} : EV X (.Dict [] [] pos) mDic := by
  refine pe_w pe_dnewK fun σ H Q h => ?_
  obtain ⟨ρ, ms, d, h', R, S, e, q⟩ := h
  cases e
  exact fun p hp => q _ _ ρ (fut_new _ hp) (R.new _ hp) (.dic upd_same (R.out hp))
def oStr : Cells → List D → Option D
  | _, [.int i] => bif decide (i.natAbs.log2 < 1920) then some (.str (toString i)) else none
  | _, _ => none
theorem c_str : OpC K (fun xs H Q => ∃ i, xs = [.int i] ∧ i.natAbs.log2 < 1920 ∧ Q (.str (toString i)) H) oStr := by
  intro ρ h H xs dxs d Q R a e k
  unfold oStr at e
  split at e
  · obtain ⟨c, e⟩ := bif_some e
    cases e
    obtain ⟨x, rfl, a1⟩ := dens1 a
    exact ⟨_, by rw [den_int a1], of_decide_eq_true c, k _ _ ρ (.refl _ _) R (.str _)⟩
  · cases e
def maxI : Int → List Int → Int
  | a, [] => a
  | a, b :: r => maxI (if b > a then b else a) r
theorem maxI_ge : ∀ (r : List Int) (a : Int), a ≤ maxI a r ∧ ∀ y ∈ r, y ≤ maxI a r
  | [], a => ⟨Int.le_refl _, fun _ h => nomatch h⟩
  | b :: r, a => by
    obtain ⟨h1, h2⟩ := maxI_ge r (if b > a then b else a)
    have h3 : maxI a (b :: r) = maxI (if b > a then b else a) r := rfl
    rw [h3]
    refine ⟨?_, fun y hy => ?_⟩
    · split at h1 <;> split <;> omega
    · rcases List.mem_cons.mp hy with e | hy
      · subst e
        split at h1 <;> split <;> omega
      · exact h2 y hy
theorem maxI_mem : ∀ (r : List Int) (a : Int), maxI a r ∈ a :: r
  | [], a => List.mem_cons_self
  | b :: r, a => by
    have h := maxI_mem r (if b > a then b else a)
    have h3 : maxI a (b :: r) = maxI (if b > a then b else a) r := rfl
    rw [h3]
    rcases List.mem_cons.mp h with e | h
    · rw [e]; split <;> simp
    · simp [h]
def oMaxL : Cells → List D → Option D
  | _, [d] => (asL d).bind fun ds => (asInts ds).bind fun ns => match ns with
    | [] => none
    | n :: r => some (.int (maxI n r))
  | _, _ => none
theorem c_maxL : OpC K (rMax K) oMaxL := by
  intro ρ h H xs dxs d Q R a e k
  unfold oMaxL at e
  split at e
  · obtain ⟨ds, e1, e2⟩ := Option.bind_eq_some_iff.mp e
    obtain ⟨ns, e3, e4⟩ := Option.bind_eq_some_iff.mp e2
    obtain ⟨x, rfl, a1⟩ := dens1 a
    obtain ⟨p, vs, rfl, hp⟩ := den_lf a1 e1
    obtain ⟨s1, t1⟩ := hp ρ H (.refl _ _)
    rw [dens_ints t1 e3] at s1
    cases ns with
    | nil => cases e4
    | cons n r =>
      cases e4
      refine ⟨p, n :: r, rfl, s1, by simp, fun m hm hg => ?_⟩
      have : m = maxI n r := by
        obtain ⟨g1, g2⟩ := maxI_ge r n
        have g3 := hg _ (maxI_mem r n)
        rcases List.mem_cons.mp hm with e | hm
        · omega
        · have := g2 m hm; omega
      subst this
      exact k _ _ ρ (.refl _ _) R (.int _)
  · cases e

/-! ### enumerate, a range by steps -/
def enumD : Nat → List D → List D
  | _, [] => []
  | i, d :: ds => .tup [.int i, d] :: enumD (i + 1) ds
theorem enum_get : ∀ (ds : List D) (i j : Nat), (enumD i ds)[j]? = ds[j]?.map fun d => .tup [.int (i + j : Nat), d]
  | [], _, _ => by simp [enumD]
  | d :: ds, i, 0 => by simp [enumD]
  | d :: ds, i, j + 1 => by
    have h := enum_get ds (i + 1) j
    simp only [enumD, List.getElem?_cons_succ]
    rw [h]
    have e : i + 1 + j = i + (j + 1) := by omega
    rw [e]
theorem enum_len : ∀ (ds : List D) (i : Nat), (enumD i ds).length = ds.length
  | [], _ => rfl
  | _ :: ds, i => congrArg Nat.succ (enum_len ds (i + 1))
def iEn (f : MA) : MI := fun ms => (f ms).bind fun r => match r.1 with
  | [d] => (asL d).map fun ds => (enumD 0 ds, r.2)
  | _ => none
theorem iv_enum {e : Expr} {f : MA} {p pos tpos : Pos} {elts : List Expr} {kk : Nat} (hm : X.mg "enumerate" = none) (ha : AV X [e] f) (hg : Gl X "enumerate" := by rfl) (hs : starEach [e] X.env = [(false, eval e X.env)] := by rfl) :
    IV X (.Tuple elts kk tpos) (.Call (.Name "enumerate" p) [e] [] pos) (iEn f) := by
  refine pi_w (pi_enum hg hm ha hs) fun σ H Rk h => ?_
  obtain ⟨ρ, ms, ds, h', R, S, e, q⟩ := h
  obtain ⟨⟨xs, h1⟩, e1, e2⟩ := Option.bind_eq_some_iff.mp e
  dsimp only at e2
  split at e2
  · rename_i d
    obtain ⟨es, e3, e4⟩ := Option.map_eq_some_iff.mp e2
    cases e4
    refine ⟨ρ, ms, _, _, R, S, e1, fun us H1 ρ1 F1 R1 dn => ?_⟩
    obtain ⟨x, rfl, dn1⟩ := dens1 dn
    obtain ⟨a, vs, rfl, hq⟩ := den_lf dn1 e3
    refine ⟨a, vs, rfl, (hq ρ1 H1 (.refl _ _)).1, q _ _ ρ1 F1 R1 fun i ρ2 H2 h2 F2 R2 => ⟨fun hl => ⟨vs, (hq ρ2 H2 F2).1, by rw [(hq ρ2 H2 F2).2.length, ← enum_len es 0]; exact hl⟩, fun d hd => ?_⟩⟩
    rw [enum_get] at hd
    obtain ⟨d0, hd0, hd1⟩ := Option.map_eq_some_iff.mp hd
    obtain ⟨x, hx, dx⟩ := (hq ρ2 H2 F2).2.get hd0
    refine ⟨⟨vs, x, (hq ρ2 H2 F2).1, hx⟩, fun y H' hy => ?_⟩
    obtain ⟨T, z, rfl, hT, rfl, hz⟩ := hy
    have hz' := hz vs (hq ρ2 _ F2).1
    rw [hx] at hz'
    cases hz'
    subst hd1
    refine ⟨fut_new _ hT, R2.new _ hT, .tup (.inl upd_same) (R2.out hT) (.cons ?_ (.cons (dx.fut (fut_new _ hT)) .nil))⟩
    rw [Nat.zero_add]
    exact .int _
  · cases e2
def rngC (i j c : Int) : Nat := (Builtin.Range.rangeSize i j c).toNat
def rgOk (i j c : Int) : Bool := decide (c ≠ 0 ∧ c.natAbs < 1073741824) && Builtin.Range.small i j c && decide (0 ≤ Builtin.Range.rangeSize i j c)
def intsC (lo c : Int) (n : Nat) : List D := (List.range n).map fun (i : Nat) => D.int (lo + (i : Int) * c)
def iR3 (f : MA) : MI := fun ms => (f ms).bind fun r => match r.1 with
  | [.int i, .int j, .int c] => bif rgOk i j c then some (intsC i c (rngC i j c), r.2) else none
  | _ => none
theorem iv_range3 {tg a b c : Expr} {p pos : Pos} {f : MA} (hm : X.mg "range" = none) (ha : AV X [a, b, c] f) (hg : Gl X "range" := by rfl)
    (hs : starEach [a, b, c] X.env = (false, eval a X.env) :: starEach [b, c] X.env := by rfl) (hpl : (backTo pos (starEach [b, c] X.env)).any (·.1) = false := by rfl) : IV X tg (.Call (.Name "range" p) [a, b, c] [] pos) (iR3 f) := by
  refine pi_w (pi_range3 hg hm ha hs hpl) fun σ H Rk h => ?_
  obtain ⟨ρ, ms, ds, h', R, S, e, q⟩ := h
  obtain ⟨⟨xs, h1⟩, e1, e2⟩ := Option.bind_eq_some_iff.mp e
  dsimp only at e2
  split at e2
  · rename_i i j c
    obtain ⟨hb, e3⟩ := bif_some e2
    cases e3
    refine ⟨ρ, ms, _, _, R, S, e1, fun vs H1 ρ1 F1 R1 dn => ?_⟩
    cases dn with
    | cons d1 dn =>
      obtain ⟨y, z, rfl, d2, d3⟩ := dens2 dn
      simp only [rgOk, Bool.and_eq_true, decide_eq_true_eq] at hb
      refine ⟨i, j, c, rngC i j c, by rw [den_int d1, den_int d2, den_int d3], ⟨hb.1.1.1, hb.1.1.2, hb.1.2, by unfold rngC; omega⟩, q _ _ ρ1 F1 R1 ?_⟩
      intro k ρ2 H2 h2 F2 R2
      refine ⟨fun hl => show rngC i j c ≤ k by simpa [intsC] using hl, fun d hd => ?_⟩
      have hi : k < rngC i j c := by
        obtain ⟨hl, _⟩ := List.getElem?_eq_some_iff.mp hd
        simpa [intsC] using hl
      refine ⟨hi, fun x H' hy => ?_⟩
      obtain ⟨rfl, rfl⟩ := hy
      simp [intsC, hi] at hd
      subst hd
      exact ⟨.refl _ _, R2, .int _⟩
  · cases e2
end

/-! ### keywords in any order -/
def permL {α : Type} (perm : List Nat) (ws : List α) : List α := if ws.length = perm.length then perm.filterMap (ws[·]?) else []
def permK {α : Type} (perm : List Nat) : List α → List α → List α
  | [], ws => permL perm ws
  | _, _ => []
theorem perm_vals {xs : List V} {us : List Value} (r : Vals xs us) : ∀ perm : List Nat, Vals (perm.filterMap (xs[·]?)) (perm.filterMap (us[·]?))
  | [] => .nil
  | i :: p => by
    cases e : xs[i]? with
    | none => rw [List.filterMap_cons_none e, List.filterMap_cons_none (r.none_of e)]; exact perm_vals r p
    | some x =>
      obtain ⟨u, e2, ru⟩ := r.get e
      rw [List.filterMap_cons_some e, List.filterMap_cons_some e2]
      exact .cons ru (perm_vals r p)
theorem Dens.noneOf {K : PySem.W.Frag} {ρ : Rho} {H : Hp} {xs : List V} {ds : List D} (r : Dens K ρ H xs ds) {i : Nat} (e : ds[i]? = none) : xs[i]? = none := by
  rw [List.getElem?_eq_none_iff] at e ⊢
  rw [r.length]; exact e
theorem perm_dens {K : PySem.W.Frag} {ρ : Rho} {H : Hp} {xs : List V} {ds : List D} (r : Dens K ρ H xs ds) : ∀ perm : List Nat, Dens K ρ H (perm.filterMap (xs[·]?)) (perm.filterMap (ds[·]?))
  | [] => .nil
  | i :: p => by
    cases e : ds[i]? with
    | none => rw [List.filterMap_cons_none e, List.filterMap_cons_none (r.noneOf e)]; exact perm_dens r p
    | some x =>
      obtain ⟨u, e2, ru⟩ := r.get e
      rw [List.filterMap_cons_some e, List.filterMap_cons_some e2]
      exact .cons ru (perm_dens r p)
theorem perm_rel (perm : List Nat) {vs : List V} {us : List Value} {zs : List V} {ws : List Value} (r : Vals vs us) (rz : Vals zs ws) : Vals (permK perm vs zs) (permK perm us ws) := by
  cases r with
  | nil =>
    show Vals (permL perm zs) (permL perm ws)
    unfold permL
    rw [rz.length]
    split
    · exact perm_vals rz perm
    · exact .nil
  | cons _ _ => exact .nil
theorem perm_gd (perm : List Nat) : GD (permK perm) (permK perm) := by
  intro K ρ H vs ws ds es a b
  cases a with
  | nil =>
    show Dens K ρ H (permL perm ws) (permL perm es)
    unfold permL
    rw [b.length]
    split
    · exact perm_dens b perm
    · exact .nil
  | cons _ _ => exact .nil
/-- a def as its callers know it -/
structure Knows (P : Program) (w : World) (K : PySem.W.Frag) (mg : Str → Option Value) (base : Heap) (lv : Nat) (x : Str) (n : Nat) (F : MF) : Prop where
  ex : ∃ f fd ps, ps.length = n ∧ FnG P w K mg base CX0 lv f fd ps (spF K n F) ∧ mg x = some (.ref f) ∧ PySem.W.keepIn K (.ref f) = true ∧ Binds K fd ps []
structure KnowsK (P : Program) (w : World) (K : PySem.W.Frag) (mg : Str → Option Value) (base : Heap) (lv : Nat) (x : Str) (n : Nat) (F : MF) (ks : List Str) (perm : List Nat) : Prop where
  ex : ∃ f fd ps, ps.length = n ∧ FnG P w K mg base CX0 lv f fd ps (spF K n F) ∧ mg x = some (.ref f) ∧ PySem.W.keepIn K (.ref f) = true ∧ KBinds K fd ps ks (permK perm) (permK perm)
section
variable {X : Cx} {k : Nat} {x : Str} {p pos : Pos} {e : Expr} {es : List Expr} {kws : List Keyword} {n : Nat} {F : MF} {fa : MA} {ks : List Str} {perm : List Nat}
theorem ev_def (Kn : Knows X.prog X.w X.K X.mg X.base k x n F) (hr : RoomG k X.A) (ha : AV X (e :: es) fa) (hg : Gl X x := by rfl) (hdb : (x == ("__debug__" : Str)) = false := by decide) (he : starEach (e :: es) X.env = (false, eval e X.env) :: starEach es X.env := by rfl) (hpl : (backTo pos (starEach es X.env)).any (·.1) = false := by rfl) :
    EV X (.Call (.Name x p) (e :: es) [] pos) (mCall n F fa) := by
  obtain ⟨f, fd, ps, hn, G, hm, hk, hb⟩ := Kn.ex
  exact ev_call G hr hm hk hb ha hg hdb he hpl
theorem ev_defK (Kn : KnowsK X.prog X.w X.K X.mg X.base k x n F ks perm) (hr : RoomG k X.A) (hkw : KV' X kws fa) (hg : Gl X x := by rfl) (hall : (backToKw pos (keywordEach kws X.env)).all (·.1.isSome) = true := by rfl) (hks : (backToKw pos (keywordEach kws X.env)).filterMap (·.1) = ks := by rfl)
    (hdb : (x == ("__debug__" : Str)) = false := by decide)
    (hpl : ((backTo pos (starEach [] X.env)).any (·.1) || (backToKw pos (keywordEach kws X.env)).any (·.1.isNone)) = false := by rfl) : EV X (.Call (.Name x p) [] kws pos) (mCallK n (permK perm) F mNil fa) := by
  obtain ⟨f, fd, ps, hn, G, hm, hk, hb⟩ := Kn.ex
  exact ev_callK0 G hr hm hk hb (perm_gd perm) hkw hg hall hks hdb hpl
end
/-- the def of the text that stands at its name -/
structure Stands (K : PySem.W.Frag) (mg : Str → Option Value) (x : Str) (st : Stmt) : Prop where
  ex : ∃ f fd, Fun K x x st f fd ∧ mg x = some (.ref f)
end Zm
namespace Zm
open PySem L2
section
variable {X : Cx} {K : PySem.W.Frag}
/-- a list or a tuple, walked -/
def asLT : D → Option (List D)
  | .lst ds => some ds
  | .frl ds => some ds
  | .tup ds => some ds
  | _ => none
def iS (f : ME) : MI := fun ms => (f ms).bind fun r => (asLT r.1).map fun ds => (ds, r.2)
theorem pi_or {tg iter : Expr} {t t' : TI} (h : PI X tg iter t) (h' : PI X tg iter t') : PI X tg iter fun σ H R => t σ H R ∨ t' σ H R := ⟨fun pins s σ H R I q => q.elim (h.run pins s σ H R I) (h'.run pins s σ H R I)⟩
theorem iv_seq {tg l : Expr} {f : ME} (h : EV X l f) : IV X tg l (iS f) := by
  refine pi_w (pi_or (iv_list (tg := tg) h) (iv_tup (tg := tg) h)) fun σ H Rk q => ?_
  obtain ⟨ρ, ms, ds, h', R, S, e, q⟩ := q
  obtain ⟨⟨d, h1⟩, e1, e2⟩ := Option.bind_eq_some_iff.mp e
  obtain ⟨es, e3, e4⟩ := Option.map_eq_some_iff.mp e2
  cases e4
  cases d <;> simp only [asLT] at e3 <;> try (cases e3; done)
  · cases e3
    exact .inr ⟨ρ, ms, _, _, R, S, by simp [iT, e1, asT], q⟩
  · cases e3
    exact .inl ⟨ρ, ms, _, _, R, S, by simp [iL, e1, asL], q⟩
  · cases e3
    exact .inl ⟨ρ, ms, _, _, R, S, by simp [iL, e1, asL], q⟩
end
end Zm
namespace Zm
theorem kw_len {perm : List Nat} {us ws : List PySem.Value} (hl : (permK perm us ws).length = perm.length) (h0 : 0 < perm.length) : us = [] ∧ ws.length = perm.length := by
  cases us with
  | nil =>
    refine ⟨rfl, ?_⟩
    have h : (permL perm ws).length = perm.length := hl
    unfold permL at h
    split at h
    · assumption
    · simp at h; omega
  | cons a b => 
    have h : ([] : List PySem.Value).length = perm.length := hl
    simp at h; omega
/-- the size of the int in a slot -/
def slI (ms : MS) (i : Nat) : Nat := match ms.s[i]? with
  | some (some (.int a)) => a.natAbs
  | _ => 0
end Zm

set_option Elab.async false
set_option linter.all false
set_option maxRecDepth 100000
/-! Zk: chains of four, the greatest common divisor. -/
namespace Zm
open PySem L2 PyProof PyProof.Rows
variable {X : Cx}
def tCh3 (r1 r2 r3 : R2) (ta tb tc td : TE) : TE := fun σ H Q => ta σ H fun x H1 => tb σ H1 fun y H2 => r1 x y H2 fun z H3 => ∃ k, z = .bl k ∧
  (if k = true then tc σ H3 fun w H4 => r2 y w H4 fun z2 H5 => ∃ k2, z2 = .bl k2 ∧ (if k2 = true then td σ H5 fun v H6 => r3 w v H6 Q else Q (.bl false) H5) else Q (.bl false) H3)
theorem pe_ch3 {a b c d : Expr} {pos : Pos} {ta tb tc td : TE} {op1 op2 op3 : CmpOp} {r1 r2 r3 : R2} (o1 : OpR X (compareOp op1) r1) (o2 : OpR X (compareOp op2) r2) (o3 : OpR X (compareOp op3) r3) (ha : PE X a ta) (hb : PE X b tb) (hc : PE X c tc) (hd : PE X d td)
    (hm : lastMarks [op1, op2, op3] [b, c, d] = false := by with_unfolding_all rfl) : PE X (.Compare a [op1, op2, op3] [b, c, d] pos) (tCh3 r1 r2 r3 ta tb tc td) := by
  refine ⟨fun pins s σ H Q I h => ?_⟩
  refine Compare_chain (thn (ha.run pins s σ H _ I h) fun v s1 ⟨x, H1, I1, e1, q1⟩ => chain_link (thn (hb.run pins s1 σ H1 _ I1 q1) fun u s2 ⟨y, H2, I2, e2, q2⟩ =>
    thn (o1 pins s2 σ H2 x y v u _ I2 e1 e2 q2) fun t s3 ⟨z, H3, I3, e3, k, ek, q3⟩ => ?_)) hm
  subst ek
  cases e3
  refine wpAny_truthy_bool ?_
  cases k with
  | false => exact ite_ff ⟨.bl false, H3, I3, rfl, q3⟩
  | true =>
    refine ite_tt (chain_link (thn (hc.run pins s3 σ H3 _ I3 q3) fun w s4 ⟨z4, H4, I4, e4, q4⟩ => thn (o2 pins s4 σ H4 y z4 u w _ I4 e2 e4 q4) fun t5 s5 ⟨z5, H5, I5, e5, k5, ek5, q5⟩ => ?_))
    subst ek5
    cases e5
    refine wpAny_truthy_bool ?_
    cases k5 with
    | false => exact ite_ff ⟨.bl false, H5, I5, rfl, q5⟩
    | true => exact ite_tt (chain_last (thn (hd.run pins s5 σ H5 _ I5 q5) fun w6 s6 ⟨z6, H6, I6, e6, q6⟩ => o3 pins s6 σ H6 z4 z6 w w6 Q I6 e4 e6 q6))
theorem pt_ch3 {a b c d : Expr} {pos : Pos} {ta tb tc td : TE} {op1 op2 op3 : CmpOp} {r1 r2 r3 : R2} (o1 : OpR X (compareOp op1) r1) (o2 : OpR X (compareOp op2) r2) (o3 : OpR X (compareOp op3) r3) (ha : PE X a ta) (hb : PE X b tb) (hc : PE X c tc) (hd : PE X d td)
    (hm : lastMarks [op1, op2, op3] [b, c, d] = false := by with_unfolding_all rfl) : PT X (.Compare a [op1, op2, op3] [b, c, d] pos) (tTest (tCh3 r1 r2 r3 ta tb tc td)) := by
  refine ⟨fun pins s σ H Q I h => ?_⟩
  refine isTrue_chain (thn (ha.run pins s σ H _ I h) fun v s1 ⟨x, H1, I1, e1, q1⟩ => test_link (thn (hb.run pins s1 σ H1 _ I1 q1) fun u s2 ⟨y, H2, I2, e2, q2⟩ =>
    thn (o1 pins s2 σ H2 x y v u _ I2 e1 e2 q2) fun t s3 ⟨z, H3, I3, e3, k, ek, q3⟩ => ?_)) hm
  subst ek
  cases e3
  refine wpAny_truthy_bool ?_
  cases k with
  | false =>
    obtain ⟨k', e', q'⟩ := q3
    cases e'
    exact ite_ff ⟨H3, I3, q'⟩
  | true =>
    refine ite_tt (test_link (thn (hc.run pins s3 σ H3 _ I3 q3) fun w s4 ⟨z4, H4, I4, e4, q4⟩ => thn (o2 pins s4 σ H4 y z4 u w _ I4 e2 e4 q4) fun t5 s5 ⟨z5, H5, I5, e5, k5, ek5, q5⟩ => ?_))
    subst ek5
    cases e5
    refine wpAny_truthy_bool ?_
    cases k5 with
    | false =>
      obtain ⟨k', e', q'⟩ := q5
      cases e'
      exact ite_ff ⟨H5, I5, q'⟩
    | true =>
      refine ite_tt (test_last (thn (hd.run pins s5 σ H5 _ I5 q5) fun w6 s6 ⟨z6, H6, I6, e6, q6⟩ => thn (o3 pins s6 σ H6 z4 z6 w w6 _ I6 e4 e6 q6) fun t7 s7 ⟨z7, H7, I7, e7, k7, ek7, q7⟩ => ?_))
      subst ek7
      cases e7
      exact wpAny_truthy_bool ⟨H7, I7, q7⟩
def mChain3 (o1 o2 o3 : Cells → D → D → Option Bool) (f g k l : ME) : ME := fun ms => (f ms).bind fun r => (g { ms with h := r.2 }).bind fun s => (o1 s.2 r.1 s.1).bind fun b =>
  bif b then (k { ms with h := s.2 }).bind fun t => (o2 t.2 s.1 t.1).bind fun c => bif c then (l { ms with h := t.2 }).bind fun u => (o3 u.2 t.1 u.1).map fun d => (.bl d, u.2) else some (.bl false, t.2) else some (.bl false, s.2)
theorem rd_ch3 {K : PySem.W.Frag} {r1 r2 r3 : R2} {o1 o2 o3 : Cells → D → D → Option Bool} (p1 : Op2 K r1 (oB o1)) (p2 : Op2 K r2 (oB o2)) (p3 : Op2 K r3 (oB o3)) {f g k l : ME} {σ : L2.St} {H : Hp} {Q : VK}
    (h : rdE K (mChain3 o1 o2 o3 f g k l) σ H Q) : tCh3 r1 r2 r3 (rdE K f) (rdE K g) (rdE K k) (rdE K l) σ H Q := by
  obtain ⟨ρ, ms, d, h', R, S, e, q⟩ := h
  obtain ⟨⟨dx, h1⟩, e1, e2⟩ := Option.bind_eq_some_iff.mp e
  obtain ⟨⟨dy, h2⟩, e3, e4⟩ := Option.bind_eq_some_iff.mp e2
  obtain ⟨b', e5, e6⟩ := Option.bind_eq_some_iff.mp e4
  refine ⟨ρ, ms, dx, h1, R, S, e1, fun x H1 ρ1 F1 R1 d1 => ?_⟩
  refine ⟨ρ1, { ms with h := h1 }, dy, h2, R1, S.fut F1, e3, fun y H2 ρ2 F2 R2 d2 => ?_⟩
  refine p1 ρ2 h2 H2 x y dx dy (.bl b') _ R2 (d1.fut F2) d2 (by simp [oB, show o1 h2 dx dy = some b' from e5]) fun v H3 ρ3 F3 R3 d3 => ⟨b', den_bl d3, ?_⟩
  have F03 := (F1.trans F2).trans F3
  cases b' with
  | false => cases e6; exact q _ H3 ρ3 F03 R3 (.bl false)
  | true =>
    obtain ⟨⟨dz, h4⟩, e7, e8⟩ := Option.bind_eq_some_iff.mp e6
    obtain ⟨c', e9, e10⟩ := Option.bind_eq_some_iff.mp e8
    refine iteT ⟨ρ3, { ms with h := h2 }, dz, h4, R3, S.fut F03, e7, fun z H4 ρ4 F4 R4 d4 => ?_⟩
    refine p2 ρ4 h4 H4 y z dy dz (.bl c') _ R4 ((d2.fut F3).fut F4) d4 (by simp [oB, show o2 h4 dy dz = some c' from e9]) fun v H5 ρ5 F5 R5 d5 => ⟨c', den_bl d5, ?_⟩
    have F05 := (F03.trans F4).trans F5
    cases c' with
    | false => cases e10; exact q _ H5 ρ5 F05 R5 (.bl false)
    | true =>
      obtain ⟨⟨dw, h6⟩, e11, e12⟩ := Option.bind_eq_some_iff.mp e10
      obtain ⟨c7, e13, e14⟩ := Option.map_eq_some_iff.mp e12
      cases e14
      refine iteT ⟨ρ5, { ms with h := h4 }, dw, _, R5, S.fut F05, e11, fun w H6 ρ6 F6 R6 d6 => ?_⟩
      exact p3 ρ6 _ H6 z w dz dw (.bl c7) _ R6 ((d4.fut F5).fut F6) d6 (by simp [oB, show o3 _ dz dw = some c7 from e13]) fun v H7 ρ7 F7 R7 d7 => q v H7 ρ7 ((F05.trans F6).trans F7) R7 d7
theorem ev_chain3 {a b c d : Expr} {pos : Pos} {op1 op2 op3 : CmpOp} {r1 r2 r3 : R2} {o1 o2 o3 : Cells → D → D → Option Bool} {f g k l : ME} (ho1 : OpR X (compareOp op1) r1) (p1 : Op2 X.K r1 (oB o1)) (ho2 : OpR X (compareOp op2) r2) (p2 : Op2 X.K r2 (oB o2)) (ho3 : OpR X (compareOp op3) r3) (p3 : Op2 X.K r3 (oB o3))
    (ha : EV X a f) (hb : EV X b g) (hc : EV X c k) (hd : EV X d l) (hm : lastMarks [op1, op2, op3] [b, c, d] = false := by with_unfolding_all rfl) : EV X (.Compare a [op1, op2, op3] [b, c, d] pos) (mChain3 o1 o2 o3 f g k l) :=
  pe_w (pe_ch3 ho1 ho2 ho3 ha hb hc hd hm) fun _ _ _ h => rd_ch3 p1 p2 p3 h
theorem tv_chain3 {a b c d : Expr} {pos : Pos} {op1 op2 op3 : CmpOp} {r1 r2 r3 : R2} {o1 o2 o3 : Cells → D → D → Option Bool} {f g k l : ME} (ho1 : OpR X (compareOp op1) r1) (p1 : Op2 X.K r1 (oB o1)) (ho2 : OpR X (compareOp op2) r2) (p2 : Op2 X.K r2 (oB o2)) (ho3 : OpR X (compareOp op3) r3) (p3 : Op2 X.K r3 (oB o3))
    (ha : EV X a f) (hb : EV X b g) (hc : EV X c k) (hd : EV X d l) (hm : lastMarks [op1, op2, op3] [b, c, d] = false := by with_unfolding_all rfl) : TV X (.Compare a [op1, op2, op3] [b, c, d] pos) (tB' (mChain3 o1 o2 o3 f g k l)) :=
  pt_w (pt_ch3 ho1 ho2 ho3 ha hb hc hd hm) fun σ H Q h => by
    refine rd_ch3 p1 p2 p3 ?_
    obtain ⟨ρ, ms, bb, h', R, S, ee, q⟩ := h
    obtain ⟨⟨d, h''⟩, e, ex⟩ := Option.bind_eq_some_iff.mp ee
    obtain ⟨bq, ey, ez⟩ := Option.map_eq_some_iff.mp ex
    cases ez
    refine ⟨ρ, ms, d, _, R, S, e, fun v H1 ρ1 F1 R1 d1 => ?_⟩
    cases d <;> simp only [asB] at ey <;> try (cases ey; done)
    cases ey
    exact ⟨_, den_bl d1, q H1 ρ1 F1 R1⟩
end Zm

set_option Elab.async false
set_option linter.all false
set_option maxRecDepth 100000
/-! Zl: the greatest common divisor of three. -/
namespace PySem.W
open PySem PySem.Calls
theorem args_gcd3 (a b c : Value) : argsOk "math.gcd" ⟨[a, b, c], []⟩ := by unfold argsOk; kernel_rfl
theorem run_gcd3 (a : Int) (t : Tok) (b : Int) (u : Tok) (c : Int) (v : Tok) :
    Gives (Builtin.«math.gcd» ⟨[.int a t, .int b u, .int c v], []⟩) (.int (((((Nat.gcd 0 a.natAbs).gcd b.natAbs).gcd c.natAbs : Nat) : Int))) :=
  .of_wp fun M A E s Q h => by obtain ⟨hp, g, d, tk, os⟩ := s; wp_walk; exact ⟨_, rfl, h⟩
end PySem.W
namespace PySem.W
open PySem PySem.Calls
section
variable {prog : Program} {w : World} {A : Around} {E : Value → Shared → Prop} {s : Shared} {Q : Value → Shared → Prop} {a b c : Int} {t u v : Tok}
theorem mg_gcd3 (h : Q (.int (((a.natAbs.gcd b.natAbs).gcd c.natAbs : Nat) : Int) s.toks) { s with toks := s.toks + 1 }) :
    wpAny (model prog w) A (call (.builtin "math.gcd") [.int a t, .int b u, .int c v]) Q E s := by
  have g := run_gcd3 a t b u c v
  rw [Nat.gcd_zero_left] at g
  exact call_function_meets MGF.kind_gcd MGF.plain_gcd MGF.entry_gcd (args_gcd3 _ _ _) g.meets h
end
end PySem.W
namespace Zm
open PySem L2
section
variable {X : Cx} {K : PySem.W.Frag}
def rG3 : List V → Hp → VK → Prop := fun vs H Q => ∃ a b c : Int, vs = [.int a, .int b, .int c] ∧ Q (.int (((a.natAbs.gcd b.natAbs).gcd c.natAbs : Nat) : Int)) H
theorem cr_gcd3 : CallR X (.builtin "math.gcd") rG3 := by
  intro pins s σ H vs us Q I r h
  obtain ⟨a, b, c, rfl, q⟩ := h
  cases r with
  | cons r1 r => cases r with
    | cons r2 r => cases r with
      | cons r3 r =>
        cases r
        obtain ⟨t, rfl⟩ := r1
        obtain ⟨u, rfl⟩ := r2
        obtain ⟨v, rfl⟩ := r3
        exact PySem.W.mg_gcd3 ⟨.int _, H, I.tok _, ⟨_, rfl⟩, q⟩
def oGcd3 : Cells → List D → Option D
  | _, [.int a, .int b, .int c] => some (.int (((a.natAbs.gcd b.natAbs).gcd c.natAbs : Nat) : Int))
  | _, _ => none
theorem c_gcd3 : OpC K rG3 oGcd3 := by
  intro ρ h H xs dxs d Q R a e k
  unfold oGcd3 at e
  split at e
  · cases e
    cases a with
    | cons a1 a => cases a with
      | cons a2 a => cases a with
        | cons a3 a =>
          cases a
          exact ⟨_, _, _, by rw [den_int a1, den_int a2, den_int a3], k _ _ ρ (.refl _ _) R (.int _)⟩
  · cases e
def oGcd2 : Cells → List D → Option D
  | _, [.int a, .int b] => some (.int ((a.natAbs.gcd b.natAbs : Nat) : Int))
  | _, _ => none
theorem c_gcd2 : OpC K rGcd oGcd2 := by
  intro ρ h H xs dxs d Q R a e k
  unfold oGcd2 at e
  split at e
  · cases e
    cases a with
    | cons a1 a => cases a with
      | cons a2 a =>
        cases a
        exact ⟨_, _, by rw [den_int a1, den_int a2], k _ _ ρ (.refl _ _) R (.int _)⟩
  · cases e
theorem ev_callF {id : String} {r : List V → Hp → VK → Prop} {o : Cells → List D → Option D} {x : Str} {e : Expr} {es : List Expr} {f : MA} {p pos : Pos} (hc : CallR X (.builtin id) r) (po : OpC X.K r o) (hm : X.mg x = some (.builtin id)) (ha : AV X (e :: es) f) (hg : Gl X x := by rfl) (hdb : (x == ("__debug__" : Str)) = false := by decide)
    (he : starEach (e :: es) X.env = (false, eval e X.env) :: starEach es X.env := by rfl) (hpl : (backTo pos (starEach es X.env)).any (·.1) = false := by rfl) : EV X (.Call (.Name x p) (e :: es) [] pos) (mCB o f) :=
  pe_w (pe_callBfun hc hg hm ha hdb he hpl) fun _ _ _ => rd_cb po
/-- an int within a tuple of a slot -/
def slT (ms : MS) (i j : Nat) : Nat := match ms.s[i]? with
  | some (some (.tup ds)) => (match ds[j]? with
    | some (.int x) => x.toNat
    | _ => 0)
  | _ => 0
end
end Zm

set_option Elab.async false
set_option linter.all false
set_option maxRecDepth 100000
/-! Zn: sorted, of rows of ints. -/
namespace SrtW
open PySem PySem.Spec PyProof.Rows SrtO
/-- the order of rows -/
def lexL : List Int → List Int → Bool
  | [], [] => false
  | [], _ :: _ => true
  | _ :: _, [] => false
  | x :: xs, y :: ys => bif decide (x = y) then lexL xs ys else decide (x < y)
theorem lexL_irr : ∀ x, lexL x x = false
  | [] => rfl
  | x :: xs => by simp [lexL, lexL_irr xs]
theorem lexL_asym : ∀ x y, lexL x y = true → lexL y x = false
  | [], [], h => by simp [lexL] at h
  | [], _ :: _, _ => rfl
  | _ :: _, [], h => by simp [lexL] at h
  | x :: xs, y :: ys, h => by
    unfold lexL at h ⊢
    by_cases e : x = y
    · subst e
      simp only [decide_true, cond_true] at h ⊢
      exact lexL_asym xs ys h
    · have e' : ¬ y = x := fun z => e z.symm
      simp only [e, e', decide_false, cond_false, decide_eq_true_eq, decide_eq_false_iff_not] at h ⊢
      omega
theorem lexL_tr : ∀ x y z, lexL x y = false → lexL y z = false → lexL x z = false
  | [], [], _, _, h => h
  | [], _ :: _, _, h, _ => by simp [lexL] at h
  | _ :: _, [], [], _, _ => rfl
  | _ :: _, [], _ :: _, _, h => by simp [lexL] at h
  | _ :: _, _ :: _, [], _, _ => rfl
  | x :: xs, y :: ys, z :: zs, h1, h2 => by
    unfold lexL at h1 h2 ⊢
    by_cases e : x = y
    · by_cases f : y = z
      · subst e f
        simp only [decide_true, cond_true] at h1 h2 ⊢
        exact lexL_tr xs ys zs h1 h2
      · subst e
        simp only [f, decide_false, cond_false, decide_eq_false_iff_not] at h2 ⊢
        exact h2
    · by_cases f : y = z
      · subst f
        simp only [e, decide_false, cond_false, decide_eq_false_iff_not] at h1 ⊢
        exact h1
      · simp only [e, f, decide_false, cond_false, decide_eq_false_iff_not] at h1 h2
        have g : ¬ x = z := by omega
        simp only [g, decide_false, cond_false, decide_eq_false_iff_not]
        omega
theorem lexL_tot : ∀ x y, lexL x y = false → lexL y x = false → x = y
  | [], [], _, _ => rfl
  | [], _ :: _, h, _ => by simp [lexL] at h
  | _ :: _, [], _, h => by simp [lexL] at h
  | x :: xs, y :: ys, h1, h2 => by
    unfold lexL at h1 h2
    by_cases e : x = y
    · subst e
      simp only [decide_true, cond_true] at h1 h2
      rw [lexL_tot xs ys h1 h2]
    · have e' : ¬ y = x := fun z => e z.symm
      simp only [e, e', decide_false, cond_false, decide_eq_false_iff_not] at h1 h2
      omega
theorem swoL {α : Type} (k : α → List Int) : Swo fun v u => lexL (k v) (k u) := ⟨fun x y => lexL_asym _ _, fun x y z a b => lexL_tr _ _ _ b a⟩
/-- sorting rows, plainly -/
def putL (x : List Int) : List (List Int) → List (List Int)
  | [] => [x]
  | y :: r => bif lexL y x then y :: putL x r else x :: y :: r
def sortL : List (List Int) → List (List Int)
  | [] => []
  | x :: r => putL x (sortL r)
abbrev Up (l : List (List Int)) : Prop := l.Pairwise fun a b => lexL b a = false
theorem putL_perm (x : List Int) : ∀ l, (putL x l).Perm (x :: l)
  | [] => .refl _
  | y :: r => by
    unfold putL
    cases lexL y x
    · exact .refl _
    · exact ((putL_perm x r).cons y).trans (.swap ..)
theorem sortL_perm : ∀ l, (sortL l).Perm l
  | [] => .refl _
  | x :: r => (putL_perm x (sortL r)).trans ((sortL_perm r).cons x)
theorem putL_up (x : List Int) : ∀ l, Up l → Up (putL x l)
  | [], _ => List.pairwise_singleton _ _
  | y :: r, h => by
    obtain ⟨h1, h2⟩ := List.pairwise_cons.mp h
    unfold putL
    cases e : lexL y x
    · refine List.pairwise_cons.mpr ⟨fun z hz => ?_, h⟩
      rcases List.mem_cons.mp hz with rfl | hz
      · exact e
      · exact lexL_tr z y x (h1 z hz) e
    · refine List.pairwise_cons.mpr ⟨fun z hz => ?_, putL_up x r h2⟩
      rcases List.mem_cons.mp ((putL_perm x r).mem_iff.mp hz) with rfl | hz
      · exact lexL_asym y z e
      · exact h1 z hz
theorem sortL_up : ∀ l, Up (sortL l)
  | [] => List.Pairwise.nil
  | x :: r => putL_up x _ (sortL_up r)
theorem up_uniq : ∀ {l m : List (List Int)}, Up l → Up m → l.Perm m → l = m
  | [], m, _, _, p => (List.Perm.eq_nil p.symm).symm
  | x :: l, [], _, _, p => absurd p.length_eq (by simp)
  | x :: l, y :: m, hl, hm, p => by
    obtain ⟨a1, a2⟩ := List.pairwise_cons.mp hl
    obtain ⟨b1, b2⟩ := List.pairwise_cons.mp hm
    have e : x = y := by
      refine lexL_tot x y ?_ ?_
      · rcases List.mem_cons.mp (p.mem_iff.mp (List.mem_cons_self (a := x) (l := l))) with e | hx
        · rw [e]; exact lexL_irr y
        · exact b1 x hx
      · rcases List.mem_cons.mp (p.mem_iff.mpr (List.mem_cons_self (a := y) (l := m))) with e | hy
        · rw [e]; exact lexL_irr x
        · exact a1 y hy
    subst e
    rw [up_uniq a2 b2 p.cons_inv]
theorem sortL_of {l m : List (List Int)} (h : Up l) (p : l.Perm m) : sortL m = l := (up_uniq h (sortL_up m) (p.trans (sortL_perm m).symm)).symm
theorem sortL_perm2 {l m : List (List Int)} (p : l.Perm m) : sortL l = sortL m := up_uniq (sortL_up l) (sortL_up m) ((sortL_perm l).trans (p.trans (sortL_perm m).symm))

/-! ### in the machine -/
section
variable {prog : Program} {w : World} {A : Around} {E : Value → Shared → Prop} {s : Shared}
theorem row_lex {Q : Bool → Shared → Prop} {b : Bool} : ∀ {xs ys : List Value} {ns ms : List Int} (i : Nat), IntsAre xs ns → IntsAre ys ms → Q (lexL ns ms) s →
    PySem.W.KatLex prog w A b (decide (ns.length < ms.length)) Q (xs.zip ys) i s
  | _, _, _, _, i, .nil, .nil, h => PySem.W.kat_nil (by simpa [lexL] using h)
  | _, _, _, _, i, .nil, .cons m u hy, h => PySem.W.kat_nil (by simpa [lexL] using h)
  | _, _, _, _, i, .cons n t hx, .nil, h => PySem.W.kat_nil (by simpa [lexL] using h)
  | _, _, _, _, i, @IntsAre.cons n t xs ns hx, @IntsAre.cons m u ys ms hy, h => by
    have e : decide ((n :: ns).length < (m :: ms).length) = decide (ns.length < ms.length) := decide_eq_decide.mpr (by simp)
    rw [e]
    show PySem.W.KatLex prog w A b _ Q ((Value.int n t, Value.int m u) :: xs.zip ys) i s
    refine PySem.W.kat_cons (wpAny_eqBool_int ?_)
    unfold lexL at h
    by_cases q : n = m
    · rw [decide_eq_true q, cond_true] at h
      rw [show (n == m) = true from beq_iff_eq.mpr q]
      exact PySem.W.kat_yes (row_lex (i + 1) hx hy h)
    · rw [decide_eq_false q, cond_false] at h
      rw [show (n == m) = false from beq_eq_false_iff_ne.mpr q]
      exact PySem.W.kat_no (TS.oneLt_ints _ h)
def Rows (h : Heap) (k : Value → List Int) (vs : List Value) : Prop := ∀ v ∈ vs, TS.TupInts h v (k v) ∧ k v ≠ []
theorem Rows.fut {h h' : Heap} {k : Value → List Int} {vs : List Value} (x : Rows h k vs) (keep : ∀ b o, h.get? b = some o → o.cls = .type "tuple" → h'.get? b = some o) : Rows h' k vs := fun v m => ⟨(x v m).1.keeps keep, (x v m).2⟩
theorem row_cmp {vs : List Value} {k : Value → List Int} (hp : Rows s.heap k vs) : Cmp prog w A s (tuples' true) (fun p => p.1 ∈ vs) (lt2 fun v u => lexL (k v) (k u)) := by
  intro p q hm hm'
  obtain ⟨⟨a, xs, e1, ⟨o, ho, _, n, hd⟩, i1⟩, _⟩ := hp _ hm
  obtain ⟨⟨c, ys, e2, ⟨o', ho', _, n', hd'⟩, i2⟩, _⟩ := hp _ hm'
  show wpAny (model prog w) A (keyLt' (tuples' true) p.1 q.1) (fun r s' => s' = s ∧ r = lexL (k p.1) (k q.1)) (fun _ _ => False) s
  generalize k p.1 = ns at i1 ⊢
  generalize k q.1 = ms at i2 ⊢
  rw [e1, e2]
  refine PySem.W.kat_lt ho hd ho' hd' ?_
  have z : decide (xs.size < ys.size) = decide (ns.length < ms.length) := by
    have l1 := i1.length
    have l2 := i2.length
    rw [Array.length_toList] at l1 l2
    rw [l1, l2]
  rw [z]
  exact row_lex (Q := fun r s' => s' = s ∧ r = lexL ns ms) 0 i1 i2 ⟨rfl, rfl⟩
theorem row_firsts {h : Heap} {k : Value → List Int} : ∀ vs : List Value, Rows h k vs → ∃ fs, PySem.W.KatTups h vs fs ∧ fs.length = vs.length ∧ ∀ f ∈ fs, ∃ n t, f = Value.int n t
  | [], _ => ⟨[], .nil, rfl, fun _ hf => nomatch hf⟩
  | v :: vs, x => by
    obtain ⟨fs, k1, k2, k3⟩ := row_firsts vs fun u m => x u (List.mem_cons_of_mem _ m)
    obtain ⟨⟨a, xs, e1, ⟨o, ho, hc, n, hd⟩, i1⟩, ne⟩ := x v List.mem_cons_self
    generalize k v = ns at i1 ne
    obtain ⟨L⟩ := xs
    cases i1 with
    | nil => exact absurd rfl ne
    | @cons m t us ns i1 =>
      subst e1
      refine ⟨.int m t :: fs, .cons ho hc hd (by simp) k1, by simp [k2], fun f hf => ?_⟩
      rcases List.mem_cons.mp hf with rfl | hf
      · exact ⟨m, t, rfl⟩
      · exact k3 f hf
theorem row_sortable {a : Addr} {vs : List Value} {k : Value → List Int} (h0 : 0 < vs.length) (hp : Rows s.heap k vs) (ha : ∀ o, s.heap.get? a = some o → o.cls ≠ .type "tuple") : SortableO prog w A s a vs fun v u => lexL (k v) (k u) := by
  intro h1 keep
  have hq : Rows h1 k vs := hp.fut fun b o e c => keep b o (fun z => ha o (z ▸ e) c) e
  obtain ⟨fs, k1, k2, k3⟩ := row_firsts vs hq
  refine ⟨tuples' true, fun Q E q => PySem.W.kat_kind (T := Value.type "int") k1 (by omega) (fun f hf => ?_) (by rfl) ?_, row_cmp hq⟩
  · obtain ⟨n, t, e⟩ := k3 f hf
    subst e
    exact PySem.W.Looks.now
  · have e : (Value.type "int" != Value.type "tuple") = true := by decide +kernel
    rw [e]
    exact q
end
end SrtW
namespace Zm
open PySem L2 PySem.Spec PyProof.Rows SrtW
section
variable {X : Cx} {K : PySem.W.Frag}
inductive RowsV (K : PySem.W.Frag) (H : Hp) : List V → List (List Int) → Prop
  | nil : RowsV K H [] []
  | cons {t ns xs rows} : SqT K H t (ns.map V.int) → RowsV K H xs rows → RowsV K H (.ref t :: xs) (ns :: rows)
def rSortL (K : PySem.W.Frag) : List V → Hp → VK → Prop := fun vs H Q => ∃ a xs rows, vs = [V.ref a] ∧ SqL K H a xs ∧ RowsV K H xs rows ∧ (∀ r ∈ rows, r ≠ []) ∧
  ∀ (zs : List (V × List Int)) p, zs.Perm (xs.zip rows) → Up (zs.map (·.2)) → H p = none → Q (.ref p) (upd H p (.lst (zs.map (·.1))))
theorem rowsV_refs {H : Hp} : ∀ {xs : List V} {rows : List (List Int)}, RowsV K H xs rows → ∀ x ∈ xs, ∃ a, x = V.ref a
  | _, _, .nil, _, h => nomatch h
  | _, _, .cons _ r, x, h => by
    rcases List.mem_cons.mp h with rfl | h
    · exact ⟨_, rfl⟩
    · exact rowsV_refs r x h
theorem rowsV_raw {pins : List (Addr × Obj)} {s : Shared} {σ : L2.St} {H : Hp} (I : Inv X pins σ H s) : ∀ {xs : List V} {rows : List (List Int)} {us : List Value}, RowsV X.K H xs rows → Vals xs us →
    xs.zip rows = us.map (fun u => (backV u, TS.intsOf s.heap u)) ∧ ∀ u ∈ us, TS.TupInts s.heap u (TS.intsOf s.heap u) ∧ TS.intsOf s.heap u ∈ rows
  | _, _, _, .nil, .nil => ⟨rfl, fun _ h => nomatch h⟩
  | _, _, u :: us, @RowsV.cons _ _ t ns xs rows hT r, .cons v vs => by
    obtain ⟨h1, h2⟩ := rowsV_raw I r vs
    obtain ⟨its, rv, tu, _⟩ := I.tuple hT
    cases v
    have z : TS.TupInts s.heap (.ref t) ns := ⟨t, its.toArray, rfl, tu, by simpa using rv.ints⟩
    refine ⟨?_, fun u hu => ?_⟩
    · rw [List.zip_cons_cons, List.map_cons, h1, z.ints]
      rfl
    · rcases List.mem_cons.mp hu with rfl | hu
      · rw [z.ints]
        exact ⟨z, List.mem_cons_self⟩
      · exact ⟨(h2 u hu).1, List.mem_cons_of_mem _ (h2 u hu).2⟩
theorem cr_sortL : CallR X (.builtin "sorted") (rSortL X.K) := by
  intro pins s σ H vs us Q I r h
  obtain ⟨a, xs, rows, rfl, hs, hr, hne, q⟩ := h
  obtain ⟨its, rv, hl, hz⟩ := I.list hs
  obtain ⟨u, rfl, ru⟩ := vals1 r
  obtain rfl : u = Value.ref a := ru
  obtain ⟨e1, e2⟩ := refs_back rv (rowsV_refs hr)
  obtain ⟨z1, z2⟩ := rowsV_raw I hr rv
  have hz' : its.length ≤ sizeLine := by rw [← rv.length]; exact hz
  have hR : Rows s.heap (TS.intsOf s.heap) its := fun v m => ⟨(z2 v m).1, hne _ (z2 v m).2⟩
  refine SrtO.sorted_ord (swoL (TS.intsOf s.heap)) hl.isList hz' (fun h2 h₁ c hc kk => ?_) fun out hs hb => ?_
  · refine row_sortable (s := { s with heap := h₁ }) (by omega) (hR.fut fun b o e _ => (kk b o e).2) fun o e f => ?_
    have g : some o = some (seqObj "list" its.toArray 0) := e.symm.trans hc
    cases g
    exact absurd (Value.type.inj f) (by decide)
  · have h3 : ∀ u ∈ out, ∃ a, u = Value.ref a := fun u hu => e2 u (hb.perm.mem_iff.mp hu)
    obtain ⟨n, hn⟩ := sortedAll_at s.heap its out.toArray
    have q' := q (out.map fun u => (backV u, TS.intsOf s.heap u)) (s.heap.objs.size + 1) (by rw [z1]; exact hb.perm.map _) (by
      rw [List.map_map]
      exact List.pairwise_map.mpr hs) (I.hok.fresh (Nat.le_succ _))
    rw [List.map_map] at q'
    refine ⟨.ref _, upd H (s.heap.objs.size + 1) (.lst (out.map backV)), I.laid (t' := s.toks) (fun b o e => sortedAll_old e) (Nat.le_succ _) ⟨?_, out, n, vals_back h3, hn⟩, rfl, q'⟩
    rw [List.length_map, hb.perm.length_eq]
    exact hz'
/-! ### over plain data -/
def rowI : D → Option (List Int)
  | .tup (d :: ds) => asInts (d :: ds)
  | _ => none
def rowsI : List D → Option (List (List Int))
  | [] => some []
  | d :: ds => (rowI d).bind fun r => (rowsI ds).map fun rs => r :: rs
abbrev rowD (r : List Int) : D := .tup (r.map D.int)
theorem rowI_mk {n : Int} {r : List Int} : rowI (rowD (n :: r)) = some (n :: r) := by
  have h : ∀ l : List Int, asInts (l.map D.int) = some l := fun l => by
    induction l with
    | nil => rfl
    | cons a l ih => simp only [List.map_cons, asInts, asInt, Option.bind_some, ih, Option.map_some]
  exact h (n :: r)
theorem rowI_ne {d : D} {r : List Int} (h : rowI d = some r) : r ≠ [] := by
  unfold rowI at h
  split at h
  · simp only [asInts] at h
    obtain ⟨i, _, h⟩ := Option.bind_eq_some_iff.mp h
    obtain ⟨j, _, h⟩ := Option.map_eq_some_iff.mp h
    subst h
    simp
  · cases h
theorem asInts_mk : ∀ {ds : List D} {r : List Int}, asInts ds = some r → ds = r.map D.int
  | [], r, h => by simp only [asInts] at h; cases h; rfl
  | d :: ds, r, h => by
    simp only [asInts] at h
    obtain ⟨i, h1, h⟩ := Option.bind_eq_some_iff.mp h
    obtain ⟨j, h2, h⟩ := Option.map_eq_some_iff.mp h
    subst h
    rw [asInts_mk h2]
    cases d <;> simp [asInt] at h1
    subst h1
    rfl
theorem rowI_den {ρ : Rho} {H : Hp} {x : V} {d : D} {r : List Int} (dn : Den K ρ H x d) (h : rowI d = some r) : (∃ t, x = .ref t ∧ SqT K H t (r.map V.int)) ∧ d = rowD r := by
  unfold rowI at h
  split at h
  · obtain ⟨a, vs, rfl, h1, h2⟩ := den_tup dn
    rw [dens_ints h2 h] at h1
    exact ⟨⟨a, rfl, h1⟩, by rw [asInts_mk h]⟩
  · cases h
theorem rowsI_den {ρ : Rho} {H : Hp} : ∀ {xs : List V} {ds : List D} {rows : List (List Int)}, Dens K ρ H xs ds → rowsI ds = some rows → RowsV K H xs rows ∧ (∀ r ∈ rows, r ≠ []) ∧ ∀ z ∈ xs.zip rows, Den K ρ H z.1 (rowD z.2)
  | _, [], rows, .nil, h => by
    simp only [rowsI] at h
    cases h
    exact ⟨.nil, fun _ h => absurd h List.not_mem_nil, fun _ h => absurd h List.not_mem_nil⟩
  | _, d :: ds, rows, .cons a b, h => by
    simp only [rowsI] at h
    obtain ⟨i, h1, h⟩ := Option.bind_eq_some_iff.mp h
    obtain ⟨j, h2, h⟩ := Option.map_eq_some_iff.mp h
    subst h
    obtain ⟨⟨t, rfl, g1⟩, g2⟩ := rowI_den a h1
    obtain ⟨f1, f2, f3⟩ := rowsI_den b h2
    refine ⟨.cons g1 f1, fun r hr => ?_, fun z hz => ?_⟩
    · rcases List.mem_cons.mp hr with rfl | hr
      · exact rowI_ne h1
      · exact f2 r hr
    · rw [List.zip_cons_cons] at hz
      rcases List.mem_cons.mp hz with rfl | hz
      · exact g2 ▸ a
      · exact f3 z hz
def sortD (ds : List D) : Option D := (rowsI ds).map fun rs => .lst ((sortL rs).map rowD)
def oSorted : Cells → List D → Option D
  | _, [.lst ds] => sortD ds
  | h, [.cell i] => (h[i]?).bind sortD
  | _, _ => none
theorem dens_rows {ρ : Rho} {H : Hp} : ∀ {zs : List (V × List Int)}, (∀ z ∈ zs, Den K ρ H z.1 (rowD z.2)) → Dens K ρ H (zs.map (·.1)) ((zs.map (·.2)).map rowD)
  | [], _ => .nil
  | z :: zs, h => .cons (h z List.mem_cons_self) (dens_rows fun y m => h y (List.mem_cons_of_mem _ m))
theorem zip_snd_perm {α β : Type} {zs : List (α × β)} {xs : List α} {ys : List β} (p : zs.Perm (xs.zip ys)) (l : ys.length ≤ xs.length) : (zs.map (·.2)).Perm ys := by
  have := p.map (·.2)
  rwa [List.map_snd_zip l] at this
theorem rowsV_len {H : Hp} : ∀ {xs : List V} {rows : List (List Int)}, RowsV K H xs rows → rows.length = xs.length
  | _, _, .nil => rfl
  | _, _, .cons _ r => by rw [List.length_cons, List.length_cons, rowsV_len r]
theorem sortD_run {ρ : Rho} {h : Cells} {H : Hp} {p : Addr} {xs : List V} {ds : List D} {d : D} {Q : VK} (R : Rel K ρ h H) (hs : SqL K H p xs) (a : Dens K ρ H xs ds) (e : sortD ds = some d)
    (k : ∀ v H' ρ', Fut ρ H ρ' H' → Rel K ρ' h H' → Den K ρ' H' v d → Q v H') : rSortL K [.ref p] H Q := by
  obtain ⟨rows, e1, e2⟩ := Option.map_eq_some_iff.mp e
  subst e2
  obtain ⟨f1, f2, f3⟩ := rowsI_den a e1
  refine ⟨p, xs, rows, rfl, hs, f1, f2, fun zs q pm up ho => ?_⟩
  have e3 : sortL rows = zs.map (·.2) := sortL_of up (zip_snd_perm pm (Nat.le_of_eq (rowsV_len f1)))
  refine k _ _ ρ (fut_new _ ho) (R.new _ ho) (.lst upd_same (R.out ho) ?_)
  rw [e3]
  exact (dens_rows fun z m => f3 z (pm.mem_iff.mp m)).fut (fut_new _ ho)
theorem c_sorted : OpC K (rSortL K) oSorted := by
  intro ρ h H xs dxs d Q R a e k
  unfold oSorted at e
  split at e
  · obtain ⟨x, rfl, a1⟩ := dens1 a
    obtain ⟨p, vs, rfl, hp⟩ := den_lst a1
    obtain ⟨s1, t1⟩ := hp ρ H (.refl _ _)
    exact sortD_run R s1 t1 e k
  · obtain ⟨x, rfl, a1⟩ := dens1 a
    obtain ⟨ds, e1, e2⟩ := Option.bind_eq_some_iff.mp e
    cases a1 with
    | cell c =>
      obtain ⟨vs, q1, q2⟩ := R.at_ _ _ _ c e1
      exact sortD_run R (SqL.of q1) q2 e2 k
  · cases e
end
end Zm

set_option Elab.async false
set_option linter.all false
set_option maxRecDepth 100000
/-! Zo: x[::-1] of lists and tuples. -/
namespace HT
open PySem PyProof.Rows
section
variable {prog : Program} {w : World} {A : Around} {E : Value → Shared → Prop} {s : Shared}
theorem back_places (n : Nat) : Builtin.Slice.slicePlaces ((n : Int) - 1) (-1) (-1) = n := by
  unfold Builtin.Slice.slicePlaces
  rw [if_neg (by omega)]
  by_cases h : (-1 : Int) < (n : Int) - 1
  · rw [if_pos h]
    have e : -(-1 : Int) = 1 := by omega
    rw [e, Int.ediv_one]
    omega
  · rw [if_neg h]
    omega
theorem back_adjust (n : Nat) : Builtin.Slice.sliceAdjust none none (-1) (n : Int) = ((n : Int) - 1, -1) := by
  unfold Builtin.Slice.sliceAdjust
  have h : (-1 : Int) < 0 := by omega
  simp only [h, if_true]
theorem back_applied {sl : Addr} {vl vu vs : Value} {n : Nat} {Q : Int × Int × Nat → Shared → Prop} (hs : s.heap.IsSliceOf sl vl vu vs) (pl : IsPart vl none) (pu : IsPart vu none) (ps : IsPart vs (some (-1)))
    (h : Q ((n : Int) - 1, -1, n) s) : wpAny (model prog w) A (Builtin.Slice.sliceApplied (.ref sl) (pure (n : Int))) Q E s := by
  obtain ⟨os, h1, h2, h3⟩ := id hs
  unfold Builtin.Slice.sliceApplied Builtin.Slice.sliceFields
  refine wpAny_bind (wpAny_bind (wpAny_field h1 h3 (x := vl) rfl (wpAny_bind (wpAny_field h1 h3 (x := vu) rfl (wpAny_bind (wpAny_field h1 h3 (x := vs) rfl (wpAny_pure ?_)))))))
  refine wpAny_bind (slicePart_ ps ?_)
  show wpAny _ _ (if ((-1 : Int) == 0) = true then _ else _) _ _ s
  rw [if_neg (by decide)]
  refine wpAny_bind (slicePart_ pl (wpAny_bind (slicePart_ pu (wpAny_bind (wpAny_pure ?_)))))
  show wpAny _ _ (match Builtin.Slice.sliceAdjust none none (-1) (n : Int) with | (lo, hi) => pure (lo, (-1 : Int), Builtin.Slice.slicePlaces lo hi (-1))) _ _ s
  rw [back_adjust]
  show wpAny _ _ (pure ((n : Int) - 1, (-1 : Int), Builtin.Slice.slicePlaces ((n : Int) - 1) (-1) (-1))) _ _ s
  rw [back_places]
  exact wpAny_pure h
theorem fm_congr {α β : Type} {f g : α → Option β} : ∀ {l : List α}, (∀ x ∈ l, f x = g x) → l.filterMap f = l.filterMap g
  | [], _ => rfl
  | x :: l, h => by
    rw [List.filterMap_cons, List.filterMap_cons, h x List.mem_cons_self, fm_congr fun y m => h y (List.mem_cons_of_mem _ m)]
theorem back_pick (xs : Array Value) : ((List.range xs.size).filterMap fun (k : Nat) => xs[((xs.size : Int) - 1 + (k : Int) * -1).toNat]?).toArray = xs.toList.reverse.toArray := by
  congr 1
  obtain ⟨l⟩ := xs
  show ((List.range l.length).filterMap fun (k : Nat) => l.toArray[((l.length : Int) - 1 + (k : Int) * -1).toNat]?) = l.reverse
  have e : (List.range l.length).filterMap (fun (k : Nat) => l.toArray[((l.length : Int) - 1 + (k : Int) * -1).toNat]?) = (List.range l.reverse.length).filterMap (fun k => l.reverse[k]?) := by
    rw [List.length_reverse]
    refine fm_congr fun k hk => ?_
    have hk' := List.mem_range.mp hk
    rw [List.getElem?_reverse hk']
    have : ((l.length : Int) - 1 + (k : Int) * -1).toNat = l.length - 1 - k := by omega
    rw [this, List.getElem?_toArray]
  rw [e]
  have := PySem.W.krv_all l.reverse.toArray
  simpa using this
theorem getItem_tuple_back {t sl : Addr} {items : Array Value} {vl vu vs : Value} {Q : Value → Shared → Prop} (ht : IsTup s.heap t items) (hs : s.heap.IsSliceOf sl vl vu vs) (pl : IsPart vl none) (pu : IsPart vu none) (ps : IsPart vs (some (-1)))
    (h : Q (.ref s.heap.objs.size) { s with heap := s.heap.push { cls := .type "tuple", data := .seq items.toList.reverse.toArray } }) (hsz : items.size ≤ sizeLine) : wpAny (model prog w) A (getItem (.ref t) (.ref sl)) Q E s := by
  have hk : sizeOk (.seq items.toList.reverse.toArray) := by
    show items.toList.reverse.toArray.size ≤ sizeLine
    simpa using hsz
  obtain ⟨os, h1, h2, h3⟩ := id hs
  have hTs : s.TypeIs (.ref sl) "slice" := ⟨os, h1, h2⟩
  unfold getItem
  try with_reducible refine wpAny_holding ?_
  first | refine wpAny_bind (wpAny_pure ?_) | skip
  refine wpAny_bind (wpAny_sequenceKey ht.typeIs (by decide) (wpAny_bind (wpAny_callSpecial?_slot (name := Str.ofString "__getitem__") ht.typeIs PyProof.Rows.slot_tuple_getitem (wpAny_call_entry PyProof.Rows.slot_tuple_getitem ht.typeIs entry_tuple_getitem ?_ (args_tuple_getitem _ _)))))
  show wpAny _ _ (Builtin.Tuple.tupleItemsOf (.ref t) >>= _) _ _ s
  refine wpAny_bind (tupleItemsOf_ ht (wpAny_bind (wpAny_typeOf hTs ?_)))
  rw [if_pos (by decide)]
  refine wpAny_bind (back_applied hs pl pu ps ?_)
  show wpAny _ _ (if (((items.size : Int) - 1 == 0 && (-1 : Int) == 1 && items.size == items.size)) = true then _ else _) _ _ s
  rw [if_neg (by simp), back_pick]
  first
    | exact wpAny_bind (m := Builtin.Tuple.tupleExact _) (wpAny_newObj_type (wpAny_pure ⟨_, rfl, wpAny_pure h⟩) hk)
    | exact wpAny_bind (m := Builtin.Tuple.tupleExact _) (wpAny_newObj_type (wpAny_bind (wpAny_pure (wpAny_pure ⟨_, rfl, wpAny_pure h⟩))) hk)
    | exact wpAny_bind (wpAny_bind (m := Builtin.Tuple.tupleExact _) (wpAny_newObj_type (wpAny_pure (wpAny_pure ⟨_, rfl, wpAny_pure h⟩)) hk))
    | exact wpAny_bind (wpAny_bind (m := Builtin.Tuple.tupleExact _) (wpAny_newObj_type (wpAny_pure ⟨_, rfl, wpAny_pure h⟩) hk))
end
end HT
namespace Zm
open PySem L2 PySem.Spec PyProof.Rows
section
variable {X : Cx} {K : PySem.W.Frag}
def tRevA (K : PySem.W.Frag) (te : TE) : TE := fun σ H Q => te σ H fun x H1 => ∃ a xs, x = .ref a ∧ ((SqL K H1 a xs ∧ ∀ p, H1 p = none → Q (.ref p) (upd H1 p (.lst xs.reverse))) ∨ (SqT K H1 a xs ∧ ∀ p, H1 p = none → Q (.ref p) (upd H1 p (.tup xs.reverse))))
theorem pe_revA {e : Expr} {te : TE} {k : Nat} {p1 p2 p3 pos : Pos} (he : PE X e te) : PE X (.Subscript e (.Slice none none (some (.UnaryOp .USub (.Constant (.int 1) k p1) p2)) p3) pos) (tRevA X.K te) := by
  refine ⟨fun pins s σ H Q I h => Subscript_ (thn (he.run pins s σ H _ I h) fun v s1 ⟨x, H1, I1, r1, q1⟩ => ?_)⟩
  obtain ⟨a, xs, ex, q⟩ := q1
  subst ex
  cases r1
  have hst : PO X (some (.UnaryOp .USub (.Constant (.int 1) k p1) p2)) (tPart (tUn (rU fun i => .int (-i)) (tC (.int 1)))) := po_some (pe_un un_neg pe_int)
  refine wpAny_Slice (thn (po_none.run pins s1 σ H1 (fun o G => o = none ∧ G = H1) I1 ⟨rfl, rfl⟩) fun vl s2 ⟨l, H2, I2, pl, el, e2⟩ => thn (po_none.run pins s2 σ H2 (fun o G => o = none ∧ G = H2) I2 ⟨rfl, rfl⟩) fun vu s3 ⟨u, H3, I3, pu, eu, e3⟩ =>
    thn (hst.run pins s3 σ H3 (fun o G => o = some (-1) ∧ G = H3) I3 ⟨1, rfl, -1, rfl, rfl, rfl⟩) fun vs s4 ⟨o, H4, I4, ps, eo, e4⟩ => ?_)
  subst el e2 eu e3 eo e4
  have I5 : Inv X pins σ H4 { s4 with heap := s4.heap.push { cls := .type "slice", data := .fields #[vl, vu, vs] } } := I4.kept (t' := s4.toks) fun b ob q => Heap.get?_push_of_some _ q
  show wpAny (model X.prog X.w) X.A (subscriptTail e (.Slice none none (some (.UnaryOp .USub (.Constant (.int 1) k p1) p2)) p3) (.ref a) (.ref s4.heap.objs.size)) (EP X pins σ Q) X.xe { s4 with heap := s4.heap.push { cls := .type "slice", data := .fields #[vl, vu, vs] } }
  rcases q with ⟨hx, q⟩ | ⟨hx, q⟩
  · obtain ⟨its, r, ht, hz⟩ := I5.list hx
    have hlen := r.length
    refine tail_any (ops := [.ref a, .ref s4.heap.objs.size]) ht.isList.typeIs (PySem.slot_list_getitem.lookup) (wpAny_getItem_list_slice ht.isList (Heap.IsSliceOf.new _ vl vu vs) pl pu ps (by decide) ?_ (by rw [List.size_toArray]; omega)) (by with_unfolding_all rfl)
    rw [PySem.W.krv_pick]
    exact ⟨.ref _, _, I5.laid (t' := s4.toks) (o := .lst xs.reverse) (fun b ob q => Heap.get?_push_of_some _ q) (Nat.le_refl _) ⟨by rw [List.length_reverse]; exact hz, _, 0, r.reverse, Heap.get?_push_size _ rfl⟩, rfl, q _ (I5.hok.fresh (Nat.le_refl _))⟩
  · obtain ⟨its, r, ht, hz⟩ := I5.tuple hx
    have hlen := r.length
    refine tail_any (ops := [.ref a, .ref s4.heap.objs.size]) ht.typeIs (PyProof.Rows.slot_tuple_getitem.lookup) (HT.getItem_tuple_back ht (Heap.IsSliceOf.new _ vl vu vs) pl pu ps ?_ (by rw [List.size_toArray]; omega)) (by with_unfolding_all rfl)
    exact ⟨.ref _, _, I5.laid (t' := s4.toks) (o := .tup xs.reverse) (fun b ob q => Heap.get?_push_of_some _ q) (Nat.le_refl _) ⟨by rw [List.length_reverse]; exact hz, _, r.reverse, IsTup.new _ _⟩, rfl, q _ (I5.hok.fresh (Nat.le_refl _))⟩
def oRev : Cells → D → Option D
  | _, .tup ds => some (.tup ds.reverse)
  | _, .lst ds => some (.lst ds.reverse)
  | _, .frl ds => some (.lst ds.reverse)
  | h, .cell i => (h[i]?).map fun ds => .lst ds.reverse
  | _, _ => none
def mRev (f : ME) : ME := fun ms => (f ms).bind fun r => (oRev r.2 r.1).map fun d => (d, r.2)
theorem dens_rev {ρ : Rho} {H : Hp} : ∀ {vs : List V} {ds : List D}, Dens K ρ H vs ds → Dens K ρ H vs.reverse ds.reverse
  | _, _, .nil => .nil
  | _, _, .cons a b => by
    rw [List.reverse_cons, List.reverse_cons]
    exact (dens_rev b).append (.cons a .nil)
theorem ev_rev {e : Expr} {k : Nat} {p1 p2 p3 pos : Pos} {f : ME} (he : EV X e f) : EV X (.Subscript e (.Slice none none (some (.UnaryOp .USub (.Constant (.int 1) k p1) p2)) p3) pos) (mRev f) := by
  refine pe_w (pe_revA he) fun σ H Q h => ?_
  obtain ⟨ρ, ms, d, h', R, S, e, q⟩ := h
  obtain ⟨⟨dx, h1⟩, e1, e2⟩ := Option.bind_eq_some_iff.mp e
  obtain ⟨y, e3, e4⟩ := Option.map_eq_some_iff.mp e2
  cases e4
  refine ⟨ρ, ms, dx, h1, R, S, e1, fun x H1 ρ1 F1 R1 dn => ?_⟩
  dsimp only at e3
  cases dx <;> simp only [oRev] at e3 <;> try (cases e3; done)
  · cases e3
    obtain ⟨p, vs, rfl, hp⟩ := den_tupF dn
    obtain ⟨s1, t1⟩ := hp ρ1 H1 (.refl _ _)
    exact ⟨p, vs, rfl, .inr ⟨s1, fun a ho => q _ _ ρ1 (F1.trans (fut_new _ ho)) (R1.new _ ho) (.tup (.inl upd_same) (R1.out ho) ((dens_rev t1).fut (fut_new _ ho)))⟩⟩
  · cases e3
    obtain ⟨p, vs, rfl, hp⟩ := den_lst dn
    obtain ⟨s1, t1⟩ := hp ρ1 H1 (.refl _ _)
    exact ⟨p, vs, rfl, .inl ⟨s1, fun a ho => q _ _ ρ1 (F1.trans (fut_new _ ho)) (R1.new _ ho) (.lst upd_same (R1.out ho) ((dens_rev t1).fut (fut_new _ ho)))⟩⟩
  · cases e3
    obtain ⟨p, vs, rfl, hp⟩ := den_frl dn
    obtain ⟨s1, t1⟩ := hp ρ1 H1 (.refl _ _)
    exact ⟨p, vs, rfl, .inl ⟨s1, fun a ho => q _ _ ρ1 (F1.trans (fut_new _ ho)) (R1.new _ ho) (.lst upd_same (R1.out ho) ((dens_rev t1).fut (fut_new _ ho)))⟩⟩
  · obtain ⟨ds, e5, e6⟩ := Option.map_eq_some_iff.mp e3
    cases e6
    cases dn with
    | cell c =>
      obtain ⟨vs, q1, q2⟩ := R1.at_ _ _ _ c e5
      exact ⟨_, vs, rfl, .inl ⟨SqL.of q1, fun a ho => q _ _ ρ1 (F1.trans (fut_new _ ho)) (R1.new _ ho) (.lst upd_same (R1.out ho) ((dens_rev q2).fut (fut_new _ ho)))⟩⟩
/-! ### list(x), tuple(x) -/
def rowsOf (h : Cells) : D → Option (List D)
  | .tup ds => some ds
  | .lst ds => some ds
  | .frl ds => some ds
  | .cell i => h[i]?
  | _ => none
theorem rowsOf_den {ρ : Rho} {h : Cells} {H : Hp} {x : V} {d : D} {ds : List D} (R : Rel K ρ h H) (dn : Den K ρ H x d) (e : rowsOf h d = some ds) : ∃ p vs, x = .ref p ∧ (SqL K H p vs ∨ SqT K H p vs) ∧ Dens K ρ H vs ds := by
  cases d <;> simp only [rowsOf] at e <;> try (cases e; done)
  · cases e
    obtain ⟨p, vs, rfl, hp⟩ := den_tupF dn
    obtain ⟨s1, t1⟩ := hp ρ H (.refl _ _)
    exact ⟨p, vs, rfl, .inr s1, t1⟩
  · cases e
    obtain ⟨p, vs, rfl, hp⟩ := den_lst dn
    obtain ⟨s1, t1⟩ := hp ρ H (.refl _ _)
    exact ⟨p, vs, rfl, .inl s1, t1⟩
  · cases e
    obtain ⟨p, vs, rfl, hp⟩ := den_frl dn
    obtain ⟨s1, t1⟩ := hp ρ H (.refl _ _)
    exact ⟨p, vs, rfl, .inl s1, t1⟩
  · cases dn with
    | cell c =>
      obtain ⟨vs, q1, q2⟩ := R.at_ _ _ _ c e
      exact ⟨_, vs, rfl, .inl (SqL.of q1), q2⟩
def oList : Cells → List D → Option D
  | h, [x] => (rowsOf h x).map .lst
  | _, _ => none
theorem c_list : OpC K (fun xs H Q => ∃ p ys, xs = [V.ref p] ∧ (SqL K H p ys ∨ SqT K H p ys) ∧ ∀ l, H l = none → Q (.ref l) (upd H l (.lst ys))) oList := by
  intro ρ h H xs dxs d Q R a e k
  unfold oList at e
  split at e
  · obtain ⟨ds, e1, e2⟩ := Option.map_eq_some_iff.mp e
    cases e2
    obtain ⟨x, rfl, a1⟩ := dens1 a
    obtain ⟨p, vs, rfl, s1, t1⟩ := rowsOf_den R a1 e1
    exact ⟨p, vs, rfl, s1, fun l ho => k _ _ ρ (fut_new _ ho) (R.new _ ho) (.lst upd_same (R.out ho) (t1.fut (fut_new _ ho)))⟩
  · cases e
end
end Zm

set_option Elab.async false
set_option linter.all false
set_option maxRecDepth 100000
/-! Zq: comprehensions of two clauses; the whole root; tuple(x). -/
namespace PySem.W
open PySem PySem.Calls
theorem mg_root {prog : Program} {w : World} {A : Around} {E : Value → Shared → Prop} {s : Shared} {Q : Value → Shared → Prop} {a : Int} {t : Tok} (h0 : 0 ≤ a) (h1 : a.toNat.log2 < 13000)
    (h : Q (.int ((Float64.isqrt a.toNat : Nat) : Int) s.toks) { s with toks := s.toks + 1 }) : wpAny (model prog w) A (call (.builtin "math.isqrt") [.int a t]) Q E s :=
  call_function_meets MGF.kind_isqrt MGF.plain_isqrt MGF.entry_isqrt (MGF.args_isqrt _) (mg_run_isqrt a t (by omega) (by omega) (by omega)).meets h
end PySem.W
namespace Zm
open PySem L2
section
variable {X : Cx} {K : PySem.W.Frag}
/-- what came after, though what is hidden may be written -/
structure FutV (ρ : Rho) (H : Hp) (ρ' : Rho) (H' : Hp) : Prop where
  keep : ∀ a o, a ∉ ρ → H a = some o → H' a = some o
  out : ∀ a o, a ∉ ρ → H a = some o → a ∉ ρ'
theorem FutV.refl (ρ : Rho) (H : Hp) : FutV ρ H ρ H := ⟨fun _ _ _ e => e, fun _ _ n _ => n⟩
theorem FutV.fut {ρ ρ1 ρ2 : Rho} {H H1 H2 : Hp} (a : FutV ρ H ρ1 H1) (b : Fut ρ1 H1 ρ2 H2) : FutV ρ H ρ2 H2 :=
  ⟨fun x o n e => b.keep x o (Rho.notIn (a.out x o n e)).1 (a.keep x o n e), fun x o n e => Fut.out (u := o) b (a.out x o n e) (.inl (a.keep x o n e))⟩
theorem FutV.poke {ρ ρ1 : Rho} {H H1 : Hp} {p : Addr} {o : HO} (a : FutV ρ H ρ1 H1) (hp : p ∈ ρ.v) : FutV ρ H ρ1 (upd H1 p o) :=
  ⟨fun x u n e => by rw [upd_ne (fun z : x = p => n (.inr (by rw [z]; exact hp)))]; exact a.keep x u n e, a.out⟩
def YieldsV (K : PySem.W.Frag) (ρ0 : Rho) (H0 : Hp) (J : It) (ds : List D) : Prop :=
  ∀ i ρ H h, FutV ρ0 H0 ρ H → Rel K ρ h H → (ds.length ≤ i → J.stop i H) ∧ ∀ d, ds[i]? = some d → J.go i H ∧ ∀ x H', J.yld i H x H' → Fut ρ H ρ H' ∧ Rel K ρ h H' ∧ Den K ρ H' x d
theorem yieldsV_rng {K : PySem.W.Frag} {ρ : Rho} {H : Hp} (lo : Int) (n : Nat) : YieldsV K ρ H (Itr lo n) (intsD lo n) := fun i ρ2 H2 h2 _ R2 => yields_rng lo n i ρ2 H2 h2 (.refl ρ2 H2) R2
/-- a source that yields the items whatever else happens -/
def rdIA (K : PySem.W.Frag) (f : MI) : TI := fun σ H Rk => ∃ ρ ms ds h', Rel K ρ ms.h H ∧ Slots K ρ H ms.s σ ∧ f ms = some (ds, h') ∧ ∀ J H' ρ', Fut ρ H ρ' H' → Rel K ρ' h' H' → YieldsV K ρ' H' J ds → Rk J H'
abbrev IVA (X : Cx) (tg iter : Expr) (f : MI) : Prop := PI X tg iter (rdIA X.K f)
theorem iva_range1 {tg a : Expr} {p pos : Pos} {f : MA} (hm : X.mg "range" = none) (ha : AV X [a] f) (hg : Gl X "range" := by rfl) (hs : starEach [a] X.env = [(false, eval a X.env)] := by rfl) : IVA X tg (.Call (.Name "range" p) [a] [] pos) (iR1 f) := by
  refine pi_w (pi_range1 hg hm ha hs) fun σ H Rk h => ?_
  obtain ⟨ρ, ms, ds, h', R, S, e, q⟩ := h
  obtain ⟨⟨xs, h1⟩, e1, e2⟩ := Option.bind_eq_some_iff.mp e
  dsimp only at e2
  split at e2
  · rename_i j
    obtain ⟨hb, e3⟩ := bif_some e2
    cases e3
    have hb' : -4611686018427387904 ≤ j ∧ j < 4611686018427387904 := of_decide_eq_true hb
    refine ⟨ρ, ms, _, _, R, S, e1, fun vs H1 ρ1 F1 R1 dn => ?_⟩
    obtain ⟨x, rfl, a1⟩ := dens1 dn
    exact ⟨j, by rw [den_int a1], by omega, by omega, q _ _ ρ1 F1 R1 (yieldsV_rng 0 j.toNat)⟩
  · cases e2
theorem iva_range2 {tg a b : Expr} {p pos : Pos} {f : MA} (hm : X.mg "range" = none) (ha : AV X [a, b] f) (hg : Gl X "range" := by rfl) (hs : starEach [a, b] X.env = [(false, eval a X.env), (false, eval b X.env)] := by rfl) (hs2 : starEach [b] X.env = [(false, eval b X.env)] := by rfl) : IVA X tg (.Call (.Name "range" p) [a, b] [] pos) (iR2 f) := by
  refine pi_w (pi_range2 hg hm ha hs hs2) fun σ H Rk h => ?_
  obtain ⟨ρ, ms, ds, h', R, S, e, q⟩ := h
  obtain ⟨⟨xs, h1⟩, e1, e2⟩ := Option.bind_eq_some_iff.mp e
  dsimp only at e2
  split at e2
  · rename_i i j
    obtain ⟨hb, e3⟩ := bif_some e2
    cases e3
    rw [Bool.and_eq_true] at hb
    have hb1 : -4611686018427387904 ≤ i ∧ i < 4611686018427387904 := of_decide_eq_true hb.1
    have hb2 : -4611686018427387904 ≤ j ∧ j < 4611686018427387904 := of_decide_eq_true hb.2
    refine ⟨ρ, ms, _, _, R, S, e1, fun vs H1 ρ1 F1 R1 dn => ?_⟩
    obtain ⟨x, y, rfl, a1, a2⟩ := dens2 dn
    exact ⟨i, j, by rw [den_int a1, den_int a2], ⟨by omega, by omega, by omega, by omega⟩, q _ _ ρ1 F1 R1 (yieldsV_rng i _)⟩
  · cases e2
theorem Slots.poke {ρ : Rho} {H : Hp} {s : List (Option D)} {σ : L2.St} (S : Slots K ρ H s σ) {p : Addr} (o : HO) (hp : p ∈ ρ.v) : Slots K ρ (upd H p o) s σ := ⟨S.1, fun i d h => by
  obtain ⟨v, e, dn⟩ := S.2 i d h
  exact ⟨v, e, dn.poke hp⟩⟩
def mComp2L (g : MG) (t : MT) (f1 : MI) (g1 : MG) (t1 : MT) (e : ME) (w : List (Option D)) (vs1 : List Nat) : List D → Cells → Option (List D × Cells)
  | [], h => some ([], h)
  | d :: ds, h => (g d ⟨w, h⟩).bind fun m1 => (t m1).bind fun b => bif b.1 then (f1 ⟨m1.s, b.2⟩).bind fun r => (mCompL g1 t1 e (wipeD m1.s vs1) r.1 r.2).bind fun q => (mComp2L g t f1 g1 t1 e w vs1 ds q.2).map fun z => (q.1 ++ z.1, z.2) else mComp2L g t f1 g1 t1 e w vs1 ds b.2
def mComp2 (f : MI) (g : MG) (t : MT) (f1 : MI) (g1 : MG) (t1 : MT) (e : ME) (vs vs1 : List Nat) : ME := fun ms => (f ms).bind fun r => (mComp2L g t f1 g1 t1 e (wipeD ms.s vs) vs1 r.1 r.2).bind fun q => bif decide (q.1.length ≤ line) then some (.lst q.1, q.2) else none
theorem wipe_back {vs : List Nat} {σ σ3 : L2.St} (hw : wipe σ3 vs = wipe (wipe σ vs) vs) : wipe σ3 vs = wipe σ vs := by
  apply List.ext_getElem?
  intro j
  have hw2 := congrArg (fun l => l[j]?) hw
  simp only [wipe_get, wipe_length] at hw2 ⊢
  by_cases hj : j ∈ vs
  · simpa [hj] using hw2
  · simpa [hj] using hw2
/-- what stands while the new list at Ad grows -/
structure Grow (K : PySem.W.Frag) (ρ1 : Rho) (H1 : Hp) (Ad : Addr) (ρ : Rho) (h : Cells) (H : Hp) (dacc : List D) : Prop where
  F : Fut ρ1 H1 ρ H
  R : Rel K ρ h H
  A : ∃ acc, H Ad = some (.lst acc) ∧ Dens K ρ H acc dacc
  v : Ad ∈ ρ.v
theorem Grow.nc {ρ1 ρ : Rho} {H1 H : Hp} {Ad : Addr} {h : Cells} {da : List D} (g : Grow K ρ1 H1 Ad ρ h H da) : Ad ∉ ρ.c := fun z => g.R.apart Ad z g.v
theorem Grow.fut {ρ1 ρ ρ2 : Rho} {H1 H H2 : Hp} {Ad : Addr} {h h2 : Cells} {da : List D} (g : Grow K ρ1 H1 Ad ρ h H da) (F : Fut ρ H ρ2 H2) (R : Rel K ρ2 h2 H2) : Grow K ρ1 H1 Ad ρ2 h2 H2 da := by
  obtain ⟨acc, e, d⟩ := g.A
  exact ⟨g.F.trans F, R, ⟨acc, F.keep _ _ g.nc e, d.fut F⟩, F.sub _ g.v⟩
theorem Grow.add {ρ1 ρ : Rho} {H1 H : Hp} {Ad : Addr} {h : Cells} {da : List D} {acc : List V} {v : V} {d : D} (g : Grow K ρ1 H1 Ad ρ h H da) (hAd : H1 Ad = none) (e : H Ad = some (.lst acc)) (dn : Dens K ρ H acc da) (dv : Den K ρ H v d) : Grow K ρ1 H1 Ad ρ h (upd H Ad (.lst (acc ++ [v]))) (da ++ [d]) := by
  refine ⟨⟨fun a o n e => ?_, g.F.ext, g.F.sub, g.F.hid, g.F.fresh⟩, g.R.poke _ g.v, ⟨acc ++ [v], upd_same, Dens.append (dn.poke g.v) (.cons (dv.poke g.v) .nil)⟩, g.v⟩
  rw [upd_ne (ne_of_none e hAd)]
  exact g.F.keep a o n e
theorem rd_lc2 {f f1 : MI} {g g1 : MG} {tG tG1 : TG} {t t1 : MT} {e : ME} {vs vs1 : List Nat} (hG : TgOk K tG g vs) (hG1 : TgOk K tG1 g1 vs1) {σ : L2.St} {H : Hp} {Q : VK} (h : rdE K (mComp2 f g t f1 g1 t1 e vs vs1) σ H Q) :
    tLc2 (rdI K f) tG (rdT K t) (rdIA K f1) tG1 (rdT K t1) (rdE K e) vs vs1 σ H Q := by
  obtain ⟨ρ, ms, d, h', R, S, e0, q⟩ := h
  obtain ⟨⟨ds, h1⟩, e1, e2⟩ := Option.bind_eq_some_iff.mp e0
  obtain ⟨⟨out, h2⟩, e3, e4⟩ := Option.bind_eq_some_iff.mp e2
  obtain ⟨hz, e5⟩ := bif_some e4
  cases e5
  have hz' : out.length ≤ line := of_decide_eq_true hz
  refine ⟨ρ, ms, ds, h1, R, S, e1, fun J H1 ρ1 F1 R1 Y Ad hAd => ?_⟩
  have nAc : Ad ∉ ρ1.c := (Rho.notIn (R1.out hAd)).1
  have room : ∀ {ρ : Rho} {H : Hp} {acc : List V} {da r : List D} {y : D}, Dens K ρ H acc da → da ++ y :: r = out → acc.length < sizeLine := fun dn eo => by
    rw [dn.length, ← line_eq]
    have z := congrArg List.length eo
    rw [List.length_append, List.length_cons] at z
    omega
  refine ⟨fun i m H2 => m = ds.length - i ∧ i ≤ ds.length ∧ ∃ ρ2 hh dacc rest, Grow K ρ1 H1 Ad ρ2 hh H2 dacc ∧ mComp2L g t f1 g1 t1 e (wipeD ms.s vs) vs1 (ds.drop i) hh = some (rest, h2) ∧ dacc ++ rest = out,
    ⟨_, rfl, Nat.zero_le _, ρ1.hide Ad, h1, [], out, ⟨fut_hide _ hAd nAc, R1.hide _ hAd, ⟨[], upd_same, .nil⟩, List.mem_cons_self⟩, e3, rfl⟩, ?_⟩
  rintro i m H2 ⟨rfl, hi, ρ2, hh, dacc, rest, G2, e6, e7⟩
  obtain ⟨ystop, ygo⟩ := Y i ρ2 H2 hh G2.F G2.R
  by_cases hl : i < ds.length
  · right
    obtain ⟨y1, y2⟩ := ygo _ (List.getElem?_eq_getElem hl)
    rw [List.drop_eq_getElem_cons hl] at e6
    simp only [mComp2L] at e6
    obtain ⟨m1, e8, e9⟩ := Option.bind_eq_some_iff.mp e6
    obtain ⟨⟨b, hb⟩, e10, e11⟩ := Option.bind_eq_some_iff.mp e9
    refine ⟨y1, fun H3 => ∃ ρ2 hh dacc rest, Grow K ρ1 H1 Ad ρ2 hh H3 dacc ∧ mComp2L g t f1 g1 t1 e (wipeD ms.s vs) vs1 (ds.drop (i + 1)) hh = some (rest, h2) ∧ dacc ++ rest = out, fun H' w => ⟨ds.length - (i + 1), by omega, rfl, hl, w⟩, fun x H' y => ?_⟩
    obtain ⟨Fy, Ry, dy⟩ := y2 x H' y
    have G3 := G2.fut Fy Ry
    refine hG ρ2 ⟨wipeD ms.s vs, hh⟩ m1 H' x _ _ _ ((S.fut (F1.trans G3.F)).wipe vs) dy e8 fun σ3 hw S3 hh3 => ⟨wipe_back hw, ?_⟩
    refine ⟨ρ2, m1, b, hb, by rw [hh3]; exact Ry, S3, e10, fun H4 ρ4 F4 R4 => ?_⟩
    have G4 := G3.fut F4 R4
    have S4 := S3.fut F4
    cases b with
    | false => exact iteF ⟨ρ4, hb, dacc, rest, G4, e11, e7⟩
    | true =>
      obtain ⟨⟨ds1, h5⟩, e12, e13⟩ := Option.bind_eq_some_iff.mp e11
      obtain ⟨⟨out1, h6⟩, e14, e15⟩ := Option.bind_eq_some_iff.mp e13
      obtain ⟨⟨rest2, h7⟩, e16, e17⟩ := Option.map_eq_some_iff.mp e15
      cases e17
      refine iteT ⟨ρ4, ⟨m1.s, hb⟩, ds1, h5, R4, S4, e12, fun J1 H5 ρ5 F5 R5 YA => ?_⟩
      have G5 := G4.fut F5 R5
      refine ⟨fun j k H6 => k = ds1.length - j ∧ j ≤ ds1.length ∧ ∃ ρ6 hh6 dacc rest1, FutV ρ5 H5 ρ6 H6 ∧ Grow K ρ1 H1 Ad ρ6 hh6 H6 dacc ∧ Slots K ρ6 H6 m1.s σ3 ∧ mCompL g1 t1 e (wipeD m1.s vs1) (ds1.drop j) hh6 = some (rest1, h6) ∧ dacc ++ (rest1 ++ rest2) = out,
        ⟨_, rfl, Nat.zero_le _, ρ5, h5, dacc, out1, .refl _ _, G5, S4.fut F5, e14, e7⟩, ?_⟩
      rintro j k H6 ⟨rfl, hj, ρ6, hh6, dacc6, rest1, V6, G6, S6, e18, e19⟩
      obtain ⟨zstop, zgo⟩ := YA j ρ6 H6 hh6 V6 G6.R
      by_cases hl1 : j < ds1.length
      · right
        obtain ⟨z1, z2⟩ := zgo _ (List.getElem?_eq_getElem hl1)
        rw [List.drop_eq_getElem_cons hl1] at e18
        simp only [mCompL] at e18
        obtain ⟨m2, e20, e21⟩ := Option.bind_eq_some_iff.mp e18
        obtain ⟨⟨b2, hb2⟩, e22, e23⟩ := Option.bind_eq_some_iff.mp e21
        refine ⟨z1, fun H7 => ∃ ρ6 hh6 dacc rest1, FutV ρ5 H5 ρ6 H7 ∧ Grow K ρ1 H1 Ad ρ6 hh6 H7 dacc ∧ Slots K ρ6 H7 m1.s σ3 ∧ mCompL g1 t1 e (wipeD m1.s vs1) (ds1.drop (j + 1)) hh6 = some (rest1, h6) ∧ dacc ++ (rest1 ++ rest2) = out, fun H' w => ⟨ds1.length - (j + 1), by omega, rfl, hl1, w⟩, fun x H' y => ?_⟩
        obtain ⟨Fz, Rz, dz⟩ := z2 x H' y
        have G7 := G6.fut Fz Rz
        have S7 := S6.fut Fz
        refine hG1 ρ6 ⟨wipeD m1.s vs1, hh6⟩ m2 H' x _ _ _ (S7.wipe vs1) dz e20 fun σ8 hw8 S8 hh8 => ⟨wipe_back hw8, ?_⟩
        refine ⟨ρ6, m2, b2, hb2, by rw [hh8]; exact Rz, S8, e22, fun H9 ρ9 F9 R9 => ?_⟩
        have G9 := G7.fut F9 R9
        cases b2 with
        | false => exact iteF ⟨ρ9, hb2, dacc6, rest1, (V6.fut Fz).fut F9, G9, S7.fut F9, e23, e19⟩
        | true =>
          obtain ⟨⟨yv, hy⟩, e24, e25⟩ := Option.bind_eq_some_iff.mp e23
          obtain ⟨⟨r2, h8⟩, e26, e27⟩ := Option.map_eq_some_iff.mp e25
          cases e27
          refine iteT ⟨ρ9, ⟨m2.s, hb2⟩, yv, hy, R9, S8.fut F9, e24, fun v HA ρA FA RA dv => ?_⟩
          have GA := G9.fut FA RA
          obtain ⟨acc, ea, da⟩ := GA.A
          have e19' : dacc6 ++ yv :: (r2 ++ rest2) = out := by simpa using e19
          exact ⟨acc, ea, room da e19', ρA, hy, dacc6 ++ [yv], r2, (((V6.fut Fz).fut F9).fut FA).poke G5.v, GA.add hAd ea da dv, ((S7.fut F9).fut FA).poke _ GA.v, e26, by simpa using e19⟩
      · left
        have hje : j = ds1.length := by omega
        rw [List.drop_eq_nil_of_le (Nat.le_of_not_lt hl1)] at e18
        cases e18
        exact ⟨zstop (Nat.le_of_not_lt hl1), ρ6, h6, dacc6, rest2, G6, e16, by simpa using e19⟩
  · left
    have hie : i = ds.length := by omega
    rw [List.drop_eq_nil_of_le (Nat.le_of_not_lt hl)] at e6
    cases e6
    refine ⟨ystop (Nat.le_of_not_lt hl), ?_⟩
    rw [List.append_nil] at e7
    subst e7
    obtain ⟨acc, hA, dn⟩ := G2.A
    have F2 := G2.F
    have F3 : Fut ρ1 H1 (ρ2.shows Ad) H2 := ⟨F2.keep, F2.ext, fun a ha => List.mem_filter.mpr ⟨F2.sub a ha, decide_eq_true fun z => by
      obtain ⟨o, q⟩ := R1.hidden a ha
      rw [z, hAd] at q; cases q⟩, fun a ha => F2.hid a (List.mem_filter.mp ha).1, F2.fresh⟩
    refine q _ H2 (ρ2.shows Ad) (F1.trans F3) G2.R.shows (.lst hA (Rho.out (fun z => G2.nc z) fun z => ?_) dn.shows)
    have := of_decide_eq_true (List.mem_filter.mp z).2
    exact this rfl
/-- [e for tg in src if t for tg1 in src1 if t1] -/
theorem ev_lc2 {elt tg iter tg1 iter1 : Expr} {ifs ifs1 : List Expr} {scope : Scope} {own : List (Str × Nat)} {vs vs1 : List Nat} {pos : Pos} {f f1 : MI} {g g1 : MG} {tG tG1 : TG} {t t1 : MT} {e : ME} (hc : X.calm = true) (hN : X.N.Nodup) (hi : IV X tg iter f) (hG : TgOk X.K tG g vs) (hG1 : TgOk X.K tG1 g1 vs1) (ok : BlkOk X.N X.env.scope scope own) (hvs : own.map (·.2) = vs) (hv : ∀ i ∈ vs1, i ∈ vs)
    (hg : ∀ (s : Shared) (H : Hp) (C : Addr) (cl : List (Str × Addr)) (fp : List Addr), PG (X.blk s H scope (compEnvC scope cl C X.env) fp) tg tG) (ht : ∀ (s : Shared) (H : Hp) (C : Addr) (cl : List (Str × Addr)) (fp : List Addr), PTs (X.blk s H scope (compEnvC scope cl C X.env) fp) ifs (rdT X.K t))
    (hi1 : ∀ (s : Shared) (H : Hp) (C : Addr) (cl : List (Str × Addr)) (fp : List Addr), PI (X.blk s H scope (compEnvC scope cl C X.env) fp) tg1 iter1 (rdIA X.K f1))
    (hg1 : ∀ (s : Shared) (H : Hp) (C : Addr) (cl : List (Str × Addr)) (fp : List Addr), PG (X.blk s H scope (compEnvC scope cl C X.env) fp) tg1 tG1) (ht1 : ∀ (s : Shared) (H : Hp) (C : Addr) (cl : List (Str × Addr)) (fp : List Addr), PTs (X.blk s H scope (compEnvC scope cl C X.env) fp) ifs1 (rdT X.K t1))
    (he : ∀ (s : Shared) (H : Hp) (C : Addr) (cl : List (Str × Addr)) (fp : List Addr), PE (X.blk s H scope (compEnvC scope cl C X.env) fp) elt (rdE X.K e)) (hs : ∀ x, foldedSetIterable iter X.env x = pure x := by intro _; rfl) (hs1 : ∀ env x, foldedSetIterable iter1 env x = pure x := by intro _ _; rfl) :
    EV X (.ListComp elt [⟨tg, iter, ifs, 0⟩, ⟨tg1, iter1, ifs1, 0⟩] scope pos) (mComp2 f g t f1 g1 t1 e vs vs1) := by
  subst hvs
  exact pe_w (pe_lc2 hc hN hi ok hv hg ht hi1 hg1 ht1 he hs hs1) fun _ _ _ h => rd_lc2 hG hG1 h
theorem bv_setLc2 {y : Str} {py : Pos} {elt tg iter tg1 iter1 : Expr} {ifs ifs1 : List Expr} {scope : Scope} {own : List (Str × Nat)} {vs vs1 : List Nat} {pos spos : Pos} {f f1 : MI} {g g1 : MG} {tG tG1 : TG} {t t1 : MT} {e : ME} (i : Nat) (hc : X.calm = true) (hN : X.N.Nodup) (hi : IV X tg iter f) (hG : TgOk X.K tG g vs) (hG1 : TgOk X.K tG1 g1 vs1) (ok : BlkOk X.N X.env.scope scope own) (hvs : own.map (·.2) = vs) (hv : ∀ i ∈ vs1, i ∈ vs)
    (hsw : swapsWith (.ListComp elt [⟨tg, iter, ifs, 0⟩, ⟨tg1, iter1, ifs1, 0⟩] scope pos) (some (.Name y py)) spos.line X.env = pure true)
    (hg : ∀ (s : Shared) (H : Hp) (C : Addr) (cl : List (Str × Addr)) (fp : List Addr), PG (X.blk s H scope (compEnvC scope cl C X.env) fp) tg tG) (ht : ∀ (s : Shared) (H : Hp) (C : Addr) (cl : List (Str × Addr)) (fp : List Addr), PTs (X.blk s H scope (compEnvC scope cl C X.env) fp) ifs (rdT X.K t))
    (hi1 : ∀ (s : Shared) (H : Hp) (C : Addr) (cl : List (Str × Addr)) (fp : List Addr), PI (X.blk s H scope (compEnvC scope cl C X.env) fp) tg1 iter1 (rdIA X.K f1))
    (hg1 : ∀ (s : Shared) (H : Hp) (C : Addr) (cl : List (Str × Addr)) (fp : List Addr), PG (X.blk s H scope (compEnvC scope cl C X.env) fp) tg1 tG1) (ht1 : ∀ (s : Shared) (H : Hp) (C : Addr) (cl : List (Str × Addr)) (fp : List Addr), PTs (X.blk s H scope (compEnvC scope cl C X.env) fp) ifs1 (rdT X.K t1))
    (he : ∀ (s : Shared) (H : Hp) (C : Addr) (cl : List (Str × Addr)) (fp : List Addr), PE (X.blk s H scope (compEnvC scope cl C X.env) fp) elt (rdE X.K e)) (hy : X.N[i]? = some y := by rfl) (hyl : X.env.scope.names.lookup y = some .local := by rfl) (hs : ∀ x, foldedSetIterable iter X.env x = pure x := by intro _; rfl) (hs1 : ∀ env x, foldedSetIterable iter1 env x = pure x := by intro _ _; rfl) :
    BV X (.Assign [.Name y py] (.ListComp elt [⟨tg, iter, ifs, 0⟩, ⟨tg1, iter1, ifs1, 0⟩] scope pos) spos) (mAsg (mComp2 f g t f1 g1 t1 e vs vs1) (gN i)) := by
  subst hvs
  exact ps_w (ps_setLc2 hc hN hy hyl hsw hi ok hv hg ht hi1 hg1 ht1 he hs hs1) fun D σ H h => rd_lc2 hG hG1 (by
    obtain ⟨ρ, ms, o, ms', R, S, e, q⟩ := h
    obtain ⟨⟨d, h1⟩, e1, e2⟩ := Option.bind_eq_some_iff.mp e
    cases e2
    exact ⟨ρ, ms, d, h1, R, S, e1, fun v H1 ρ1 F1 R1 dn => q H1 ρ1 F1 R1 _ ((S.fut F1).set i dn)⟩)
/-! ### isqrt -/
def rIsqrt : List V → Hp → VK → Prop := fun vs H Q => ∃ a : Int, vs = [.int a] ∧ 0 ≤ a ∧ a.toNat.log2 < 13000 ∧ Q (.int ((Float64.isqrt a.toNat : Nat) : Int)) H
theorem cr_isqrt : CallR X (.builtin "math.isqrt") rIsqrt := by
  intro pins s σ H vs us Q I r h
  obtain ⟨a, rfl, h0, h1, q⟩ := h
  obtain ⟨u, rfl, ru⟩ := vals1 r
  obtain ⟨t, rfl⟩ := ru
  exact PySem.W.mg_root h0 h1 ⟨.int _, H, I.tok _, ⟨_, rfl⟩, q⟩
def oIsqrt : Cells → List D → Option D
  | _, [.int a] => bif decide (0 ≤ a ∧ a.toNat.log2 < 13000) then some (.int ((Float64.isqrt a.toNat : Nat) : Int)) else none
  | _, _ => none
theorem c_isqrt : OpC K rIsqrt oIsqrt := by
  intro ρ h H xs dxs d Q R a e k
  unfold oIsqrt at e
  split at e
  · obtain ⟨c, e⟩ := bif_some e
    cases e
    have c' := of_decide_eq_true c
    obtain ⟨x, rfl, a1⟩ := dens1 a
    exact ⟨_, by rw [den_int a1], c'.1, c'.2, k _ _ ρ (.refl _ _) R (.int _)⟩
  · cases e
/-! ### tuple(x) -/
def oTup : Cells → List D → Option D
  | _, [.tup ds] => some (.tup ds)
  | _, [.lst ds] => some (.tup ds)
  | _, [.frl ds] => some (.tup ds)
  | h, [.cell i] => (h[i]?).map .tup
  | _, _ => none
theorem c_tuple : OpC K (fun xs H Q => ∃ p ys, xs = [V.ref p] ∧ ((SqL K H p ys ∧ ∀ l, H l = none → Q (.ref l) (upd H l (.tup ys))) ∨ (SqT K H p ys ∧ Q (.ref p) H))) oTup := by
  intro ρ h H xs dxs d Q R a e k
  unfold oTup at e
  split at e
  · cases e
    obtain ⟨x, rfl, a1⟩ := dens1 a
    obtain ⟨p, vs, rfl, hp⟩ := den_tupF a1
    exact ⟨p, vs, rfl, .inr ⟨(hp ρ H (.refl _ _)).1, k _ _ ρ (.refl _ _) R a1⟩⟩
  · cases e
    obtain ⟨x, rfl, a1⟩ := dens1 a
    obtain ⟨p, vs, rfl, hp⟩ := den_lst a1
    obtain ⟨s1, t1⟩ := hp ρ H (.refl _ _)
    exact ⟨p, vs, rfl, .inl ⟨s1, fun l ho => k _ _ ρ (fut_new _ ho) (R.new _ ho) (.tup (.inl upd_same) (R.out ho) (t1.fut (fut_new _ ho)))⟩⟩
  · cases e
    obtain ⟨x, rfl, a1⟩ := dens1 a
    obtain ⟨p, vs, rfl, hp⟩ := den_frl a1
    obtain ⟨s1, t1⟩ := hp ρ H (.refl _ _)
    exact ⟨p, vs, rfl, .inl ⟨s1, fun l ho => k _ _ ρ (fut_new _ ho) (R.new _ ho) (.tup (.inl upd_same) (R.out ho) (t1.fut (fut_new _ ho)))⟩⟩
  · obtain ⟨ds, e1, e2⟩ := Option.map_eq_some_iff.mp e
    cases e2
    obtain ⟨x, rfl, a1⟩ := dens1 a
    cases a1 with
    | cell c =>
      obtain ⟨vs, q1, q2⟩ := R.at_ _ _ _ c e1
      exact ⟨_, vs, rfl, .inl ⟨SqL.of q1, fun l ho => k _ _ ρ (fut_new _ ho) (R.new _ ho) (.tup (.inl upd_same) (R.out ho) (q2.fut (fut_new _ ho)))⟩⟩
  · cases e
end
end Zm

set_option Elab.async false
set_option linter.all false
set_option maxRecDepth 100000
/-! Zr: a + b of two lists that are cells. -/
namespace Zm
open PySem L2
section
variable {X : Cx} {K : PySem.W.Frag}
def oAddC : Cells → D → D → Option D
  | h, .cell i, .cell j => (h[i]?).bind fun a => (h[j]?).bind fun b => bif decide (a.length + b.length ≤ line) then some (.lst (a ++ b)) else none
  | h, x, y => oAdd h x y
theorem p_addC : Op2 K (rAddAll K) oAddC := by
  intro ρ h H x y dx dy d Q R a b e k
  by_cases z : ∃ i j, dx = .cell i ∧ dy = .cell j
  · obtain ⟨i, j, rfl, rfl⟩ := z
    simp only [oAddC] at e
    obtain ⟨ds, e1, e⟩ := Option.bind_eq_some_iff.mp e
    obtain ⟨es, e2, e⟩ := Option.bind_eq_some_iff.mp e
    obtain ⟨c, e⟩ := bif_some e
    cases e
    cases a with
    | cell a =>
      cases b with
      | cell b =>
        obtain ⟨vs, q1, t1⟩ := R.at_ _ _ _ a e1
        obtain ⟨ws, q2, t2⟩ := R.at_ _ _ _ b e2
        refine .inr (.inr (.inl ⟨_, _, vs, ws, rfl, rfl, q1, q2, by rw [t1.length, t2.length, ← line_eq]; exact of_decide_eq_true c, fun o ho => ?_⟩))
        exact k _ _ ρ (fut_new _ ho) (R.new _ ho) (.lst upd_same (R.out ho) ((t1.append t2).fut (fut_new _ ho)))
  · have e' : oAdd h dx dy = some d := by
      unfold oAddC at e
      split at e
      · exact absurd ⟨_, _, rfl, rfl⟩ z
      · exact e
    exact p_add ρ h H x y dx dy d Q R a b e' k
end
end Zm

set_option Elab.async false
set_option linter.all false
set_option maxRecDepth 100000
/-! Zs: a, b, .. = a list of that length. -/
namespace Zm
open PySem L2
section
variable {X : Cx}
def gTL (n : Nat) (gs : MGs) : MG := fun d ms => match d with
  | .lst ds => bif ds.length == n then gs ds ms else none
  | _ => none
theorem den_lst' {K : PySem.W.Frag} {ρ : Rho} {H : Hp} {v : V} {ds : List D} (h : Den K ρ H v (.lst ds)) : ∃ a vs, v = .ref a ∧ SqL K H a vs ∧ Dens K ρ H vs ds := by
  cases h with
  | lst r n d => exact ⟨_, _, rfl, .inl (.inl r), d⟩
theorem gv_lst {es : List Expr} {k : Nat} {pos : Pos} {gs : MGs} {n : Nat} (hc : X.calm = true) (h : GVs X es gs)
    (hn : (assignEach es X.env).length = n := by rfl) (hst : (assignEach es X.env).findIdx? (·.1) = none := by rfl) : GV X (.Tuple es k pos) (gTL n gs) := by
  refine pg_w (pg_lst hc h hn hst) fun v σ H Q h => ?_
  obtain ⟨ρ, ms, d, ms', R, S, dn, e, q⟩ := h
  cases d <;> simp only [gTL] at e <;> try (cases e; done)
  rename_i ds
  obtain ⟨a, vs, rfl, hq, dn⟩ := den_lst' dn
  cases hl : (ds.length == n) with
  | false => simp [hl] at e
  | true =>
    simp only [hl, cond_true] at e
    exact ⟨a, vs, rfl, hq, by rw [dn.length]; simpa using hl, ρ, ms, ds, ms', R, S, dn, e, q⟩
end
end Zm

set_option Elab.async false
set_option linter.all false
set_option maxRecDepth 100000
/-! Zt: sorted(set(xs)), xs a list of ints. -/
namespace L2
open PySem PySem.Spec PyProof.Rows
section
variable {P : Program} {w : World} {A : Around} {E : Value → Shared → Prop} {s : Shared}
/-- the empty set as it is made -/
abbrev oSet0 (w : World) : Obj := { cls := .type "set", dict := none, data := .set #[] 0 (.fresh 0 0 (!w.params.followText "set-order")) }
set_option maxHeartbeats 3200000 in
theorem set_of_list {l : Addr} {items : Array Value} (ns : List Int) {Q : Value → Shared → Prop} (hh : A.handled = none) (hl : s.heap.IsList l items) (hit : IntsAre items.toList ns) (hb : ns.length + 1 < scanBound)
    (h : ∀ (h' : Heap) (tk c : Nat), SetR w h' s.heap.objs.size (fun j => decide (j ∈ ns)) c → c ≤ ns.length → (∀ b o, s.heap.get? b = some o → h'.get? b = some o) → Q (.ref s.heap.objs.size) { s with heap := h', toks := tk }) :
    wpAny (model P w) A (call (.type "set") [.ref l]) Q E s := by
  have n : items.size = ns.length := by rw [← Array.length_toList]; exact IntsAre.length hit
  have big : l < s.heap.objs.size := by obtain ⟨o, ho, _⟩ := hl; exact Heap.lt_size ho
  have z1 : (s.heap.push (oSet0 w)).objs.size = s.heap.objs.size + 1 := Heap.size_push ..
  have at0 : (s.heap.push (oSet0 w)).get? s.heap.objs.size = some (oSet0 w) := Heap.get?_push_size _ rfl
  obtain ⟨c, tl, hmro⟩ := F.called_set.mro
  have hmade := F.called_set.made
  have hsub := F.called_set.sub
  refine wpAny_call (codeAny_of_tree ?_)
  show wpAny _ _ (callAny (.type "set") _) _ _ _
  refine wpAny_pure ⟨Code.quiet_builtin _ (by decide +kernel), codeAny_builtin F.entry_type_call ?_⟩
  rw [Around.under_plain (weight_type_call_type "set" [.ref l] []) rfl]
  have h1 := F.called_set.notType
  have h2 := F.called_set.canCreate
  have hct := F.typeCall_set_1 (.ref l)
  repeat (any_goals (first | assumption | wp_step))
  refine codeAny_mono (code_set_led1 (.ref l) (E := E) (Q₁ := fun obj s₁ => obj = .ref s.heap.objs.size ∧ s₁ = { s with heap := s.heap.push (oSet0 w) }) ⟨rfl, rfl⟩) fun r s₁ hr => ?_
  cases r with
  | error e => exact hr
  | ok fl =>
    cases fl with
    | ret obj =>
      obtain ⟨rfl, rfl⟩ := hr
      have hT : Shared.TypeIs { s with heap := s.heap.push (oSet0 w) } (.ref s.heap.objs.size) "set" := ⟨_, at0, rfl⟩
      have hli := F.called_set.init.lookup
      have hbi := F.called_set.init.bind (.ref s.heap.objs.size)
      repeat (any_goals (first | assumption | wp_step))
      refine codeAny_mono (codeAny_call_builtin (R := wants (fun r s₂ => r = .none ∧ ∃ h' tk c, s₂ = { s with heap := h', toks := tk } ∧ SetR w h' s.heap.objs.size (fun j => decide (j ∈ ns)) c ∧ c ≤ ns.length ∧
          (∀ b o, s.heap.get? b = some o → h'.get? b = some o)) E) F.called_set.init.plain F.entry_set_init (check_set_init_1 hT ?_)) fun r₂ s₂ hr₂ => ?_
      · have hl1 : (s.heap.push (oSet0 w)).IsList l items := hl.push _
        have hol := hl1
        obtain ⟨ol, hol, hcl, hrest⟩ := hol
        obtain ⟨ocls, odict, odata, oslots⟩ := ol
        simp only at hcl
        subst hcl
        have hsls := F.sub_list_set
        have hslf := F.sub_list_frozenset
        have hne : (Value.type "list" == Value.type "dict") = false := by decide
        unfold Builtin.«set.__init__» noKeywords Builtin.Frozenset.updateFrom
        generalize hPI : pyIter = PI
        wp_walk
        subst hPI
        refine wpAny_pyIter_list hl1 ?_
        refine wpAny_bind (wpAny_runValue ?_)
        have hh3 : A.in1.in1.in1.handled = none := by simp [hh]
        refine set_update_ints ((Walks.list hh3 (s.heap.push (oSet0 w)).objs.size l (by rw [z1]; exact Nat.ne_of_lt (Nat.lt_succ_of_lt big)) items).toS) s.heap.objs.size (by rw [z1]; simp only [List.mem_cons, List.not_mem_nil, or_false, not_or]; exact ⟨Nat.ne_of_lt (Nat.lt_succ_self _), Nat.ne_of_gt big⟩) ns n hb (fun i v hv => ?_) (items.size - 0) 0 _ (by omega) (Nat.zero_le _)
          ⟨⟨_, Heap.get?_push_size _ rfl, rfl, rfl⟩, hl1.push _⟩ ⟨0, Nat.le_refl 0, setR_new_at (Heap.get?_push_of_some _ at0)⟩ fun s' c' hm hc' hS' => ?_
        · have hi : i < ns.length := by rw [← n]; exact (Array.getElem?_eq_some_iff.mp hv).1
          obtain ⟨t, e⟩ := IntsAre.int_at hit i v (by rw [Array.getElem?_toList]; exact hv)
          exact ⟨ns[i], t, List.getElem?_eq_getElem hi, by rw [e, List.getD_eq_getElem?_getD, List.getElem?_eq_getElem hi]; rfl⟩
        · obtain ⟨h', g2, d', tk', os'⟩ := s'
          have eg : g2 = s.gens := hm.gens
          have ed : d' = s.drawn := hm.drawn
          have eo : os' = s.os := hm.os
          subst eg; subst ed; subst eo
          show wpAny _ _ _ _ _ _
          refine wpAny_pure ?_
          show wpAny _ _ (ret Value.none) _ _ _
          refine wpAny_pure ⟨rfl, h', tk', c', rfl, hS', by rw [← n]; exact hc', fun b o e => ?_⟩
          have b0 := Heap.lt_size e
          exact hm.heap b o (by rw [z1]; simp only [List.mem_cons, List.not_mem_nil, or_false, not_or]; exact ⟨Nat.ne_of_lt b0, Nat.ne_of_lt (Nat.lt_succ_of_lt b0)⟩) (Heap.get?_push_of_some _ (Heap.get?_push_of_some _ e))
      · cases r₂ with
        | error e => exact hr₂
        | ok f2 =>
          cases f2 with
          | ret v2 =>
            obtain ⟨rfl, h', tk, c2, rfl, hS2, hc2, hk⟩ := hr₂
            repeat (any_goals (first | assumption | wp_step))
            exact h h' tk c2 hS2 hc2 hk
          | _ => exact hr₂
    | _ => exact hr
end
/-- set(xs), xs a list of ints -/
def rSetU (K : PySem.W.Frag) (w : World) : List V → Hp → VK → Prop := fun vs H Q => ∃ (l : Addr) (ns : List Int), vs = [V.ref l] ∧ SqL K H l (ns.map V.int) ∧ ns.length < 60 ∧
  ∀ (p : Addr) (n : Nat), H p = none → n ≤ ns.length → Q (.ref p) (upd H p (SetO w p (fun j => decide (j ∈ ns)) n))
theorem cr_setL {X : Cx} (hc : X.calm = true) : CallR X (.type "set") (rSetU X.K X.w) := by
  intro pins s σ H vs us Q I r h
  obtain ⟨l, ns, rfl, hq, hn, q⟩ := h
  rw [Vals.ref1 r]
  obtain ⟨its, rv, pl, hz⟩ := I.list hq
  refine set_of_list ns (I.ok.hd hc) pl.isList (by simpa using ints_of_vals rv) (by unfold scanBound; omega) fun h' tk c R hc k => ?_
  exact ⟨.ref _, _, I.laid (t' := tk) k (Nat.le_refl _) (setO_new R), rfl, q _ c (I.hok.fresh (Nat.le_refl _)) hc⟩
end L2
namespace Zm
open PySem L2
def insU (x : Int) : List Int → List Int
  | [] => [x]
  | y :: l => if x < y then x :: y :: l else if x = y then y :: l else y :: insU x l
def sortU (l : List Int) : List Int := l.foldr insU []
theorem mem_insU {x k : Int} : ∀ {l : List Int}, k ∈ insU x l ↔ k = x ∨ k ∈ l
  | [] => by simp [insU]
  | y :: l => by
    unfold insU
    by_cases a : x < y
    · rw [if_pos a]; simp
    · rw [if_neg a]
      by_cases b : x = y
      · rw [if_pos b]; subst b; simp
      · rw [if_neg b, List.mem_cons, mem_insU, List.mem_cons]
        constructor
        · rintro (h | h | h)
          · exact .inr (.inl h)
          · exact .inl h
          · exact .inr (.inr h)
        · rintro (h | h | h)
          · exact .inr (.inl h)
          · exact .inl h
          · exact .inr (.inr h)
theorem asc_insU {x : Int} : ∀ {l : List Int}, l.Pairwise (· < ·) → (insU x l).Pairwise (· < ·)
  | [], _ => by simp [insU]
  | y :: l, h => by
    obtain ⟨h1, h2⟩ := List.pairwise_cons.mp h
    unfold insU
    by_cases a : x < y
    · rw [if_pos a]
      exact List.pairwise_cons.mpr ⟨fun z hz => by
        rcases List.mem_cons.mp hz with e | m
        · rw [e]; exact a
        · have := h1 z m; omega, h⟩
    · rw [if_neg a]
      by_cases b : x = y
      · rw [if_pos b]; exact h
      · rw [if_neg b]
        exact List.pairwise_cons.mpr ⟨fun z hz => by
          rcases mem_insU.mp hz with e | m
          · omega
          · exact h1 z m, asc_insU h2⟩
theorem mem_sortU {k : Int} : ∀ {l : List Int}, k ∈ sortU l ↔ k ∈ l
  | [] => by simp [sortU]
  | x :: l => by
    show k ∈ insU x (sortU l) ↔ _
    rw [mem_insU, mem_sortU, List.mem_cons]
theorem asc_sortU : ∀ l : List Int, (sortU l).Pairwise (· < ·)
  | [] => .nil
  | x :: l => asc_insU (asc_sortU l)
theorem asc_eq : ∀ {a b : List Int}, a.Pairwise (· < ·) → b.Pairwise (· < ·) → (∀ k, k ∈ a ↔ k ∈ b) → a = b
  | [], [], _, _, _ => rfl
  | [], y :: b, _, _, h => by have := (h y).mpr List.mem_cons_self; simp at this
  | x :: a, [], _, _, h => by have := (h x).mp List.mem_cons_self; simp at this
  | x :: a, y :: b, ha, hb, h => by
    obtain ⟨a1, a2⟩ := List.pairwise_cons.mp ha
    obtain ⟨b1, b2⟩ := List.pairwise_cons.mp hb
    have e : x = y := by
      rcases List.mem_cons.mp ((h x).mp List.mem_cons_self) with e | m
      · exact e
      · rcases List.mem_cons.mp ((h y).mpr List.mem_cons_self) with e | m2
        · exact e.symm
        · have := b1 x m; have := a1 y m2; omega
    subst e
    rw [asc_eq a2 b2 fun k => ⟨fun m => ?_, fun m => ?_⟩]
    · rcases List.mem_cons.mp ((h k).mp (List.mem_cons_of_mem _ m)) with e | m2
      · have := a1 k m; omega
      · exact m2
    · rcases List.mem_cons.mp ((h k).mpr (List.mem_cons_of_mem _ m)) with e | m2
      · have := b1 k m; omega
      · exact m2
def intsO : List D → Option (List Int)
  | [] => some []
  | .int i :: r => (intsO r).map (i :: ·)
  | _ => none
theorem intsO_eq : ∀ {ds : List D} {ns : List Int}, intsO ds = some ns → ds = ns.map D.int
  | [], ns, h => by cases h; rfl
  | .int i :: r, ns, h => by
    obtain ⟨m, h1, h2⟩ := Option.map_eq_some_iff.mp h
    subst h2
    rw [intsO_eq h1]; rfl
section
variable {X : Cx} {K : PySem.W.Frag}
theorem dens_ofI {ρ : Rho} {H : Hp} : ∀ ns : List Int, Dens K ρ H (ns.map V.int) (ns.map D.int)
  | [] => .nil
  | n :: ns => .cons (.int n) (dens_ofI ns)
theorem dens_toI {ρ : Rho} {H : Hp} : ∀ {ns : List Int} {vs : List V}, Dens K ρ H vs (ns.map D.int) → vs = ns.map V.int
  | [], _, .nil => rfl
  | n :: ns, _, .cons a b => by
    cases a
    rw [dens_toI b]; rfl
/-- sorted(set(xs)) -/
def mSS (f : ME) : ME := fun ms => (f ms).bind fun r => match r.1 with
  | .lst ds => (intsO ds).bind fun ns => bif decide (ns.length < 60) then some (.lst ((sortU ns).map D.int), r.2) else none
  | _ => none
theorem rd_ss {w : World} {f : ME} {σ : L2.St} {H : Hp} {Q : VK} (h : rdE K (mSS f) σ H Q) : tCB (rSortedSet w) (tCons (tCB (rSetU K w) (tCons (rdE K f) tNil)) tNil) σ H Q := by
  obtain ⟨ρ, ms, d, h', R, S, e, q⟩ := h
  obtain ⟨r, e1, e2⟩ := Option.bind_eq_some_iff.mp e
  obtain ⟨x, h1⟩ := r
  cases x <;> dsimp only at e2 <;> try (cases e2; done)
  rename_i ds
  obtain ⟨ns, e3, e4⟩ := Option.bind_eq_some_iff.mp e2
  obtain ⟨c, e5⟩ := bif_some e4
  cases e5
  have l := of_decide_eq_true c
  have := intsO_eq e3
  subst this
  refine ⟨ρ, ms, _, _, R, S, e1, fun v H1 ρ1 F1 R1 dn => ?_⟩
  obtain ⟨a, vs, rfl, hq, dv⟩ := den_lst' dn
  have := dens_toI dv
  subst this
  refine ⟨a, ns, rfl, hq, l, fun p n hp hn => ⟨p, _, n, rfl, upd_same, by omega, fun out p2 hs hm hl2 hp2 => ?_⟩⟩
  have eo : out = sortU ns := asc_eq hs (asc_sortU ns) fun k => by rw [hm, mem_sortU]; simp
  subst eo
  exact q _ _ ρ1 (F1.trans ((fut_new _ hp).trans (fut_new _ hp2))) ((R1.new _ hp).new _ hp2) (.lst upd_same ((R1.new _ hp).out hp2) (dens_ofI _))
theorem ev_sortSet {e : Expr} {f : ME} {p p2 pos pos2 : Pos} (hc : X.calm = true) (hm : X.mg "sorted" = none) (hv : bootBuiltins "sorted" = some (.builtin "sorted")) (hm2 : X.mg "set" = none) (hv2 : bootBuiltins "set" = some (.type "set")) (he : EV X e f)
    (hg : Gl X "sorted" := by rfl) (hg2 : Gl X "set" := by rfl)
    (s1 : starEach [e] X.env = (false, eval e X.env) :: starEach [] X.env := by rfl)
    (s2 : starEach [Expr.Call (.Name "set" p2) [e] [] pos2] X.env = (false, eval (Expr.Call (.Name "set" p2) [e] [] pos2) X.env) :: starEach [] X.env := by rfl) :
    EV X (.Call (.Name "sorted" p) [.Call (.Name "set" p2) [e] [] pos2] [] pos) (mSS f) :=
  pe_w (pe_callB (cr_sortedSet hc) hg hm hv (pa_cons (pe_callTy (cr_setL hc) hg2 hm2 hv2 (pa_cons he pa_nil s1) (by decide) (by decide) s1 rfl) pa_nil s2) (by decide) (by decide) s2 rfl) fun _ _ _ => rd_ss
end
end Zm

set_option Elab.async false
set_option linter.all false
set_option maxRecDepth 100000
/-! Zu: sorted(set(xs)), xs a list of tuples of ints. -/
namespace SrtW
open PySem L2 PySem.Spec PyProof.Rows
theorem perm_unmap {α β : Type} {f : α → β} {vs M : List β} (p : vs.Perm M) : ∀ {L : List α}, M = L.map f → ∃ L1 : List α, L1.Perm L ∧ vs = L1.map f := by
  induction p with
  | nil => intro L e; cases L with
    | nil => exact ⟨[], .nil, rfl⟩
    | cons a l => cases e
  | cons x p ih => intro L e; cases L with
    | nil => cases e
    | cons a l =>
      rw [List.map_cons] at e
      injection e with e1 e2
      obtain ⟨L1, h1, h2⟩ := ih e2
      exact ⟨a :: L1, h1.cons a, by rw [List.map_cons, e1, h2]⟩
  | swap x y l => intro L e; match L, e with
    | a :: b :: l', e =>
      rw [List.map_cons, List.map_cons] at e
      injection e with e1 e2
      injection e2 with e2 e3
      exact ⟨b :: a :: l', List.Perm.swap a b l', by rw [List.map_cons, List.map_cons, e1, e2, e3]⟩
  | trans p1 p2 ih1 ih2 =>
    intro L e
    obtain ⟨L1, h1, h2⟩ := ih2 e
    obtain ⟨L0, h3, h4⟩ := ih1 h2
    exact ⟨L0, h3.trans h1, h4⟩
section
variable {P : Program} {w : World} {A : Around} {E : Value → Shared → Prop} {s : Shared}
theorem sorted_setL {a : Addr} {L : List (Addr × List Int)} {es : Array (Int × Value)} {ep : Nat} {t : SetTable} {Q : Value → Shared → Prop} (R : SetTR P w s.heap a L es ep t) (hh : A.handled = none)
    (hne : ∀ p ∈ L, p.2 ≠ [])
    (hQ : ∀ s' p (out : Array Value) (c : Nat) (L' : List (Addr × List Int)), (∀ b o, s.heap.get? b = some o → s'.heap.get? b = some o) → s'.gens = s.gens → s'.os = s.os → s.heap.objs.size ≤ p →
      s'.heap.get? p = some (seqObj "list" out c) → out.toList = L'.map (fun q => Value.ref q.1) → L'.Perm L → Up (L'.map (·.2)) → Q (.ref p) s') :
    wpAny (model P w) A (call (.builtin "sorted") [.ref a]) Q E s := by
  obtain ⟨o, ho, hex, hd⟩ := R.ob
  have hsz := R.size
  have hfew := R.few
  refine Calls.call_function_entry kind_sorted plain_sorted entry_sorted (args_sorted1 _) ?_
  unfold Builtin.«sorted»
  refine wpAny_bind (m := checkCount "sorted" 1 1 _) (wpAny_pure ?_)
  refine wpAny_bind (collect_set (A := A.in1) hh ⟨o, ho, hex.1, hd⟩ R.fits (by unfold scanBound; omega) R.tab.ris R.led fun s1 vs k1 hz g1 o1 pm => ?_)
  have hes : es.toList.map (·.2) = L.map fun q => Value.ref q.1 := by
    rw [R.rows]
    unfold rowsOf
    rw [List.map_map] <;> rfl
  obtain ⟨L1, p1, e1⟩ := perm_unmap (f := fun q : Addr × List Int => Value.ref q.1) pm hes
  subst e1
  have hl : (L1.map fun q => Value.ref q.1).length < 64 := by rw [List.length_map, p1.length_eq]; exact hfew
  refine wpAny_bind (wpAny_newList ?_ (by rw [sizeLine_eq]; omega))
  generalize hH : s1.heap.push (seqObj "list" (L1.map fun q => Value.ref q.1).toArray 0) = h2
  have k2 : ∀ b o, s1.heap.get? b = some o → h2.get? b = some o := fun b o e => by rw [← hH]; exact Heap.get?_push_of_some _ e
  have hoL : h2.get? s1.heap.objs.size = some (seqObj "list" (L1.map fun q => Value.ref q.1).toArray 0) := by rw [← hH]; exact Heap.get?_push_size _ rfl
  have tk : ∀ q ∈ L, TS.TupInts h2 (.ref q.1) q.2 := fun q hq => tupInts_of (P := P) (w := w) (isT_keep (R.tup q hq) fun b u e => k2 b u (k1 b u e))
  have hR : Rows h2 (TS.intsOf h2) (L1.map fun q => Value.ref q.1) := fun v hv => by
    obtain ⟨q, hq, rfl⟩ := List.mem_map.mp hv
    have x := tk q (p1.mem_iff.mp hq)
    rw [x.ints]
    exact ⟨x, hne q (p1.mem_iff.mp hq)⟩
  refine wpAny_bind (wpAny_holding (wpAny_call_entry slot_list_sort ⟨_, hoL, rfl⟩ entry_list_sort (SrtO.list_sort_ord (s := { s1 with heap := h2 }) (swoL (TS.intsOf h2)) hoL (by rw [sizeLine_eq]; omega) (fun g2 => ?_) fun out hs hb => ⟨_, rfl, ?_⟩) (args_list_sort _)))
  · refine row_sortable (s := { s1 with heap := h2 }) (by omega) hR fun o e f => ?_
    have g := e.symm.trans hoL
    cases g
    exact absurd (Value.type.inj f) (by decide)
  · obtain ⟨L', p2, e2⟩ := perm_unmap (f := fun q : Addr × List Int => Value.ref q.1) hb.perm rfl
    obtain ⟨c, hc⟩ := sortedHeap_at (vs := L1.map fun q => Value.ref q.1) (out := out.toArray) hoL
    have pL := p2.trans p1
    have up : Up (L'.map (·.2)) := by
      have e3 : L'.map (·.2) = out.map (TS.intsOf h2) := by
        rw [e2, List.map_map]
        exact List.map_congr_left fun q hq => ((tk q (pL.mem_iff.mp hq)).ints).symm
      rw [e3]
      exact List.pairwise_map.mpr hs
    refine wpAny_pure ⟨_, rfl, hQ _ s1.heap.objs.size out.toArray c L' (fun b u e => ?_) g1 o1 hz hc (by simpa using e2) pL up⟩
    have q := k1 b u e
    have hlt := Heap.lt_size q
    show (sortedHeap h2 s1.heap.objs.size _ out.toArray).get? b = some u
    rw [sortedHeap_old (Nat.ne_of_lt hlt) (by rw [← hH, size_push']; exact Nat.lt_succ_of_lt hlt)]
    exact k2 b u q
end
end SrtW
namespace Zm
open PySem L2 PySem.Spec PyProof.Rows SrtW
section
variable {X : Cx} {K : PySem.W.Frag}
/-- sorted(set), the set of any rows -/
def rSortedS (K : PySem.W.Frag) (P : Program) (w : World) : List V → Hp → VK → Prop := fun vs H Q => ∃ (a : Addr) (L : List (Addr × List Int)), vs = [V.ref a] ∧ H a = some (SetTO P w a L) ∧ (∀ p ∈ L, SqT K H p.1 (p.2.map V.int)) ∧ (∀ p ∈ L, p.2 ≠ []) ∧
  ∀ (L' : List (Addr × List Int)) (p : Addr), L'.Perm L → (L'.map (·.2)).Nodup → L'.length < 64 → Up (L'.map (·.2)) → H p = none → Q (.ref p) (upd H p (.lst (L'.map fun q => V.ref q.1)))
theorem cr_sortedS (hc : X.calm = true) : CallR X (.builtin "sorted") (rSortedS X.K X.prog X.w) := by
  intro pins s σ H vs us Q I r h
  obtain ⟨a, L, rfl, ha, hk, hne, q⟩ := h
  have R0 : SetT0 X.prog X.w s.heap a L := (I.hok a _ ha).1
  obtain ⟨es, ep, t, R⟩ := R0.full fun p hp => I.isT (hk p hp)
  rw [Vals.ref1 r]
  refine sorted_setL R (I.ok.hd hc) hne fun s' p out c L' k g o hp hg hout pm up => ?_
  have few : L'.length < 64 := by rw [pm.length_eq]; exact R.few
  have hv : Vals (L'.map fun q => V.ref q.1) out.toList := by rw [hout]; exact vals_of_refs L'
  have J : Inv X pins σ (upd H p (.lst (L'.map fun q => V.ref q.1))) { s with heap := s'.heap, gens := s'.gens, drawn := s'.drawn, toks := s'.toks } :=
    I.call (ch := []) (Un.laid k hp (I.hok.fresh hp)) (I.hok.laid k hp ⟨by rw [List.length_map, sizeLine_eq]; omega, out.toList, c, hv, hg⟩) (by rw [g]; exact I.bare) (fun _ z => nomatch z)
  have e : s' = { s with heap := s'.heap, gens := s'.gens, drawn := s'.drawn, toks := s'.toks } := by
    cases s'; cases s; cases o; rfl
  rw [e]
  exact ⟨.ref p, _, J, rfl, q L' p pm ((pm.map (·.2)).nodup_iff.mpr R.nd) few up (I.hok.fresh hp)⟩
/-- the rows of a list of data: with their places -/
theorem rows_pairs {ρ : Rho} {H : Hp} : ∀ {vs : List V} {ds : List D} {rows : List (List Int)}, Dens K ρ H vs ds → rowsI ds = some rows → ∃ ks : List (Addr × List Int), vs = (ks.map fun p => V.ref p.1) ∧ ks.map (·.2) = rows ∧ (∀ p ∈ ks, SqT K H p.1 (p.2.map V.int)) ∧ (∀ p ∈ ks, p.2 ≠ []) ∧ ∀ p ∈ ks, Den K ρ H (.ref p.1) (rowD p.2)
  | [], _, rows, .nil, h => by cases h; exact ⟨[], rfl, rfl, (fun _ z => by cases z), (fun _ z => by cases z), (fun _ z => by cases z)⟩
  | v :: vs, d :: ds, rows, .cons a b, h => by
    simp only [rowsI] at h
    obtain ⟨i, h1, h⟩ := Option.bind_eq_some_iff.mp h
    obtain ⟨j, h2, h⟩ := Option.map_eq_some_iff.mp h
    subst h
    obtain ⟨⟨t, rfl, g1⟩, g2⟩ := rowI_den a h1
    obtain ⟨ks, f1, f2, f3, f4, f5⟩ := rows_pairs b h2
    refine ⟨(t, i) :: ks, by rw [f1]; rfl, by rw [List.map_cons, f2], fun p hp => ?_, fun p hp => ?_, fun p hp => ?_⟩ <;> rcases List.mem_cons.mp hp with rfl | hp
    · exact g1
    · exact f3 p hp
    · exact rowI_ne h1
    · exact f4 p hp
    · exact g2 ▸ a
    · exact f5 p hp
/-- the rows, each once, ascending -/
def oneL : List (List Int) → List (List Int)
  | [] => []
  | x :: l => if x ∈ l then oneL l else x :: oneL l
theorem mem_oneL {x : List Int} : ∀ {l : List (List Int)}, x ∈ oneL l ↔ x ∈ l
  | [] => Iff.rfl
  | y :: l => by
    unfold oneL
    by_cases z : y ∈ l
    · rw [if_pos z, mem_oneL, List.mem_cons]
      exact ⟨.inr, fun h => h.elim (fun e => e ▸ z) id⟩
    · rw [if_neg z, List.mem_cons, mem_oneL, List.mem_cons]
theorem nodup_oneL : ∀ l : List (List Int), (oneL l).Nodup
  | [] => .nil
  | y :: l => by
    unfold oneL
    by_cases z : y ∈ l
    · rw [if_pos z]; exact nodup_oneL l
    · rw [if_neg z]; exact List.nodup_cons.mpr ⟨fun m => z (mem_oneL.mp m), nodup_oneL l⟩
/-- sorted(set(xs)), xs a list of rows -/
def mSSR (f : ME) : ME := fun ms => (f ms).bind fun r => match r.1 with
  | .lst ds => (rowsI ds).bind fun rs => bif decide (rs.length < 64) then some (.lst ((sortL (oneL rs)).map rowD), r.2) else none
  | _ => none
theorem rd_ssr {P : Program} {w : World} {f : ME} {σ : L2.St} {H : Hp} {Q : VK} (h : rdE K (mSSR f) σ H Q) : tCB (rSortedS K P w) (tCons (tCB (rSetOfT K P w) (tCons (rdE K f) tNil)) tNil) σ H Q := by
  obtain ⟨ρ, ms, d, h', R, S, e, q⟩ := h
  obtain ⟨r, e1, e2⟩ := Option.bind_eq_some_iff.mp e
  obtain ⟨x, h1⟩ := r
  cases x <;> dsimp only at e2 <;> try (cases e2; done)
  rename_i ds
  obtain ⟨rs, e3, e4⟩ := Option.bind_eq_some_iff.mp e2
  obtain ⟨c, e5⟩ := bif_some e4
  cases e5
  have l := of_decide_eq_true c
  refine ⟨ρ, ms, _, _, R, S, e1, fun v H1 ρ1 F1 R1 dn => ?_⟩
  obtain ⟨a, vs, rfl, hq, dv⟩ := den_lst' dn
  obtain ⟨ks, f1, f2, f3, f4, f5⟩ := rows_pairs dv e3
  subst f1
  refine ⟨a, ks, rfl, hq, f3, by rw [← f2, List.length_map] at l; exact l, fun p L hp sub all => ⟨p, L, rfl, upd_same, fun q hq => ?_, fun q hq => f4 q (sub q hq), fun L' p2 pm nd few up hp2 => ?_⟩⟩
  · obtain ⟨b, us, e, sq, dd⟩ := den_tup ((f5 q (sub q hq)).fut (fut_new (SetTO P w p L) hp))
    cases e
    have := dens_toI dd
    subst this
    exact sq
  · have ee : sortL (oneL rs) = L'.map (·.2) := sortL_of up ((List.perm_ext_iff_of_nodup nd (nodup_oneL rs)).mpr fun x => by
      rw [mem_oneL, ← f2]
      constructor
      · intro m
        obtain ⟨q, hq, rfl⟩ := List.mem_map.mp m
        exact List.mem_map.mpr ⟨q, sub q (pm.mem_iff.mp hq), rfl⟩
      · intro m
        obtain ⟨q, hq, rfl⟩ := List.mem_map.mp m
        exact (pm.map (·.2)).mem_iff.mpr (all q hq))
    have dl : Dens K ρ1 (upd (upd H1 p (SetTO P w p L)) p2 (.lst (L'.map fun q => V.ref q.1))) (L'.map fun q => V.ref q.1) ((sortL (oneL rs)).map rowD) := by
      rw [ee]
      have g : ∀ M : List (Addr × List Int), (∀ q ∈ M, Den K ρ1 H1 (.ref q.1) (rowD q.2)) → Dens K ρ1 H1 (M.map fun q => V.ref q.1) ((M.map (·.2)).map rowD) := by
        intro M
        induction M with
        | nil => intro _; exact .nil
        | cons y M ih => intro hM; exact .cons (hM y List.mem_cons_self) (ih fun q m => hM q (List.mem_cons_of_mem _ m))
      exact ((g L' fun q m => f5 q (sub q (pm.mem_iff.mp m))).fut (fut_new _ hp)).fut (fut_new _ hp2)
    exact q _ _ ρ1 (F1.trans ((fut_new _ hp).trans (fut_new _ hp2))) ((R1.new _ hp).new _ hp2) (.lst upd_same ((R1.new _ hp).out hp2) dl)
end
end Zm

set_option Elab.async false
set_option linter.all false
set_option maxRecDepth 100000
/-! Zv: set(t), t a tuple of rows; sorted(set(..)) of whatever of these. -/
namespace SrtW
open PySem L2 PySem.Spec PyProof.Rows
section
variable {P : Program} {w : World} {A : Around} {E : Value → Shared → Prop} {s : Shared}
set_option maxHeartbeats 3200000 in
theorem set_of_tup {l : Addr} {items : Array Value} (ks : List (Addr × List Int)) {Q : Value → Shared → Prop} (hh : A.handled = none) (hl : s.heap.IsTuple l items) (hit : items.toList = ks.map fun p => Value.ref p.1)
    (hk : ∀ p ∈ ks, IsT P w s.heap p.2 p.1) (hfew : ks.length < 64) (hu : A.units + 3 < cLine)
    (h : ∀ (h' : Heap) (tk : Nat) L es ep t, SetTR P w h' s.heap.objs.size L es ep t → Got ks ks.length L → (∀ b o, s.heap.get? b = some o → h'.get? b = some o) → Q (.ref s.heap.objs.size) { s with heap := h', toks := tk }) :
    wpAny (model P w) A (call (.type "set") [.ref l]) Q E s := by
  have n : items.size = ks.length := by rw [← Array.length_toList, hit, List.length_map]
  have big : l < s.heap.objs.size := by obtain ⟨o, ho, _⟩ := hl; exact Heap.lt_size ho
  have z1 : (s.heap.push (oSet0 w)).objs.size = s.heap.objs.size + 1 := Heap.size_push ..
  have at0 : (s.heap.push (oSet0 w)).get? s.heap.objs.size = some (oSet0 w) := Heap.get?_push_size _ rfl
  have none_of : ∀ b, s.heap.objs.size ≤ b → s.heap.get? b = none := fun b hb => by
    cases q : s.heap.get? b with
    | none => rfl
    | some o => exact absurd (Nat.lt_of_lt_of_le (Heap.lt_size q) hb) (Nat.lt_irrefl _)
  obtain ⟨c, tl, hmro⟩ := F.called_set.mro
  have hmade := F.called_set.made
  have hsub := F.called_set.sub
  refine wpAny_call (codeAny_of_tree ?_)
  show wpAny _ _ (callAny (.type "set") _) _ _ _
  refine wpAny_pure ⟨Code.quiet_builtin _ (by decide +kernel), codeAny_builtin F.entry_type_call ?_⟩
  rw [Around.under_plain (weight_type_call_type "set" [.ref l] []) rfl]
  have h1 := F.called_set.notType
  have h2 := F.called_set.canCreate
  have hct := F.typeCall_set_1 (.ref l)
  repeat (any_goals (first | assumption | wp_step))
  refine codeAny_mono (code_set_led1 (.ref l) (E := E) (Q₁ := fun obj s₁ => obj = .ref s.heap.objs.size ∧ s₁ = { s with heap := s.heap.push (oSet0 w) }) ⟨rfl, rfl⟩) fun r s₁ hr => ?_
  cases r with
  | error e => exact hr
  | ok fl =>
    cases fl with
    | ret obj =>
      obtain ⟨rfl, rfl⟩ := hr
      have hT : Shared.TypeIs { s with heap := s.heap.push (oSet0 w) } (.ref s.heap.objs.size) "set" := ⟨_, at0, rfl⟩
      have hli := F.called_set.init.lookup
      have hbi := F.called_set.init.bind (.ref s.heap.objs.size)
      repeat (any_goals (first | assumption | wp_step))
      refine codeAny_mono (codeAny_call_builtin (R := wants (fun r s₂ => r = .none ∧ ∃ h' tk L es ep t, s₂ = { s with heap := h', toks := tk } ∧ SetTR P w h' s.heap.objs.size L es ep t ∧ Got ks ks.length L ∧
          (∀ b o, s.heap.get? b = some o → h'.get? b = some o)) E) F.called_set.init.plain F.entry_set_init (check_set_init_1 hT ?_)) fun r₂ s₂ hr₂ => ?_
      · have hl1 : (s.heap.push (oSet0 w)).IsTuple l items := hl.push _
        have hol := hl1
        obtain ⟨ol, hol, hcl, hrest⟩ := hol
        obtain ⟨ocls, odict, odata, oslots⟩ := ol
        simp only at hcl
        subst hcl
        have hsls := F.sub_tuple_set
        have hslf := F.sub_tuple_frozenset
        have hne : (Value.type "tuple" == Value.type "dict") = false := by decide
        unfold Builtin.«set.__init__» noKeywords Builtin.Frozenset.updateFrom
        generalize hPI : pyIter = PI
        wp_walk
        subst hPI
        refine wpAny_pyIter_tuple hl1 ?_
        refine wpAny_bind (wpAny_runValue ?_)
        have hh3 : A.in1.in1.in1.handled = none := by simp [hh]
        refine set_update_tups ((Walks.tuple hh3 (s.heap.push (oSet0 w)).objs.size l (by rw [z1]; exact Nat.ne_of_lt (Nat.lt_succ_of_lt big)) items).toS) s.heap.objs.size (by rw [z1]; simp only [List.mem_cons, List.not_mem_nil, or_false, not_or]; exact ⟨Nat.ne_of_lt (Nat.lt_succ_self _), Nat.ne_of_gt big⟩)
          ks n hfew (fun i v hv => ?_) s.heap hk (none_of _ (Nat.le_refl _)) (fun b hb => none_of b (by rw [List.mem_singleton.mp hb, z1]; exact Nat.le_succ _)) hu (items.size - 0) 0 _ (by omega) (Nat.zero_le _)
          ⟨⟨_, Heap.get?_push_size _ rfl, rfl, rfl⟩, hl1.push _⟩ (fun b o e => Heap.get?_push_of_some _ (Heap.get?_push_of_some _ e)) ⟨[], #[], 0, _, setTR_fresh (Heap.get?_push_of_some _ at0), Got.zero ks⟩ fun s' L es ep t hm hS' g' hkp => ?_
        · have q : items.toList[i]? = some v := by rw [Array.getElem?_toList]; exact hv
          rw [hit, List.getElem?_map] at q
          obtain ⟨p, q1, q2⟩ := Option.map_eq_some_iff.mp q
          exact ⟨p, q1, q2.symm⟩
        · obtain ⟨h', g2, d', tk', os'⟩ := s'
          have eg : g2 = s.gens := hm.gens
          have ed : d' = s.drawn := hm.drawn
          have eo : os' = s.os := hm.os
          subst eg; subst ed; subst eo
          show wpAny _ _ _ _ _ _
          refine wpAny_pure ?_
          show wpAny _ _ (ret Value.none) _ _ _
          rw [n] at g'
          exact wpAny_pure ⟨rfl, h', tk', L, es, ep, t, rfl, hS', g', hkp⟩
      · cases r₂ with
        | error e => exact hr₂
        | ok f2 =>
          cases f2 with
          | ret v2 =>
            obtain ⟨rfl, h', tk, L, es, ep, t, rfl, hS', g', hk'⟩ := hr₂
            repeat (any_goals (first | assumption | wp_step))
            exact h _ _ _ _ _ _ hS' g' hk'
          | _ => exact hr₂
    | _ => exact hr
end
end SrtW
namespace Zm
open PySem L2 PySem.Spec PyProof.Rows SrtW
section
variable {X : Cx} {K : PySem.W.Frag}
/-- set(t), t a tuple of rows -/
def rSetTup (K : PySem.W.Frag) (P : Program) (w : World) : List V → Hp → VK → Prop := fun xs H Q => ∃ (l : Addr) (ks : List (Addr × List Int)), xs = [V.ref l] ∧ SqT K H l (ks.map fun p => V.ref p.1) ∧ (∀ p ∈ ks, SqT K H p.1 (p.2.map V.int)) ∧ ks.length < 64 ∧
  ∀ a L, H a = none → (∀ p ∈ L, p ∈ ks) → (∀ p ∈ ks, p.2 ∈ L.map (·.2)) → Q (.ref a) (upd H a (SetTO P w a L))
theorem cr_setTup (hc : X.calm = true) (hu : X.A.units + 64 < cLine) : CallR X (.type "set") (rSetTup X.K X.prog X.w) := by
  intro pins s σ H xs us Q I r h
  obtain ⟨l, ks, rfl, hl, hk, hf, q⟩ := h
  rw [Vals.ref1 r]
  obtain ⟨its, rv, pl, hz⟩ := I.tuple hl
  refine set_of_tup (P := X.prog) (w := X.w) ks (I.ok.hd hc) (show s.heap.IsTuple l its.toArray from pl) (by simpa using refs_of_vals rv) (fun p hp => I.isT (hk p hp)) hf (by omega) fun h' tk L es ep t R g k => ?_
  refine ⟨.ref s.heap.objs.size, upd H s.heap.objs.size (SetTO X.prog X.w s.heap.objs.size L), I.laid (t' := tk) k (Nat.le_refl _) (setTO_new R.t0), rfl, q _ L (I.hok.fresh (Nat.le_refl _)) (fun p hp => ?_) fun p hp => ?_⟩
  · exact List.mem_of_mem_take (g.sub p hp)
  · exact g.all p (by rw [List.take_length]; exact hp)
theorem cr_alt {v : Value} {r1 r2 : List V → Hp → VK → Prop} (a : CallR X v r1) (b : CallR X v r2) : CallR X v (fun xs H Q => r1 xs H Q ∨ r2 xs H Q) := fun pins s σ H xs us Q I r h => h.elim (a pins s σ H xs us Q I r) (b pins s σ H xs us Q I r)
/-- sorted(set(xs)) of ints or of rows -/
def ssD : D → Option (List D)
  | .lst ds => match intsO ds with
    | some ns => bif decide (ns.length < 60) then some ((sortU ns).map D.int) else none
    | none => (rowsI ds).bind fun rs => bif decide (rs.length < 64) then some ((sortL (oneL rs)).map rowD) else none
  | .tup ds => (rowsI ds).bind fun rs => bif decide (rs.length < 64) then some ((sortL (oneL rs)).map rowD) else none
  | _ => none
def mSSX (f : ME) : ME := fun ms => (f ms).bind fun r => (ssD r.1).map fun l => (.lst l, r.2)
abbrev rSo (K : PySem.W.Frag) (P : Program) (w : World) : List V → Hp → VK → Prop := fun xs H Q => rSortedSet w xs H Q ∨ rSortedS K P w xs H Q
abbrev rSe (K : PySem.W.Frag) (P : Program) (w : World) : List V → Hp → VK → Prop := fun xs H Q => rSetU K w xs H Q ∨ (rSetOfT K P w xs H Q ∨ rSetTup K P w xs H Q)
/-- from the rows' set on -/
theorem rows_fin {P : Program} {w : World} {ρ0 ρ1 : Rho} {h1 : Cells} {H0 H1 : Hp} {Q : VK} {rs : List (List Int)} {ks : List (Addr × List Int)} (F1 : Fut ρ0 H0 ρ1 H1) (R1 : Rel K ρ1 h1 H1) (f2 : ks.map (·.2) = rs) (f4 : ∀ p ∈ ks, p.2 ≠ [])
    (f5 : ∀ p ∈ ks, Den K ρ1 H1 (.ref p.1) (rowD p.2)) (q : ∀ v H' ρ', Fut ρ0 H0 ρ' H' → Rel K ρ' h1 H' → Den K ρ' H' v (.lst ((sortL (oneL rs)).map rowD)) → Q v H')
    (p : Addr) (L : List (Addr × List Int)) (hp : H1 p = none) (sub : ∀ x ∈ L, x ∈ ks) (all : ∀ x ∈ ks, x.2 ∈ L.map (·.2)) : rSortedS K P w [.ref p] (upd H1 p (SetTO P w p L)) Q := by
  refine ⟨p, L, rfl, upd_same, fun q hq => ?_, fun q hq => f4 q (sub q hq), fun L' p2 pm nd few up hp2 => ?_⟩
  · obtain ⟨b, us, e, sq, dd⟩ := den_tup ((f5 q (sub q hq)).fut (fut_new (SetTO P w p L) hp))
    cases e
    have := dens_toI dd
    subst this
    exact sq
  · have ee : sortL (oneL rs) = L'.map (·.2) := sortL_of up ((List.perm_ext_iff_of_nodup nd (nodup_oneL rs)).mpr fun x => by
      rw [mem_oneL, ← f2]
      constructor
      · intro m
        obtain ⟨q, hq, rfl⟩ := List.mem_map.mp m
        exact List.mem_map.mpr ⟨q, sub q (pm.mem_iff.mp hq), rfl⟩
      · intro m
        obtain ⟨q, hq, rfl⟩ := List.mem_map.mp m
        exact (pm.map (·.2)).mem_iff.mpr (all q hq))
    have g : ∀ M : List (Addr × List Int), (∀ q ∈ M, Den K ρ1 H1 (.ref q.1) (rowD q.2)) → Dens K ρ1 H1 (M.map fun q => V.ref q.1) ((M.map (·.2)).map rowD) := by
      intro M
      induction M with
      | nil => intro _; exact .nil
      | cons y M ih => intro hM; exact .cons (hM y List.mem_cons_self) (ih fun q m => hM q (List.mem_cons_of_mem _ m))
    have dl := ((g L' fun q m => f5 q (sub q (pm.mem_iff.mp m))).fut (fut_new (SetTO P w p L) hp)).fut (fut_new (.lst (L'.map fun q => V.ref q.1)) hp2)
    rw [← ee] at dl
    exact q _ _ ρ1 (F1.trans ((fut_new _ hp).trans (fut_new _ hp2))) ((R1.new _ hp).new _ hp2) (.lst upd_same ((R1.new _ hp).out hp2) dl)
theorem rd_ssx {P : Program} {w : World} {f : ME} {σ : L2.St} {H : Hp} {Q : VK} (h : rdE K (mSSX f) σ H Q) : tCB (rSo K P w) (tCons (tCB (rSe K P w) (tCons (rdE K f) tNil)) tNil) σ H Q := by
  obtain ⟨ρ, ms, d, h', R, S, e, q⟩ := h
  obtain ⟨r, e1, e2⟩ := Option.bind_eq_some_iff.mp e
  obtain ⟨x, h1⟩ := r
  obtain ⟨y, e3, e4⟩ := Option.map_eq_some_iff.mp e2
  cases e4
  refine ⟨ρ, ms, x, h1, R, S, e1, fun v H1 ρ1 F1 R1 dn => ?_⟩
  cases x <;> dsimp only [ssD] at e3 <;> try (cases e3; done)
  · rename_i ds
    obtain ⟨rs, e5, e6⟩ := Option.bind_eq_some_iff.mp e3
    obtain ⟨c, e7⟩ := bif_some e6
    cases e7
    have l := of_decide_eq_true c
    obtain ⟨a, vs, rfl, hq, dv⟩ := den_tup dn
    obtain ⟨ks, f1, f2, f3, f4, f5⟩ := rows_pairs dv e5
    subst f1
    exact .inr (.inr ⟨a, ks, rfl, hq, f3, by rw [← f2, List.length_map] at l; exact l, fun p L hp sub all => .inr (rows_fin F1 R1 f2 f4 f5 q p L hp sub all)⟩)
  · rename_i ds
    cases ei : intsO ds with
    | some ns =>
      rw [ei] at e3
      obtain ⟨c, e5⟩ := bif_some e3
      cases e5
      have l := of_decide_eq_true c
      have := intsO_eq ei
      subst this
      obtain ⟨a, vs, rfl, hq, dv⟩ := den_lst' dn
      have := dens_toI dv
      subst this
      refine .inl ⟨a, ns, rfl, hq, l, fun p n hp hn => .inl ⟨p, _, n, rfl, upd_same, by omega, fun out p2 hs hm hl2 hp2 => ?_⟩⟩
      have eo : out = sortU ns := asc_eq hs (asc_sortU ns) fun k => by rw [hm, mem_sortU]; simp
      subst eo
      exact q _ _ ρ1 (F1.trans ((fut_new _ hp).trans (fut_new _ hp2))) ((R1.new _ hp).new _ hp2) (.lst upd_same ((R1.new _ hp).out hp2) (dens_ofI _))
    | none =>
      rw [ei] at e3
      obtain ⟨rs, e5, e6⟩ := Option.bind_eq_some_iff.mp e3
      obtain ⟨c, e7⟩ := bif_some e6
      cases e7
      have l := of_decide_eq_true c
      obtain ⟨a, vs, rfl, hq, dv⟩ := den_lst' dn
      obtain ⟨ks, f1, f2, f3, f4, f5⟩ := rows_pairs dv e5
      subst f1
      exact .inr (.inl ⟨a, ks, rfl, hq, f3, by rw [← f2, List.length_map] at l; exact l, fun p L hp sub all => .inr (rows_fin F1 R1 f2 f4 f5 q p L hp sub all)⟩)
theorem ev_sortSetX {e : Expr} {f : ME} {p p2 pos pos2 : Pos} (hc : X.calm = true) (hu : X.A.units + 64 < cLine) (hm : X.mg "sorted" = none) (hv : bootBuiltins "sorted" = some (.builtin "sorted")) (hm2 : X.mg "set" = none) (hv2 : bootBuiltins "set" = some (.type "set")) (he : EV X e f)
    (hg : Gl X "sorted" := by rfl) (hg2 : Gl X "set" := by rfl)
    (s1 : starEach [e] X.env = (false, eval e X.env) :: starEach [] X.env := by rfl)
    (s2 : starEach [Expr.Call (.Name "set" p2) [e] [] pos2] X.env = (false, eval (Expr.Call (.Name "set" p2) [e] [] pos2) X.env) :: starEach [] X.env := by rfl) :
    EV X (.Call (.Name "sorted" p) [.Call (.Name "set" p2) [e] [] pos2] [] pos) (mSSX f) :=
  pe_w (pe_callB (cr_alt (cr_sortedSet hc) (cr_sortedS hc)) hg hm hv (pa_cons (pe_callTy (cr_alt (cr_setL hc) (cr_alt (cr_setOfT hc hu) (cr_setTup hc hu))) hg2 hm2 hv2 (pa_cons he pa_nil s1) (by decide) (by decide) s1 rfl) pa_nil s2) (by decide) (by decide) s2 rfl) fun _ _ _ => rd_ssx
end
end Zm

set_option Elab.async false
set_option linter.all false
set_option maxRecDepth 100000
/-! Zw: list(x) that is to change; l.pop(i). -/
namespace Zm
open PySem L2 PySem.Spec PyProof.Rows
section
variable {X : Cx} {K : PySem.W.Frag}
def mListC (f : ME) : ME := fun ms => (f ms).bind fun r => (rowsOf r.2 r.1).map fun ds => (.cell r.2.length, r.2 ++ [ds])
theorem rd_listC {f : ME} {σ : L2.St} {H : Hp} {Q : VK} (h : rdE K (mListC f) σ H Q) : tCB (fun xs H Q => ∃ p ys, xs = [V.ref p] ∧ (SqL K H p ys ∨ SqT K H p ys) ∧ ∀ l, H l = none → Q (.ref l) (upd H l (.lst ys))) (tCons (rdE K f) tNil) σ H Q := by
  obtain ⟨ρ, ms, d, h', R, S, e, q⟩ := h
  obtain ⟨⟨x, h1⟩, e1, e2⟩ := Option.bind_eq_some_iff.mp e
  obtain ⟨ds, e3, e4⟩ := Option.map_eq_some_iff.mp e2
  cases e4
  refine ⟨ρ, ms, x, h1, R, S, e1, fun v H1 ρ1 F1 R1 dn => ?_⟩
  obtain ⟨p, vs, rfl, s1, t1⟩ := rowsOf_den R1 dn e3
  exact ⟨p, vs, rfl, s1, fun l ho => q _ _ (ρ1.add l) (F1.trans (fut_cell _ ho)) (R1.more ho t1) (.cell (by rw [← R1.len]; simp [Rho.add]))⟩
theorem ev_listC {e : Expr} {f : ME} {p pos : Pos} (hm : X.mg "list" = none) (hv : bootBuiltins "list" = some (.type "list")) (he : EV X e f) (hg : Gl X "list" := by rfl)
    (s1 : starEach [e] X.env = (false, eval e X.env) :: starEach [] X.env := by rfl) : EV X (.Call (.Name "list" p) [e] [] pos) (mListC f) :=
  pe_w (pe_callTy call_list_of hg hm hv (pa_cons he pa_nil s1) (by decide) (by decide) s1 rfl) fun _ _ _ => rd_listC
theorem dens_drop {ρ : Rho} {H : Hp} : ∀ {vs : List V} {ds : List D} (j : Nat), Dens K ρ H vs ds → Dens K ρ H (vs.eraseIdx j) (ds.eraseIdx j)
  | _ :: _, _ :: _, 0, .cons a b => b
  | _ :: _, _ :: _, j + 1, .cons a b => .cons a (dens_drop j b)
  | [], [], j, .nil => .nil
def mPop (f : ME) (g : MA) : ME := fun ms => (f ms).bind fun r => (g { ms with h := r.2 }).bind fun s => match r.1, s.1 with
  | .cell i, [.int k] => (s.2[i]?).bind fun ds => bif big62 k then (seqIndex? k ds.length).bind fun j => (ds[j]?).map fun d => (d, s.2.set i (ds.eraseIdx j)) else none
  | _, _ => none
theorem ev_pop {o e : Expr} {apos cpos : Pos} {f : ME} {g : MA} (ho : EV X o f) (ha : AV X [e] g) (hbase : attributeBase o "pop" X.env (eval o X.env) = eval o X.env := by rfl)
    (hfew : ((backTo cpos (starEach [e] X.env)).all (fun x => !x.1) && (backToKw cpos (keywordEach [] X.env)).all (fun x => x.1.isSome)
      && decide (([e] : List Expr).length + ([] : List Keyword).length + (if ([] : List Keyword).isEmpty then 0 else 1) < 30)) = true := by rfl)
    (hline : (apos.endLine == cpos.line) = true := by rfl) (hs : starEach [e] X.env = (false, eval e X.env) :: starEach [] X.env := by rfl) (hplain : (backTo cpos (starEach [] X.env)).any (·.1) = false := by rfl) :
    EV X (.Call (.Attribute o "pop" apos) [e] [] cpos) (mPop f g) := by
  refine pe_w (pe_bm PySem.F.plainAttrs_list PySem.F.slot_list_pop PySem.F.type_list_pop mt_popAt ho ha hbase hfew hline hs hplain) fun σ H Q h => ?_
  obtain ⟨ρ, ms, d, h', R, S, e, q⟩ := h
  obtain ⟨⟨dx, h1⟩, e1, e2⟩ := Option.bind_eq_some_iff.mp e
  obtain ⟨⟨ds, h2⟩, e3, e4⟩ := Option.bind_eq_some_iff.mp e2
  dsimp only at e4
  split at e4
  · rename_i i k
    obtain ⟨es, e5, e6⟩ := Option.bind_eq_some_iff.mp e4
    have c : big62 k = true := by
      cases z : big62 k with
      | true => rfl
      | false => rw [z] at e6; cases e6
    have e7 := e6
    rw [c] at e7
    simp only [cond_true] at e7
    obtain ⟨j, e8, e9⟩ := Option.bind_eq_some_iff.mp e7
    obtain ⟨y, e10, e11⟩ := Option.map_eq_some_iff.mp e9
    cases e11
    have c := of_decide_eq_true c
    refine ⟨ρ, ms, .cell i, h1, R, S, e1, fun x H1 ρ1 F1 R1 dn1 => ?_⟩
    have dn1' := dn1
    cases dn1 with
    | cell g1 =>
      rename_i a
      have hl : i < h1.length := by
        obtain ⟨z, _⟩ := List.getElem?_eq_some_iff.mp g1
        rw [← R1.len]; exact z
      obtain ⟨vs0, q0, _⟩ := R1.at_ _ _ _ g1 (List.getElem?_eq_getElem hl)
      refine ⟨Or.inl ⟨rfl, _, SqL.of q0⟩, ρ1, { ms with h := h1 }, [.int k], h2, R1, S.fut F1, e3, fun xs H2 ρ2 F2 R2 dn2 => ?_⟩
      obtain ⟨x2, rfl, dn3⟩ := dens1 dn2
      cases dn3
      have g2 := F2.cellAt g1
      obtain ⟨vs, q1, q2⟩ := R2.at_ _ _ _ g2 e5
      obtain ⟨v, w1, w2⟩ := q2.get e10
      refine ⟨a, vs, k, j, v, rfl, rfl, q1, by omega, by omega, by rw [q2.length]; exact e8, w1, ?_⟩
      exact q _ _ ρ2 ((F1.trans F2).trans (fut_wr _ g2)) (R2.wr g2 (dens_drop j q2)) (w2.fut (fut_wr _ g2))
  · cases e4
end
end Zm

set_option Elab.async false
set_option linter.all false
set_option maxRecDepth 100000
/-! Zx: powers of great numbers, small exponents. -/
namespace Zm
open PySem L2 PyProof.Rows
section
variable {X : Cx} {K : PySem.W.Frag}
def CPowW (i j : Int) : Prop := 0 ≤ j ∧ j ≤ 100 ∧ i.natAbs.log2 < 1000000
theorem bits_powW {i j : Int} (h0 : 0 ≤ j) (h1 : j ≤ 100) (h2 : i.natAbs.log2 < 1000000) : (Builtin.Int.intBits i : Int) * j ≤ 2 ^ 27 := by
  have hb : (Builtin.Int.intBits i : Int) ≤ 1000000 := by
    unfold Builtin.Int.intBits
    split <;> omega
  have hb0 : (0 : Int) ≤ (Builtin.Int.intBits i : Int) := Int.natCast_nonneg _
  calc (Builtin.Int.intBits i : Int) * j ≤ 1000000 * 100 := Int.mul_le_mul hb h1 h0 (by decide)
    _ ≤ 2 ^ 27 := by decide
theorem op_powW : OpR X (binaryOp .Pow) (rI CPowW fun i j => .int (i ^ j.toNat)) := opI fun _ _ _ _ _ _ _ hc q => pow_int hc.1 (bits_powW hc.1 hc.2.1 hc.2.2) q
def powC (i j : Int) : Bool := decide (0 ≤ j ∧ j ≤ 100 ∧ i.natAbs.log2 < 1000000)
def oPowW : Cells → D → D → Option D
  | _, .int i, .int j => bif powC i j then some (.int (i ^ j.toNat)) else none
  | _, _, _ => none
theorem p_powW : Op2 K (rI CPowW fun i j => .int (i ^ j.toNat)) oPowW := by
  intro ρ h H x y dx dy d Q R a b e k
  cases dx <;> cases dy <;> simp only [oPowW] at e <;> try (cases e; done)
  obtain ⟨c, e⟩ := bif_some e
  cases e
  rename_i i j
  have c' : 0 ≤ j ∧ j ≤ 100 ∧ i.natAbs.log2 < 1000000 := of_decide_eq_true c
  exact ⟨_, _, den_int a, den_int b, c', k _ _ ρ (.refl _ _) R (.int _)⟩
end
end Zm
namespace Zm
open PySem L2
section
variable {X : Cx} {K : PySem.W.Frag}
/-! a + b of lists, a new cell -/
def rowL (h : Cells) : D → Option (List D)
  | .lst ds => some ds
  | .cell i => h[i]?
  | _ => none
theorem rowL_den {ρ : Rho} {h : Cells} {H : Hp} {v : V} {d : D} {ds : List D} (R : Rel K ρ h H) (a : Den K ρ H v d) (e : rowL h d = some ds) : ∃ p vs, v = .ref p ∧ H p = some (.lst vs) ∧ Dens K ρ H vs ds := by
  cases d <;> simp only [rowL] at e <;> try (cases e; done)
  · cases e
    obtain ⟨p, vs, rfl, hp, _, t⟩ := den_len a
    exact ⟨p, vs, rfl, hp, t⟩
  · cases a with
    | cell g =>
      obtain ⟨vs, q, t⟩ := R.at_ _ _ _ g e
      exact ⟨_, vs, rfl, q, t⟩
def mAddL (f g : ME) : ME := fun ms => (f ms).bind fun r => (g { ms with h := r.2 }).bind fun s => (rowL s.2 r.1).bind fun a => (rowL s.2 s.1).bind fun b => bif decide (a.length + b.length ≤ line) then some (.cell s.2.length, s.2 ++ [a ++ b]) else none
theorem ev_addL {a b : Expr} {pos : Pos} {f g : ME} (ha : EV X a f) (hb : EV X b g) : EV X (.BinOp a .Add b pos) (mAddL f g) := by
  refine pe_w (pe_op or_addAll ha hb) fun σ H Q h => ?_
  obtain ⟨ρ, ms, d, h', R, S, e, q⟩ := h
  obtain ⟨⟨dx, h1⟩, e1, e2⟩ := Option.bind_eq_some_iff.mp e
  obtain ⟨⟨dy, h2⟩, e3, e4⟩ := Option.bind_eq_some_iff.mp e2
  obtain ⟨xs, e5, e6⟩ := Option.bind_eq_some_iff.mp e4
  obtain ⟨ys, e7, e8⟩ := Option.bind_eq_some_iff.mp e6
  obtain ⟨c, e9⟩ := bif_some e8
  cases e9
  have c := of_decide_eq_true c
  refine ⟨ρ, ms, dx, h1, R, S, e1, fun x H1 ρ1 F1 R1 dn1 => ?_⟩
  refine ⟨ρ1, { ms with h := h1 }, dy, h2, R1, S.fut F1, e3, fun y H2 ρ2 F2 R2 dn2 => ?_⟩
  obtain ⟨p, vs, rfl, s1, t1⟩ := rowL_den R2 (dn1.fut F2) e5
  obtain ⟨r, ws, rfl, s2, t2⟩ := rowL_den R2 dn2 e7
  refine .inr (.inr (.inl ⟨p, r, vs, ws, rfl, rfl, s1, s2, by rw [t1.length, t2.length, ← line_eq]; exact c, fun o ho => ?_⟩))
  exact q _ _ (ρ2.add o) ((F1.trans F2).trans (fut_cell _ ho)) (R2.more ho (t1.append t2)) (.cell (by rw [← R2.len]; simp [Rho.add]))
/-! for, over a list that is a cell -/
abbrev MIC := MS → Option (Nat × Cells)
def YieldsC (K : PySem.W.Frag) (ρ0 : Rho) (H0 : Hp) (J : It) (c : Nat) : Prop :=
  ∀ i ρ H h ds, Fut ρ0 H0 ρ H → Rel K ρ h H → h[c]? = some ds → (ds.length ≤ i → J.stop i H) ∧ ∀ d, ds[i]? = some d → J.go i H ∧ ∀ x H', J.yld i H x H' → Fut ρ H ρ H' ∧ Rel K ρ h H' ∧ Den K ρ H' x d
def rdIC (K : PySem.W.Frag) (f : MIC) : TI := fun σ H Rk => ∃ ρ ms c h' ds, Rel K ρ ms.h H ∧ Slots K ρ H ms.s σ ∧ f ms = some (c, h') ∧ h'[c]? = some ds ∧ ∀ J H' ρ', Fut ρ H ρ' H' → Rel K ρ' h' H' → YieldsC K ρ' H' J c → Rk J H'
def iC (f : ME) : MIC := fun ms => (f ms).bind fun r => match r.1 with | .cell c => some (c, r.2) | _ => none
theorem bif_some' {α : Type} {c : Bool} {x : Option α} {z : α} (h : (bif c then x else none) = some z) : c = true ∧ x = some z := by
  cases c
  · cases h
  · exact ⟨rfl, h⟩
theorem iv_cell {tg l : Expr} {f : ME} (h : EV X l f) : PI X tg l (rdIC X.K (iC f)) := by
  refine pi_w (pi_list h) fun σ H Rk h => ?_
  obtain ⟨ρ, ms, c, h', ds, R, S, e, hc, q⟩ := h
  obtain ⟨⟨d, h1⟩, e1, e2⟩ := Option.bind_eq_some_iff.mp e
  cases d <;> try (cases e2; done)
  cases e2
  refine ⟨ρ, ms, _, _, R, S, e1, fun v H1 ρ1 F1 R1 dn => ?_⟩
  cases dn with
  | cell g =>
    rename_i a
    obtain ⟨vs, q1, t1⟩ := R1.at_ _ _ _ g hc
    refine ⟨a, rfl, ⟨vs, SqL.of q1⟩, q _ _ ρ1 F1 R1 fun i ρ2 H2 h2 es F2 R2 h2c => ?_⟩
    obtain ⟨ws, q2, t2⟩ := R2.at_ _ _ _ (F2.cellAt g) h2c
    refine ⟨fun hl => ⟨ws, SqL.of q2, by rw [t2.length]; exact hl⟩, fun d hd => ?_⟩
    obtain ⟨x, hx, dx⟩ := t2.get hd
    refine ⟨⟨ws, x, SqL.of q2, hx⟩, fun y H' hy => ?_⟩
    obtain ⟨rfl, hy⟩ := hy
    have hy' := hy ws (SqL.of q2)
    rw [hx] at hy'
    cases hy'
    exact ⟨.refl _ _, R2, dx⟩
def mForCL (c n : Nat) (g : MG) (b : MB) : Nat → MB
  | 0, ms => (ms.h[c]?).bind fun ds => bif decide (ds.length = n) then some (.nx, ms) else none
  | k + 1, ms => (ms.h[c]?).bind fun ds => bif decide (ds.length = n) then (ds[n - (k + 1)]?).bind fun d => (g d ms).bind fun m1 => (b m1).bind fun t => match t.1 with
      | .nx => mForCL c n g b k t.2
      | .ct => mForCL c n g b k t.2
      | .bk => some (.nx, t.2)
      | .ret d => some (.ret d, t.2) else none
def mForC (f : MIC) (g : MG) (b : MB) : MB := fun ms => (f ms).bind fun r => (r.2[r.1]?).bind fun ds => mForCL r.1 ds.length g b ds.length { ms with h := r.2 }
theorem bv_forC {tg iter : Expr} {body : List Stmt} {pos : Pos} {f : MIC} {g : MG} {b : MB} (hi : PI X tg iter (rdIC X.K f)) (hg : GV X tg g) (hb : BVs X body b) (hc : X.calm = true) (hp : PassesOwn (model X.prog X.w) X.A X.env X.xe)
    (hs : ∀ x, foldedSetIterable iter X.env x = pure x := by intro _; rfl) : BV X (.For tg iter body [] pos) (mForC f g b) := by
  refine ps_w (ps_for hp hc hi hg hb hs) fun D σ H h => ?_
  obtain ⟨ρ, ms, o, ms', R, S, e, q⟩ := h
  obtain ⟨⟨c, h1⟩, e1, e2⟩ := Option.bind_eq_some_iff.mp e
  obtain ⟨ds, e0, e2⟩ := Option.bind_eq_some_iff.mp e2
  refine ⟨ρ, ms, c, h1, ds, R, S, e1, e0, fun J H1 ρ1 F1 R1 Y => ?_⟩
  refine ⟨fun i m σ2 H2 => m = ds.length - i ∧ i ≤ ds.length ∧ ∃ ρ2 ms2, Fut ρ1 H1 ρ2 H2 ∧ Rel X.K ρ2 ms2.h H2 ∧ Slots X.K ρ2 H2 ms2.s σ2 ∧ mForCL c ds.length g b (ds.length - i) ms2 = some (o, ms'), ⟨_, rfl, Nat.zero_le _, ρ1, { ms with h := h1 }, .refl ρ1 H1, R1, S.fut F1, e2⟩, ?_⟩
  rintro i m σ2 H2 ⟨rfl, hi, ρ2, ms2, F2, R2, S2, e3⟩
  by_cases hl : i < ds.length
  · right
    obtain ⟨k, hk⟩ : ∃ k, ds.length - i = k + 1 := ⟨ds.length - i - 1, by omega⟩
    rw [hk] at e3
    obtain ⟨es, e30, e31⟩ := Option.bind_eq_some_iff.mp e3
    obtain ⟨c1, e32⟩ := bif_some' e31
    have c1 := of_decide_eq_true c1
    obtain ⟨d, hd, e33⟩ := Option.bind_eq_some_iff.mp e32
    have hik : ds.length - (k + 1) = i := by omega
    rw [hik] at hd
    obtain ⟨ystop, ygo⟩ := Y i ρ2 H2 ms2.h es F2 R2 e30
    obtain ⟨g1, g2⟩ := ygo _ hd
    obtain ⟨m1, e4, e5⟩ := Option.bind_eq_some_iff.mp e33
    obtain ⟨u, e6, e7⟩ := Option.bind_eq_some_iff.mp e5
    obtain ⟨o3, ms3⟩ := u
    refine ⟨g1, fun σ3 H3 => ∃ ρ3 ms3, Fut ρ1 H1 ρ3 H3 ∧ Rel X.K ρ3 ms3.h H3 ∧ Slots X.K ρ3 H3 ms3.s σ3 ∧ mForCL c ds.length g b (ds.length - (i + 1)) ms3 = some (o, ms'), fun σ' H' w => ⟨ds.length - (i + 1), by omega, rfl, hl, w⟩, fun x H' y => ?_⟩
    have hk2 : ds.length - (i + 1) = k := by omega
    rw [hk2]
    obtain ⟨Fy, Ry, dy⟩ := g2 x H' y
    refine ⟨ρ2, ms2, _, m1, Ry, S2.fut Fy, dy, e4, fun H4 ρ4 σ4 F4 R4 S4 => ?_⟩
    refine ⟨ρ4, m1, o3, ms3, R4, S4, e6, fun H5 ρ5 F5 R5 => ?_⟩
    have F15 := ((F2.trans Fy).trans F4).trans F5
    cases o3 with
    | nx => exact fun σ5 S5 => ⟨ρ5, ms3, F15, R5, S5, e7⟩
    | ct => exact fun σ5 S5 => ⟨ρ5, ms3, F15, R5, S5, e7⟩
    | bk => cases e7; exact fun σ5 S5 => q H5 ρ5 (F1.trans F15) R5 σ5 S5
    | ret d => cases e7; exact fun v dn => q H5 ρ5 (F1.trans F15) R5 v dn
  · left
    have z : ds.length - i = 0 := by omega
    rw [z] at e3
    obtain ⟨es, e30, e31⟩ := Option.bind_eq_some_iff.mp e3
    obtain ⟨c1, e32⟩ := bif_some' e31
    have c1 := of_decide_eq_true c1
    obtain ⟨ystop, ygo⟩ := Y i ρ2 H2 ms2.h es F2 R2 e30
    cases e32
    exact ⟨ystop (by omega), q H2 ρ2 (F1.trans F2) R2 σ2 S2⟩
end
end Zm

set_option Elab.async false
set_option linter.all false
set_option maxRecDepth 100000
/-! Zy: l[i] += n. -/
namespace Zm
open PySem L2
section
variable {X : Cx} {K : PySem.W.Frag}
def rGetL0 (K : PySem.W.Frag) : V → V → Hp → VK → Prop := fun o i H Q => ∃ p xs k v, o = .ref p ∧ i = .int k ∧ SqL K H p xs ∧ 0 ≤ k ∧ atI xs k = some v ∧ Q v H
theorem get_list0 : PGet X (rGetL0 X.K) := by
  intro pins s σ H o i ov iv Q I ro ri h
  obtain ⟨p, xs, k, z, rfl, rfl, hq, h0, he, q⟩ := h
  cases ro
  obtain ⟨t, rfl⟩ := ri
  obtain ⟨its, r, pl, hz⟩ := I.list hq
  obtain ⟨j, h1, h2, h3, h4, h5⟩ := atI_get he
  obtain ⟨w, ew, rw'⟩ := r.get h2
  have hl := r.length
  have hn := line63
  have hj : k.toNat = j := by
    rw [seqIndex_of h0 h5] at h1
    exact Option.some.inj h1
  exact wpAny_getItem_list pl.isList h0 (by omega) (by rw [hj]; simpa using ew) ⟨z, H, I, rw', q⟩
def mAugS (p : Int → Int → Int) (f g e : ME) : MB := fun ms => (f ms).bind fun r => (g { ms with h := r.2 }).bind fun s => match r.1, s.1 with
  | .cell c, .int k => (s.2[c]?).bind fun ds => (ixN ds.length k).bind fun j => bif decide (0 ≤ k) then match ds[j]? with
    | some (.int a) => (e { ms with h := s.2 }).bind fun t => match t.1 with
      | .int b => (t.2[c]?).bind fun es => bif decide (es.length = ds.length) then some (.nx, { ms with h := t.2.set c (es.set j (.int (p a b))) }) else none
      | _ => none
    | _ => none else none
  | _, _ => none
theorem bv_augS {o i ex : Expr} {op : Operator} {p : Int → Int → Int} {pos tpos : Pos} {f g e : ME} (hip : PIp X op (ipI p)) (ho : EV X o f) (hi : EV X i g) (he : EV X ex e)
    (ha : ∀ ov iv new, augStore i ov iv new = (do holding [new, ov, iv] (setItem ov iv new); release [new, ov, iv] []; pure .next) := by intros; rfl) : BV X (.AugAssign (.Subscript o i tpos) op ex pos) (mAugS p f g e) := by
  refine ps_w (ps_augS ho hi get_list0 he hip set_list ha) fun D σ H h => ?_
  obtain ⟨ρ, ms, oo, ms', R, S, e0, q⟩ := h
  obtain ⟨⟨dx, h1⟩, e1, e2⟩ := Option.bind_eq_some_iff.mp e0
  obtain ⟨⟨dy, h2⟩, e3, e4⟩ := Option.bind_eq_some_iff.mp e2
  dsimp only at e4
  split at e4
  · rename_i c k
    obtain ⟨ds, e5, e6⟩ := Option.bind_eq_some_iff.mp e4
    obtain ⟨j, e7, e8⟩ := Option.bind_eq_some_iff.mp e6
    have k0 : 0 ≤ k := by
      cases z : decide (0 ≤ k) with
      | true => exact of_decide_eq_true z
      | false => rw [z] at e8; cases e8
    rw [decide_eq_true k0] at e8
    simp only [cond_true] at e8
    split at e8
    · rename_i a hj
      obtain ⟨⟨dz, h3⟩, e9, e10⟩ := Option.bind_eq_some_iff.mp e8
      dsimp only at e10
      split at e10
      · rename_i b
        obtain ⟨es, e11, e12⟩ := Option.bind_eq_some_iff.mp e10
        obtain ⟨c1, e13⟩ := bif_some e12
        have c1 := of_decide_eq_true c1
        cases e13
        refine ⟨ρ, ms, .cell c, h1, R, S, e1, fun x H1 ρ1 F1 R1 dn1 => ?_⟩
        refine ⟨ρ1, { ms with h := h1 }, .int k, h2, R1, S.fut F1, e3, fun y H2 ρ2 F2 R2 dn2 => ?_⟩
        have dn1 := dn1.fut F2
        cases dn1 with
        | cell g1 =>
          obtain ⟨us, p1, p2⟩ := R2.at_ _ _ _ g1 e5
          obtain ⟨v, w1, w2⟩ := p2.get hj
          have ea : L2.atI us k = some v := by
            unfold L2.atI
            rw [p2.length, e7]
            exact w1
          refine ⟨_, us, k, v, rfl, den_int dn2, SqL.of p1, k0, ea, ?_⟩
          refine ⟨ρ2, { ms with h := h2 }, .int b, h3, R2, S.fut (F1.trans F2), e9, fun w H4 ρ4 F4 R4 dn4 => ?_⟩
          refine ⟨a, b, den_int w2, den_int dn4, ?_⟩
          have g1 := F4.cellAt g1
          obtain ⟨vs, q1, q2⟩ := R4.at_ _ _ _ g1 e11
          have F := (F1.trans F2).trans F4
          refine ⟨_, vs, k, j, rfl, den_int dn2, q1, by rw [q2.length, c1]; exact e7, ?_⟩
          exact q _ ρ4 (F.trans (fut_wr _ g1)) (R4.wr g1 (q2.set (.int _) j)) σ (S.fut (F.trans (fut_wr _ g1)))
      · cases e10
    · cases e8
  · cases e4
/-! list * int, a new cell -/
def mMulL (f g : ME) : ME := fun ms => (f ms).bind fun r => (g { ms with h := r.2 }).bind fun s => match r.1, s.1 with
  | .lst ds, .int k => bif decide (-9223372036854775808 ≤ k ∧ k < 9223372036854775808 ∧ ds.length * k.toNat ≤ line) then some (.cell s.2.length, s.2 ++ [(List.replicate k.toNat ds).flatten]) else none
  | _, _ => none
theorem ev_mulL {a b : Expr} {pos : Pos} {f g : ME} (ha : EV X a f) (hb : EV X b g) : EV X (.BinOp a .Mult b pos) (mMulL f g) := by
  refine pe_w (pe_op or_mul ha hb) fun σ H Q h => ?_
  obtain ⟨ρ, ms, d, h', R, S, e, q⟩ := h
  obtain ⟨⟨dx, h1⟩, e1, e2⟩ := Option.bind_eq_some_iff.mp e
  obtain ⟨⟨dy, h2⟩, e3, e4⟩ := Option.bind_eq_some_iff.mp e2
  dsimp only at e4
  split at e4
  · rename_i ds k
    obtain ⟨c, e9⟩ := bif_some e4
    cases e9
    have c' := of_decide_eq_true c
    refine ⟨ρ, ms, .lst ds, h1, R, S, e1, fun x H1 ρ1 F1 R1 dn1 => ?_⟩
    refine ⟨ρ1, { ms with h := h1 }, .int k, h2, R1, S.fut F1, e3, fun y H2 ρ2 F2 R2 dn2 => ?_⟩
    obtain ⟨p, vs, rfl, hp, np, t1⟩ := den_len (dn1.fut F2)
    refine .inr ⟨p, _, vs, rfl, den_int dn2, hp, by omega, by omega, by rw [t1.length, ← line_eq]; exact c'.2.2, fun o ho => ?_⟩
    exact q _ _ (ρ2.add o) ((F1.trans F2).trans (fut_cell _ ho)) (R2.more ho (dens_rep t1 _)) (.cell (by rw [← R2.len]; simp [Rho.add]))
  · cases e4
end
end Zm

set_option Elab.async false
set_option linter.all false
set_option maxRecDepth 100000
/-! Zz: a range kept in a name, and walked. -/
namespace L2
open PySem
theorem range_itV {X : Cx} {tg : Expr} {pins : List (Addr × Obj)} {σ : St} {H : Hp} {s : Shared} {R : It → Hp → Prop} {E : Value → Shared → Prop} {a : Addr} {lo hi : Int} (I : L2.Inv X pins σ H s) (ha : H a = some (.rng lo hi)) (h1 : -2 ^ 62 ≤ lo) (h2 : lo < 2 ^ 62) (h3 : -2 ^ 62 ≤ hi) (h4 : hi < 2 ^ 62) (q : R (Itr lo (hi - lo).toNat) H) :
    wpAny (model X.prog X.w) X.A (pyIter (.ref a)) (PIE X pins σ tg R) E s := by
  obtain ⟨t1, t2, t3, ho⟩ := I.hok a (.rng lo hi) ha
  refine wpAny_pyIter_range (a := lo) (b := hi) (c := 1) (t := t1) (u := t2) (v := t3) ho (small_one h1 h2 h3 h4) ?_
  refine ⟨s.heap.objs.size, [s.heap.objs.size], _, _, H, rfl, L2.Inv.kept I fun b o e => Heap.get?_push_of_some _ e, turn_range s.heap.objs.size lo (hi - lo).toNat, ?_, ?_, q⟩
  · have e1 : lo + ((0 : Nat) : Int) * 1 = lo := by simp
    have e2 : ((hi - lo).toNat : Int) - ((0 : Nat) : Int) = Builtin.Range.rangeSize lo hi 1 := by
      rw [rangeSize_one]; split <;> omega
    show IsRangeIter _ s.heap.objs.size (lo + ((0 : Nat) : Int) * 1) (((hi - lo).toNat : Int) - ((0 : Nat) : Int)) 1
    rw [e1, e2]
    exact Heap.get?_push_size s.heap rfl
  · intro b hb
    rw [List.mem_singleton] at hb
    subst hb
    exact L2.Inv.fpOk I (Nat.le_refl _) (L2.HOk.fresh I.hok (Nat.le_refl _))
def iRgV (te : TE) : TI := fun σ H R => te σ H fun x H1 => ∃ (a : Addr) (lo hi : Int), x = .ref a ∧ H1 a = some (.rng lo hi) ∧ (-2 ^ 62 ≤ lo ∧ lo < 2 ^ 62 ∧ -2 ^ 62 ≤ hi ∧ hi < 2 ^ 62) ∧ R (Itr lo (hi - lo).toNat) H1
theorem pi_rngV {X : Cx} {tg e : Expr} {te : TE} (he : PE X e te) : PI X tg e (iRgV te) := by
  refine ⟨fun pins s σ H R I h => thn (he.run pins s σ H _ I h) fun v s1 z => ?_⟩
  obtain ⟨x, H1, I1, r1, a, lo, hi, rfl, ha, ⟨b1, b2, b3, b4⟩, q⟩ := z
  cases r1
  exact range_itV I1 ha b1 b2 b3 b4 q
end L2
namespace Zm
open PySem L2
section
variable {X : Cx} {K : PySem.W.Frag}
def oRng : Cells → List D → Option D
  | _, [.int i, .int j] => some (.rng i j)
  | _, _ => none
theorem c_rng : OpC K (fun vs H Q => ∃ i j, vs = [V.int i, V.int j] ∧ ∀ p, H p = none → Q (.ref p) (upd H p (.rng i j))) oRng := by
  intro ρ h H xs dxs d Q R a e k
  unfold oRng at e
  split at e
  · rename_i i j
    cases e
    cases a with
    | cons a b =>
      cases b with
      | cons b c =>
        cases c
        refine ⟨i, j, by rw [den_int a, den_int b], fun p ho => k _ _ ρ (fut_new _ ho) (R.new _ ho) (.rng upd_same (R.out ho))⟩
  · cases e
def iRV (f : ME) : MI := fun ms => (f ms).bind fun r => match r.1 with
  | .rng lo hi => bif big62 lo && big62 hi then some (intsD lo (hi - lo).toNat, r.2) else none
  | _ => none
theorem iv_rngV {tg e : Expr} {f : ME} (he : EV X e f) : IV X tg e (iRV f) := by
  refine pi_w (pi_rngV he) fun σ H Rk h => ?_
  obtain ⟨ρ, ms, ds, h', R, S, e, q⟩ := h
  obtain ⟨r, e1, e2⟩ := Option.bind_eq_some_iff.mp e
  obtain ⟨d, h1⟩ := r
  dsimp only at e2
  split at e2
  · rename_i lo hi
    obtain ⟨hb, e3⟩ := bif_some e2
    cases e3
    rw [Bool.and_eq_true] at hb
    have hb1 : -4611686018427387904 ≤ lo ∧ lo < 4611686018427387904 := of_decide_eq_true hb.1
    have hb2 : -4611686018427387904 ≤ hi ∧ hi < 4611686018427387904 := of_decide_eq_true hb.2
    refine ⟨ρ, ms, _, _, R, S, e1, fun v H1 ρ1 F1 R1 dn => ?_⟩
    cases dn with
    | rng r n => exact ⟨_, lo, hi, rfl, r, ⟨by omega, by omega, by omega, by omega⟩, q _ _ ρ1 F1 R1 (yields_rng lo (hi - lo).toNat)⟩
  · cases e2
/-! l.index(n), found -/
def fstI (k : Int) : List Int → Option Nat
  | [] => none
  | x :: l => if x = k then some 0 else (fstI k l).map (· + 1)
theorem fstI_ok {k : Int} : ∀ {l : List Int} {j : Nat}, fstI k l = some j → l[j]? = some k ∧ ∀ m x, m < j → l[m]? = some x → x ≠ k
  | x :: l, j, h => by
    unfold fstI at h
    by_cases c : x = k
    · rw [if_pos c] at h
      cases h
      exact ⟨by rw [c]; rfl, fun m x hm => by omega⟩
    · rw [if_neg c] at h
      obtain ⟨i, e1, rfl⟩ := Option.map_eq_some_iff.mp h
      obtain ⟨h1, h2⟩ := fstI_ok e1
      refine ⟨h1, fun m y hm hy => ?_⟩
      cases m with
      | zero => cases hy; exact c
      | succ m => exact h2 m y (by omega) hy
def mIdx (f : ME) (g : MA) : ME := fun ms => (f ms).bind fun r => (g { ms with h := r.2 }).bind fun s => match r.1, s.1 with
  | .cell i, [.int k] => (s.2[i]?).bind fun ds => (asInts ds).bind fun ns => (fstI k ns).map fun j => (.int (j : Nat), s.2)
  | _, _ => none
theorem ev_index {o e : Expr} {apos cpos : Pos} {f : ME} {g : MA} (ho : EV X o f) (ha : AV X [e] g) (hbase : attributeBase o "index" X.env (eval o X.env) = eval o X.env := by rfl)
    (hfew : ((backTo cpos (starEach [e] X.env)).all (fun x => !x.1) && (backToKw cpos (keywordEach [] X.env)).all (fun x => x.1.isSome)
      && decide (([e] : List Expr).length + ([] : List Keyword).length + (if ([] : List Keyword).isEmpty then 0 else 1) < 30)) = true := by rfl)
    (hline : (apos.endLine == cpos.line) = true := by rfl) (hs : starEach [e] X.env = (false, eval e X.env) :: starEach [] X.env := by rfl) (hplain : (backTo cpos (starEach [] X.env)).any (·.1) = false := by rfl) :
    EV X (.Call (.Attribute o "index" apos) [e] [] cpos) (mIdx f g) := by
  refine pe_w (pe_bm PySem.F.plainAttrs_list PySem.F.slot_list_index PySem.F.type_list_index mt_index ho ha hbase hfew hline hs hplain) fun σ H Q h => ?_
  obtain ⟨ρ, ms, d, h', R, S, e, q⟩ := h
  obtain ⟨⟨dx, h1⟩, e1, e2⟩ := Option.bind_eq_some_iff.mp e
  obtain ⟨⟨ds, h2⟩, e3, e4⟩ := Option.bind_eq_some_iff.mp e2
  dsimp only at e4
  split at e4
  · rename_i i k
    obtain ⟨es, e5, e6⟩ := Option.bind_eq_some_iff.mp e4
    obtain ⟨ns, e7, e8⟩ := Option.bind_eq_some_iff.mp e6
    obtain ⟨j, e9, e10⟩ := Option.map_eq_some_iff.mp e8
    cases e10
    obtain ⟨n1, n2⟩ := fstI_ok e9
    refine ⟨ρ, ms, .cell i, h1, R, S, e1, fun x H1 ρ1 F1 R1 dn1 => ?_⟩
    have dn1' := dn1
    cases dn1 with
    | cell g1 =>
      rename_i a
      have hl : i < h1.length := by
        obtain ⟨z, _⟩ := List.getElem?_eq_some_iff.mp g1
        rw [← R1.len]; exact z
      obtain ⟨vs0, q0, _⟩ := R1.at_ _ _ _ g1 (List.getElem?_eq_getElem hl)
      refine ⟨Or.inl ⟨rfl, _, SqL.of q0⟩, ρ1, { ms with h := h1 }, [.int k], _, R1, S.fut F1, e3, fun xs H2 ρ2 F2 R2 dn2 => ?_⟩
      obtain ⟨x2, rfl, dn3⟩ := dens1 dn2
      cases dn3
      have g2 := F2.cellAt g1
      obtain ⟨vs, q1, q2⟩ := R2.at_ _ _ _ g2 e5
      obtain rfl := dens_ints q2 e7
      refine ⟨a, ns.map V.int, V.int k, j, V.int k, rfl, rfl, SqL.of q1, rfl, ?_, ?_, ?_, ?_, ?_⟩
      · rw [List.all_map]; exact List.all_eq_true.mpr fun _ _ => rfl
      · rw [List.getElem?_map, n1]; rfl
      · show (k == k) = true
        simp
      · intro m z' hm hz
        rw [List.getElem?_map] at hz
        obtain ⟨y, hy, rfl⟩ := Option.map_eq_some_iff.mp hz
        have := n2 m y hm hy
        show (y == k) = false
        simpa using this
      · exact q _ _ ρ2 (F1.trans F2) R2 (.int _)
  · cases e4
end
end Zm

set_option Elab.async false
set_option linter.all false
set_option maxRecDepth 100000
/-! Zb: a dict of whole numbers that a def keeps for itself: its address is hidden, its pairs are a part of the state. -/
namespace Zm
open PySem L2
abbrev KVs := List (Key × V)
/-- the dict a stands with the pairs kv; ρ0, H0: the state before it was made -/
structure KAt (K : PySem.W.Frag) (ρ0 : Rho) (H0 : Hp) (a : Addr) (ρ : Rho) (H : Hp) (kv : KVs) (h : Cells) : Prop where
  free : H0 a = none
  out : a ∉ ρ0.c
  F : Fut ρ0 H0 ρ H
  mem : a ∈ ρ.v
  at_ : H a = some (.dK kv)
  R : Rel K ρ h H
theorem KAt.fut {K : PySem.W.Frag} {ρ0 ρ ρ' : Rho} {H0 H H' : Hp} {a : Addr} {kv : KVs} {h h' : Cells} (A : KAt K ρ0 H0 a ρ H kv h) (F : Fut ρ H ρ' H') (R : Rel K ρ' h' H') : KAt K ρ0 H0 a ρ' H' kv h' :=
  ⟨A.free, A.out, A.F.trans F, F.sub a A.mem, F.keep a _ (fun z => A.R.apart a z A.mem) A.at_, R⟩
theorem KAt.put {K : PySem.W.Frag} {ρ0 ρ : Rho} {H0 H : Hp} {a : Addr} {kv : KVs} {h : Cells} (A : KAt K ρ0 H0 a ρ H kv h) (kv' : KVs) : KAt K ρ0 H0 a ρ (upd H a (.dK kv')) kv' h := by
  refine ⟨A.free, A.out, ⟨fun x o n e => ?_, A.F.ext, A.F.sub, A.F.hid, A.F.fresh⟩, A.mem, upd_same, A.R.poke _ A.mem⟩
  rw [upd_ne (ne_of_none e A.free)]
  exact A.F.keep x o n e
abbrev KE := Addr → KVs → ME
abbrev KA := Addr → KVs → MA
abbrev KBd := Addr → KVs → MS → Option (Out × KVs × MS)
section
variable (K : PySem.W.Frag)
def rdEK (f : KE) : TE := fun σ H Q => ∃ ρ0 H0 a ρ ms kv d h', KAt K ρ0 H0 a ρ H kv ms.h ∧ Slots K ρ H ms.s σ ∧ f a kv ms = some (d, h') ∧ ∀ v H' ρ', Fut ρ H ρ' H' → Rel K ρ' h' H' → Den K ρ' H' v d → Q v H'
def rdAK (f : KA) : TA := fun σ H Q => ∃ ρ0 H0 a ρ ms kv ds h', KAt K ρ0 H0 a ρ H kv ms.h ∧ Slots K ρ H ms.s σ ∧ f a kv ms = some (ds, h') ∧ ∀ vs H' ρ', Fut ρ H ρ' H' → Rel K ρ' h' H' → Dens K ρ' H' vs ds → Q vs H'
def rdBK (f : KBd) : TS := fun D σ H => ∃ ρ0 H0 a ρ ms kv o kv' ms', KAt K ρ0 H0 a ρ H kv ms.h ∧ Slots K ρ H ms.s σ ∧ f a kv ms = some (o, kv', ms') ∧ ∀ H' ρ', KAt K ρ0 H0 a ρ' H' kv' ms'.h → endsOf K ρ' H' D ms'.s o
end
abbrev EK (X : Cx) (e : Expr) (f : KE) : Prop := PE X e (rdEK X.K f)
abbrev AK (X : Cx) (es : List Expr) (f : KA) : Prop := PA X es (rdAK X.K f)
abbrev BK (X : Cx) (st : Stmt) (f : KBd) : Prop := PS X st (rdBK X.K f)
abbrev BKs (X : Cx) (st : List Stmt) (f : KBd) : Prop := PSs X st (rdBK X.K f)
section
variable {X : Cx}
/-! ### expressions -/
def kE (f : ME) : KE := fun _ _ => f
theorem ek_lift {e : Expr} {f : ME} (h : EV X e f) : EK X e (kE f) := pe_w h fun σ H Q ⟨_, _, a, ρ, ms, kv, d, h', A, S, e, q⟩ => ⟨ρ, ms, d, h', A.R, S, e, q⟩
def kBin (o : Cells → D → D → Option D) (f g : KE) : KE := fun a kv => mBin o (f a kv) (g a kv)
theorem ek_bin {a b : Expr} {pos : Pos} {op : Operator} {r : R2} {o : Cells → D → D → Option D} {f g : KE} (ho : OpR X (binaryOp op) r) (p : Op2 X.K r o) (ha : EK X a f) (hb : EK X b g) : EK X (.BinOp a op b pos) (kBin o f g) := by
  refine pe_w (pe_op ho ha hb) fun σ H Q h => ?_
  obtain ⟨ρ0, H0, a, ρ, ms, kv, d, h', A, S, e, q⟩ := h
  unfold kBin mBin at e
  cases e1 : f a kv ms with
  | none => simp [e1] at e
  | some r =>
    obtain ⟨dx, h1⟩ := r
    cases e2 : g a kv { ms with h := h1 } with
    | none => simp [e1, e2] at e
    | some r =>
      obtain ⟨dy, h2⟩ := r
      cases e3 : o h2 dx dy with
      | none => simp [e1, e2, e3] at e
      | some r =>
        simp [e1, e2, e3] at e
        obtain ⟨rfl, rfl⟩ := e
        refine ⟨ρ0, H0, a, ρ, ms, kv, dx, h1, A, S, e1, fun x H1 ρ1 F1 R1 dn1 => ?_⟩
        refine ⟨ρ0, H0, a, ρ1, { ms with h := h1 }, kv, dy, h2, A.fut F1 R1, S.fut F1, e2, fun y H2 ρ2 F2 R2 dn2 => ?_⟩
        exact p ρ2 h2 H2 x y dx dy r _ R2 (dn1.fut F2) dn2 e3 fun v H' ρ' F3 R3 dn3 => q v H' ρ' ((F1.trans F2).trans F3) R3 dn3
def isHid (a : Addr) : D → Bool
  | .hid b => decide (b = a)
  | _ => false
theorem den_hid {K : PySem.W.Frag} {ρ : Rho} {H : Hp} {v : V} {d : D} {a : Addr} (h : Den K ρ H v d) (e : isHid a d = true) : v = .ref a := by
  cases d <;> simp only [isHid] at e <;> try (cases e; done)
  cases h
  rw [of_decide_eq_true e]
/-- counts.get(k, d) -/
def getK (kv : KVs) : D → D → Option D
  | .int k, d => match valV kv (.inl k) with
    | none => some d
    | some (.int i) => some (.int i)
    | some _ => none
  | _, _ => none
def kGet (f1 f2 f3 : ME) : KE := fun a kv ms => (f1 ms).bind fun r1 => bif isHid a r1.1 then (f2 { ms with h := r1.2 }).bind fun r2 => (f3 { ms with h := r2.2 }).bind fun r3 => (getK kv r2.1 r3.1).map fun d => (d, r3.2) else none
theorem ek_get {o e f : Expr} {apos cpos : Pos} {f1 f2 f3 : ME} (hu : X.A.units + 1 < cLine) (ho : EV X o f1) (he : EV X e f2) (hf : EV X f f3) (m : M2 X o "get" apos e f cpos) : EK X (.Call (.Attribute o "get" apos) [e, f] [] cpos) (kGet f1 f2 f3) := by
  refine pe_w (pe_dget2 hu ho he hf m) fun σ H Q h => ?_
  obtain ⟨ρ0, H0, a, ρ, ms, kv, d, h', A, S, e, q⟩ := h
  obtain ⟨r1, e1, e2⟩ := Option.bind_eq_some_iff.mp e
  obtain ⟨d1, h1⟩ := r1
  cases hh : isHid a d1 with
  | false => simp [hh] at e2
  | true =>
    simp only [hh, cond_true] at e2
    obtain ⟨⟨d2, h2⟩, e3, e4⟩ := Option.bind_eq_some_iff.mp e2
    obtain ⟨⟨d3, h3⟩, e5, e6⟩ := Option.bind_eq_some_iff.mp e4
    obtain ⟨dd, e7, e8⟩ := Option.map_eq_some_iff.mp e6
    cases e8
    refine ⟨ρ, ms, d1, h1, A.R, S, e1, fun v1 H1 ρ1 F1 R1 n1 => ?_⟩
    have A1 := A.fut F1 R1
    refine ⟨a, den_hid n1 hh, .inl ⟨kv, .inl A1.at_⟩, ρ1, { ms with h := h1 }, d2, h2, R1, S.fut F1, e3, fun v2 H2 ρ2 F2 R2 n2 => ?_⟩
    have A2 := A1.fut F2 R2
    refine ⟨ρ2, { ms with h := h2 }, d3, _, R2, (S.fut F1).fut F2, e5, fun v3 H3 ρ3 F3 R3 n3 => ?_⟩
    have A3 := A2.fut F3 R3
    have FF := (F1.trans F2).trans F3
    cases d2 <;> simp only [getK] at e7 <;> try (cases e7; done)
    rename_i k
    refine ⟨valV kv (.inl k), by rw [den_int n2]; exact DGet.k (k := .inl k) A3.at_, ?_⟩
    cases hv : valV kv (.inl k) with
    | none =>
      rw [hv] at e7
      cases e7
      exact q v3 H3 ρ3 FF R3 n3
    | some w =>
      rw [hv] at e7
      cases w <;> simp only at e7 <;> try (cases e7; done)
      cases e7
      exact q _ H3 ρ3 FF R3 (.int _)
/-! ### arguments, calls -/
def kNil : KA := fun _ _ => mNil
def kCons (f : KE) (g : KA) : KA := fun a kv ms => (f a kv ms).bind fun r => (g a kv { ms with h := r.2 }).map fun t => (r.1 :: t.1, t.2)
theorem ak_nil : AK X [] kNil := pa_w pa_nil fun σ H Q h => by
  obtain ⟨ρ0, H0, a, ρ, ms, kv, d, h', A, S, e, q⟩ := h
  cases e
  exact q [] H ρ (.refl ρ H) A.R .nil
theorem ak_cons {e : Expr} {es : List Expr} {f : KE} {g : KA} (ha : EK X e f) (hr : AK X es g) (hs : starEach (e :: es) X.env = (false, eval e X.env) :: starEach es X.env := by rfl) : AK X (e :: es) (kCons f g) := by
  refine pa_w (pa_cons ha hr hs) fun σ H Q h => ?_
  obtain ⟨ρ0, H0, a, ρ, ms, kv, ds, h', A, S, e, q⟩ := h
  obtain ⟨r, e1, e2⟩ := Option.bind_eq_some_iff.mp e
  obtain ⟨t, e3, e4⟩ := Option.map_eq_some_iff.mp e2
  obtain ⟨x, h1⟩ := r
  obtain ⟨xs, h2⟩ := t
  cases e4
  refine ⟨ρ0, H0, a, ρ, ms, kv, x, h1, A, S, e1, fun v H1 ρ1 F1 R1 dn => ?_⟩
  exact ⟨ρ0, H0, a, ρ1, { ms with h := h1 }, kv, xs, h2, A.fut F1 R1, S.fut F1, e3, fun vs H' ρ' F R' dns => q (v :: vs) H' ρ' (F1.trans F) R' (.cons (dn.fut F) dns)⟩
def kCall (n : Nat) (F : MF) (f : KA) : KE := fun a kv => mCall n F (f a kv)
theorem ek_def {k n : Nat} {x : Str} {p pos : Pos} {e : Expr} {es : List Expr} {F : MF} {fa : KA} (Kn : Knows X.prog X.w X.K X.mg X.base k x n F) (hr : RoomG k X.A) (ha : AK X (e :: es) fa) (hg : Gl X x := by rfl) (hdb : (x == ("__debug__" : Str)) = false := by decide) (he : starEach (e :: es) X.env = (false, eval e X.env) :: starEach es X.env := by rfl) (hpl : (backTo pos (starEach es X.env)).any (·.1) = false := by rfl) :
    EK X (.Call (.Name x p) (e :: es) [] pos) (kCall n F fa) := by
  obtain ⟨f, fd, ps, _, G, hm, hk, hb⟩ := Kn
  refine pe_w (pe_callG G hr hg hm hk hb .nil pass0 ha hdb he hpl) fun σ H Q h => ?_
  obtain ⟨ρ0, H0, a, ρ, ms, kv, d, h', A, S, e, q⟩ := h
  obtain ⟨r, e1, e2⟩ := Option.bind_eq_some_iff.mp e
  obtain ⟨ds, h1⟩ := r
  cases hl : (ds.length == n) with
  | false => simp [hl] at e2
  | true =>
    simp only [hl, cond_true] at e2
    refine ⟨ρ0, H0, a, ρ, ms, kv, ds, h1, A, S, e1, fun vs H1 ρ1 F1 R1 dn => ?_⟩
    show spF X.K n F (vs ++ []) H1 Q E0
    rw [List.append_nil]
    exact ⟨ρ1, h1, ds, d, h', R1, dn, by simpa using hl, e2, fun v H' ρ' F2 R2 d2 => q v H' ρ' (F1.trans F2) R2 d2⟩
/-! ### statements -/
def kLift (b : MB) : KBd := fun _ kv ms => (b ms).map fun r => (r.1, kv, r.2)
theorem bk_lift {st : Stmt} {b : MB} (h : BV X st b) : BK X st (kLift b) := by
  refine ps_w h fun D σ H hh => ?_
  obtain ⟨ρ0, H0, a, ρ, ms, kv, o, kv', ms', A, S, g, q⟩ := hh
  obtain ⟨⟨o1, ms1⟩, e1, e2⟩ := Option.map_eq_some_iff.mp g
  cases e2
  exact ⟨ρ, ms, o1, ms1, A.R, S, e1, fun H' ρ' F' R' => q H' ρ' (A.fut F' R')⟩
theorem bks_lift {st : List Stmt} {b : MB} (h : BVs X st b) : BKs X st (kLift b) := by
  refine pss_w h fun D σ H hh => ?_
  obtain ⟨ρ0, H0, a, ρ, ms, kv, o, kv', ms', A, S, g, q⟩ := hh
  obtain ⟨⟨o1, ms1⟩, e1, e2⟩ := Option.map_eq_some_iff.mp g
  cases e2
  exact ⟨ρ, ms, o1, ms1, A.R, S, e1, fun H' ρ' F' R' => q H' ρ' (A.fut F' R')⟩
def kSeq (f g : KBd) : KBd := fun a kv ms => (f a kv ms).bind fun r => match r.1 with
  | .nx => g a r.2.1 r.2.2
  | o => some (o, r.2)
theorem bks_cons {st : Stmt} {rest : List Stmt} {f g : KBd} (h1 : BK X st f) (h2 : BKs X rest g) : BKs X (st :: rest) (kSeq f g) := by
  refine pss_w (pss_cons h1 h2) fun D σ H h => ?_
  obtain ⟨ρ0, H0, a, ρ, ms, kv, o, kv', ms', A, S, e, q⟩ := h
  obtain ⟨r, e1, e2⟩ := Option.bind_eq_some_iff.mp e
  obtain ⟨o1, kv1, ms1⟩ := r
  refine ⟨ρ0, H0, a, ρ, ms, kv, o1, kv1, ms1, A, S, e1, fun H1 ρ1 A1 => ?_⟩
  cases o1 with
  | nx => exact fun σ' S' => ⟨ρ0, H0, a, ρ1, ms1, kv1, o, kv', ms', A1, S', e2, q⟩
  | ret d => cases e2; exact q H1 ρ1 A1
  | bk => cases e2; exact q H1 ρ1 A1
  | ct => cases e2; exact q H1 ρ1 A1
theorem bks_one {st : Stmt} {f : KBd} (h1 : BK X st f) : BKs X [st] f := pss_w (pss_one h1) fun _ _ _ h => h
def kIf (c : MT) (f g : KBd) : KBd := fun a kv ms => (c ms).bind fun r => bif r.1 then f a kv { ms with h := r.2 } else g a kv { ms with h := r.2 }
theorem bk_if {c : Expr} {x y : List Stmt} {pos : Pos} {t : MT} {f g : KBd} (hc : TV X c t) (ha : BKs X x f) (hb : BKs X y g) : BK X (.If c x y pos) (kIf t f g) := by
  refine ps_w (ps_if hc ha hb) fun D σ H h => ?_
  obtain ⟨ρ0, H0, a, ρ, ms, kv, o, kv', ms', A, S, e, q⟩ := h
  obtain ⟨⟨c, h1⟩, e1, e2⟩ := Option.bind_eq_some_iff.mp e
  refine ⟨ρ, ms, c, h1, A.R, S, e1, fun H1 ρ1 F1 R1 => ?_⟩
  cases c with
  | true => exact ⟨ρ0, H0, a, ρ1, { ms with h := h1 }, kv, o, kv', ms', A.fut F1 R1, S.fut F1, e2, q⟩
  | false => exact ⟨ρ0, H0, a, ρ1, { ms with h := h1 }, kv, o, kv', ms', A.fut F1 R1, S.fut F1, e2, q⟩
def kAsg (f : KE) (i : Nat) : KBd := fun a kv ms => (f a kv ms).map fun r => (.nx, kv, { s := ms.s.set i (some r.1), h := r.2 })
theorem bk_set {x : Str} {e : Expr} {pos pos' : Pos} {f : KE} (i : Nat) (hN : X.N.Nodup) (he : EK X e f) (hi : X.N[i]? = some x := by rfl) (hx : Loc X.env.scope x := by first | exact Or.inl rfl | exact Or.inr rfl) (hs : swapsWith e (some (.Name x pos')) pos.line X.env = pure false := by rfl)
    (hf : X.fn x = true ∨ X.env.scope.names.lookup x = some .local := by first | exact .inl rfl | exact .inr rfl) : BK X (.Assign [.Name x pos'] e pos) (kAsg f i) := by
  refine ps_w (ps_set hN hi hx he hs hf) fun D σ H h => ?_
  obtain ⟨ρ0, H0, a, ρ, ms, kv, o, kv', ms', A, S, e, q⟩ := h
  obtain ⟨⟨d, h1⟩, e1, e2⟩ := Option.map_eq_some_iff.mp e
  cases e2
  exact ⟨ρ0, H0, a, ρ, ms, kv, d, h1, A, S, e1, fun v H1 ρ1 F1 R1 dn => q H1 ρ1 (A.fut F1 R1) _ ((S.fut F1).set i dn)⟩
def kRet (f : KE) : KBd := fun a kv ms => (f a kv ms).map fun r => (.ret r.1, kv, { ms with h := r.2 })
theorem bk_ret {e : Expr} {pos : Pos} {f : KE} (he : EK X e f) : BK X (.Return (some e) pos) (kRet f) := by
  refine ps_w (ps_ret he) fun D σ H h => ?_
  obtain ⟨ρ0, H0, a, ρ, ms, kv, o, kv', ms', A, S, e, q⟩ := h
  obtain ⟨⟨d, h1⟩, e1, e2⟩ := Option.map_eq_some_iff.mp e
  cases e2
  exact ⟨ρ0, H0, a, ρ, ms, kv, d, h1, A, S, e1, fun v H1 ρ1 F1 R1 dn => q H1 ρ1 (A.fut F1 R1) v dn⟩
/-- counts[k] = v -/
def putD (kv : KVs) : D → D → Option KVs
  | .int k, .int v => bif decide (kv.length < line) then some (putK kv (.inl k) (.int v)) else none
  | _, _ => none
def kPut (fv : KE) (fo fi : ME) : KBd := fun a kv ms => (fv a kv ms).bind fun r1 => (fo { ms with h := r1.2 }).bind fun r2 => bif isHid a r2.1 then (fi { ms with h := r2.2 }).bind fun r3 => (putD kv r3.1 r1.1).map fun kv' => (.nx, kv', { ms with h := r3.2 }) else none
theorem bk_put {o i value : Expr} {pos pos' : Pos} {fv : KE} {fo fi : ME} (hu : X.A.units + 1 < cLine) (ho : EV X o fo) (hi : EV X i fi) (hv : EK X value fv) (hs : swapsWith value (some (.Subscript o i pos')) pos.line X.env = pure false := by rfl) : BK X (.Assign [.Subscript o i pos'] value pos) (kPut fv fo fi) := by
  refine ps_w (ps_dput hu ho hi hv hs) fun D σ H h => ?_
  obtain ⟨ρ0, H0, a, ρ, ms, kv, o, kv', ms', A, S, e, q⟩ := h
  obtain ⟨⟨d1, h1⟩, e1, e2⟩ := Option.bind_eq_some_iff.mp e
  obtain ⟨⟨d2, h2⟩, e3, e4⟩ := Option.bind_eq_some_iff.mp e2
  cases hh : isHid a d2 with
  | false => simp [hh] at e4
  | true =>
    simp only [hh, cond_true] at e4
    obtain ⟨⟨d3, h3⟩, e5, e6⟩ := Option.bind_eq_some_iff.mp e4
    obtain ⟨kv2, e7, e8⟩ := Option.map_eq_some_iff.mp e6
    cases e8
    refine ⟨ρ0, H0, a, ρ, ms, kv, d1, h1, A, S, e1, fun v1 H1 ρ1 F1 R1 n1 => ?_⟩
    have A1 := A.fut F1 R1
    refine ⟨ρ1, { ms with h := h1 }, d2, h2, R1, S.fut F1, e3, fun v2 H2 ρ2 F2 R2 n2 => ?_⟩
    have A2 := A1.fut F2 R2
    refine ⟨ρ2, { ms with h := h2 }, d3, h3, R2, (S.fut F1).fut F2, e5, fun v3 H3 ρ3 F3 R3 n3 => ?_⟩
    have A3 := A2.fut F3 R3
    have S3 := ((S.fut F1).fut F2).fut F3
    cases d3 <;> simp only [putD] at e7 <;> try (cases e7; done)
    cases d1 <;> simp only at e7 <;> try (cases e7; done)
    rename_i k v
    obtain ⟨hl, e8⟩ := bif_some e7
    cases e8
    have hl' : kv.length < sizeLine := by rw [← line_eq]; exact of_decide_eq_true hl
    refine ⟨a, upd H3 a (.dK (putK kv (.inl k) (.int v))), den_hid n2 hh, ?_, q _ ρ3 (A3.put _) _ (S3.poke _ A3.mem)⟩
    rw [den_int n3, den_int n1]
    exact DPut.k (k := .inl k) A3.at_ hl'
/-! ### for, over a range -/
def YieldsK (K : PySem.W.Frag) (J : It) (ds : List D) : Prop :=
  ∀ i ρ H h, Rel K ρ h H → (ds.length ≤ i → J.stop i H) ∧ ∀ d, ds[i]? = some d → J.go i H ∧ ∀ x H', J.yld i H x H' → Fut ρ H ρ H' ∧ Rel K ρ h H' ∧ Den K ρ H' x d
def rdIK (K : PySem.W.Frag) (f : MI) : TI := fun σ H Rk => ∃ ρ ms ds h', Rel K ρ ms.h H ∧ Slots K ρ H ms.s σ ∧ f ms = some (ds, h') ∧ ∀ J H' ρ', Fut ρ H ρ' H' → Rel K ρ' h' H' → YieldsK K J ds → Rk J H'
abbrev IK (X : Cx) (tg iter : Expr) (f : MI) : Prop := PI X tg iter (rdIK X.K f)
theorem yieldsK_rng {K : PySem.W.Frag} (lo : Int) (n : Nat) : YieldsK K (Itr lo n) (intsD lo n) := by
  intro i ρ2 H2 h2 R2
  exact yields_rng lo n i ρ2 H2 h2 (.refl ρ2 H2) R2
theorem ik_range1 {tg a : Expr} {p pos : Pos} {f : MA} (hm : X.mg "range" = none) (ha : AV X [a] f) (hg : Gl X "range" := by rfl) (hs : starEach [a] X.env = [(false, eval a X.env)] := by rfl) : IK X tg (.Call (.Name "range" p) [a] [] pos) (iR1 f) := by
  refine pi_w (pi_range1 hg hm ha hs) fun σ H Rk h => ?_
  obtain ⟨ρ, ms, ds, h', R, S, e, q⟩ := h
  obtain ⟨r, e1, e2⟩ := Option.bind_eq_some_iff.mp e
  obtain ⟨xs, h1⟩ := r
  dsimp only at e2
  split at e2
  · rename_i j
    obtain ⟨hb, e3⟩ := bif_some e2
    cases e3
    have hb' : -4611686018427387904 ≤ j ∧ j < 4611686018427387904 := of_decide_eq_true hb
    refine ⟨ρ, ms, _, _, R, S, e1, fun vs H1 ρ1 F1 R1 dn => ?_⟩
    cases dn with
    | cons a b =>
      cases b
      exact ⟨j, by rw [den_int a], by omega, by omega, q _ _ ρ1 F1 R1 (yieldsK_rng 0 j.toNat)⟩
  · cases e2
def kForL (g : MG) (b : KBd) (a : Addr) : List D → KVs → MS → Option (Out × KVs × MS)
  | [], kv, ms => some (.nx, kv, ms)
  | d :: ds, kv, ms => (g d ms).bind fun m1 => (b a kv m1).bind fun t => match t.1 with
      | .nx => kForL g b a ds t.2.1 t.2.2
      | .ct => kForL g b a ds t.2.1 t.2.2
      | .bk => some (.nx, t.2)
      | .ret d => some (.ret d, t.2)
def kFor (f : MI) (g : MG) (b : KBd) : KBd := fun a kv ms => (f ms).bind fun r => kForL g b a r.1 kv { ms with h := r.2 }
theorem bk_for {tg iter : Expr} {body : List Stmt} {pos : Pos} {f : MI} {g : MG} {b : KBd} (hi : IK X tg iter f) (hg : GV X tg g) (hb : BKs X body b) (hc : X.calm = true) (hp : PassesOwn (model X.prog X.w) X.A X.env X.xe)
    (hs : ∀ x, foldedSetIterable iter X.env x = pure x := by intro _; rfl) : BK X (.For tg iter body [] pos) (kFor f g b) := by
  refine ps_w (ps_for hp hc hi hg hb hs) fun D σ H h => ?_
  obtain ⟨ρ0, H0, a, ρ, ms, kv, o, kv', ms', A, S, e, q⟩ := h
  obtain ⟨r, e1, e2⟩ := Option.bind_eq_some_iff.mp e
  obtain ⟨ds, h1⟩ := r
  refine ⟨ρ, ms, ds, h1, A.R, S, e1, fun J H1 ρ1 F1 R1 Y => ?_⟩
  refine ⟨fun i m σ2 H2 => m = ds.length - i ∧ i ≤ ds.length ∧ ∃ ρ2 ms2 kv2, KAt X.K ρ0 H0 a ρ2 H2 kv2 ms2.h ∧ Slots X.K ρ2 H2 ms2.s σ2 ∧ kForL g b a (ds.drop i) kv2 ms2 = some (o, kv', ms'), ⟨_, rfl, Nat.zero_le _, ρ1, { ms with h := h1 }, kv, A.fut F1 R1, S.fut F1, e2⟩, ?_⟩
  rintro i m σ2 H2 ⟨rfl, hi, ρ2, ms2, kv2, A2, S2, e3⟩
  obtain ⟨ystop, ygo⟩ := Y i ρ2 H2 ms2.h A2.R
  by_cases hl : i < ds.length
  · right
    have hd : ds[i]? = some ds[i] := List.getElem?_eq_getElem hl
    obtain ⟨g1, g2⟩ := ygo _ hd
    rw [List.drop_eq_getElem_cons hl] at e3
    obtain ⟨m1, e4, e5⟩ := Option.bind_eq_some_iff.mp e3
    obtain ⟨u, e6, e7⟩ := Option.bind_eq_some_iff.mp e5
    obtain ⟨o3, kv3, ms3⟩ := u
    refine ⟨g1, fun σ3 H3 => ∃ ρ3 ms3 kv3, KAt X.K ρ0 H0 a ρ3 H3 kv3 ms3.h ∧ Slots X.K ρ3 H3 ms3.s σ3 ∧ kForL g b a (ds.drop (i + 1)) kv3 ms3 = some (o, kv', ms'), fun σ' H' w => ⟨ds.length - (i + 1), by omega, rfl, hl, w⟩, fun x H' y => ?_⟩
    obtain ⟨Fy, Ry, dy⟩ := g2 x H' y
    refine ⟨ρ2, ms2, _, m1, Ry, S2.fut Fy, dy, e4, fun H4 ρ4 σ4 F4 R4 S4 => ?_⟩
    refine ⟨ρ0, H0, a, ρ4, m1, kv2, o3, kv3, ms3, (A2.fut Fy Ry).fut F4 R4, S4, e6, fun H5 ρ5 A5 => ?_⟩
    cases o3 with
    | nx => exact fun σ5 S5 => ⟨ρ5, ms3, kv3, A5, S5, e7⟩
    | ct => exact fun σ5 S5 => ⟨ρ5, ms3, kv3, A5, S5, e7⟩
    | bk => cases e7; exact fun σ5 S5 => q H5 ρ5 A5 σ5 S5
    | ret d => cases e7; exact fun v dn => q H5 ρ5 A5 v dn
  · left
    rw [List.drop_eq_nil_of_le (Nat.le_of_not_lt hl)] at e3
    cases e3
    exact ⟨ystop (Nat.le_of_not_lt hl), q H2 ρ2 A2 σ2 S2⟩
/-! ### counts = {}, and what follows it to the def's end: it returns, whatever the address -/
open Classical in
noncomputable def mDict (i : Nat) (g : KBd) : MB := fun ms =>
  if h : ∃ r : D × Cells, ∀ a, ∃ kv' ms', g a [] { ms with s := ms.s.set i (some (.hid a)) } = some (.ret r.1, kv', ms') ∧ ms'.h = r.2 then some (.ret h.choose.1, { ms with h := h.choose.2 }) else none
theorem mDict_ret {i : Nat} {g : KBd} {ms : MS} {d : D} {h' : Cells} (h : ∀ a, ∃ kv' ms', g a [] { ms with s := ms.s.set i (some (.hid a)) } = some (.ret d, kv', ms') ∧ ms'.h = h') : mDict i g ms = some (.ret d, { ms with h := h' }) := by
  have ex : ∃ r : D × Cells, ∀ a, ∃ kv' ms', g a [] { ms with s := ms.s.set i (some (.hid a)) } = some (.ret r.1, kv', ms') ∧ ms'.h = r.2 := ⟨(d, h'), h⟩
  have e := ex.choose_spec
  unfold mDict
  rw [dif_pos ex]
  obtain ⟨k1, m1, g1, g2⟩ := e default
  obtain ⟨k2, m2, g3, g4⟩ := h default
  rw [g1] at g3
  cases g3
  rw [g2] at g4
  have h1 : ex.choose = (ex.choose.1, ex.choose.2) := rfl
  subst g4
  rfl
theorem bvs_dict {x : Str} {pos pos' dpos : Pos} {rest : List Stmt} {g : KBd} (i : Nat) (hN : X.N.Nodup) (hr : BKs X rest g) (hi : X.N[i]? = some x := by rfl) (hx : Loc X.env.scope x := by first | exact Or.inl rfl | exact Or.inr rfl) (hs : swapsWith (.Dict [] [] dpos) (some (.Name x pos')) pos.line X.env = pure false := by rfl)
    (hf : X.fn x = true ∨ X.env.scope.names.lookup x = some .local := by first | exact .inl rfl | exact .inr rfl) : BVs X (.Assign [.Name x pos'] (.Dict [] [] dpos) pos :: rest) (mDict i g) := by
  refine pss_w (pss_cons (ps_set hN hi hx pe_dnewK hs hf) hr) fun D σ H h => ?_
  obtain ⟨ρ, ms, o, ms', R, S, e, q⟩ := h
  unfold mDict at e
  split at e
  · rename_i ex
    cases e
    have sp := ex.choose_spec
    intro p hp
    obtain ⟨kv', ms2, e1, e2⟩ := sp p
    refine ⟨ρ, H, p, ρ.hide p, { ms with s := ms.s.set i (some (.hid p)) }, [], _, kv', ms2, ⟨hp, (Rho.notIn (R.out hp)).1, fut_hide _ hp (Rho.notIn (R.out hp)).1, List.mem_cons_self, upd_same, R.hide _ hp⟩, (S.fut (fut_hide _ hp (Rho.notIn (R.out hp)).1)).set i (.hid p), e1, fun H' ρ' A' => ?_⟩
    have R' := A'.R
    rw [e2] at R'
    exact q H' ρ' A'.F R'
  · cases e
end
end Zm

set_option Elab.async false
set_option linter.all false
set_option maxRecDepth 100000
/-! Zp: sorted({e for tg in src if t}), the elements ints. -/
/-! sorted of a set of ints, fewer than 4,000 -/
namespace SrtW
open PySem L2 PySem.Spec PyProof.Rows
theorem sorted_setU {P : Program} {w : World} {A : Around} {E : Value → Shared → Prop} {s : Shared} {a : Addr} {S : Int → Bool} {n : Nat} {Q : Value → Shared → Prop} (R : SetR w s.heap a S n) (hh : A.handled = none) (few : n < 4000)
    (hQ : ∀ s' p (out : Array Value) (c : Nat) (ns : List Int), (∀ b o, s.heap.get? b = some o → s'.heap.get? b = some o) → s'.gens = s.gens → s'.os = s.os → s.heap.objs.size ≤ p →
      s'.heap.get? p = some (seqObj "list" out c) → IntsAre out.toList ns → ns.Pairwise (· < ·) → (∀ k, k ∈ ns ↔ S k = true) → ns.length = n → Q (.ref p) s') :
    wpAny (model P w) A (call (.builtin "sorted") [.ref a]) Q E s := by
  obtain ⟨o, es, ep, t, ho, hex, hd, g, nd, hm, hb, hf, hn, hr, hl⟩ := R
  refine Calls.call_function_entry kind_sorted plain_sorted entry_sorted (args_sorted1 _) ?_
  unfold Builtin.«sorted»
  refine wpAny_bind (m := checkCount "sorted" 1 1 _) (wpAny_pure ?_)
  refine wpAny_bind (collect_set (A := A.in1) hh ⟨o, ho, hex.1, hd⟩ hf hb hr hl fun s1 vs kp sz eg eo pm => ?_)
  have lv : vs.length = n := by rw [pm.length_eq, List.length_map, Array.length_toList]; exact hn
  have iv0 : IntsAre vs (vs.map Builtin.Re.reRawOf) := ints_of vs fun v hv => by
    obtain ⟨e, he, q⟩ := List.mem_map.mp (pm.mem_iff.mp hv)
    obtain ⟨k, tk, h1, _⟩ := g e he
    exact ⟨k, tk, by rw [← q]; exact h1⟩
  have pk : (vs.map Builtin.Re.reRawOf).Perm (es.toList.map keyOf) := by
    have q := pm.map Builtin.Re.reRawOf
    rw [List.map_map] at q
    exact q
  refine wpAny_bind (wpAny_newList ?_ (by rw [lv, sizeLine_eq]; omega))
  generalize hH : s1.heap.push (seqObj "list" vs.toArray 0) = h2
  have k2 : ∀ b o, s1.heap.get? b = some o → h2.get? b = some o := fun b o e => by rw [← hH]; exact Heap.get?_push_of_some _ e
  have oL : h2.get? s1.heap.objs.size = some (seqObj "list" vs.toArray 0) := by rw [← hH]; exact Heap.get?_push_size _ rfl
  refine wpAny_bind (wpAny_holding (wpAny_call_entry slot_list_sort ⟨_, oL, rfl⟩ entry_list_sort (SrtO.list_sort_ord (s := { s1 with heap := h2 }) SrtO.swo_int oL (by rw [lv, sizeLine_eq]; omega) (fun g2 => SrtO.ints_sortable iv0 g2) fun out hs hb2 => ⟨_, rfl, ?_⟩) (args_list_sort _)))
  obtain ⟨a1, a2, a3⟩ := SrtO.ints_out iv0 hs hb2
  obtain ⟨c, hc⟩ := sortedHeap_at (vs := vs) (out := out.toArray) oL
  have pn : (out.map SrtO.iv).Perm (es.toList.map keyOf) := a2.trans pk
  refine wpAny_pure ⟨_, rfl, hQ _ s1.heap.objs.size out.toArray c (out.map SrtO.iv) (fun b u e => ?_) eg eo sz hc (by simpa using a1) (lt_of_le_nodup _ a3 (pn.nodup_iff.mpr nd)) (fun k => by rw [pn.mem_iff, ← hm k]) ?_⟩
  · have q := kp b u e
    have hlt := Heap.lt_size q
    show (sortedHeap h2 s1.heap.objs.size vs out.toArray).get? b = some u
    rw [sortedHeap_old (Nat.ne_of_lt hlt) (by rw [← hH, size_push']; exact Nat.lt_succ_of_lt hlt)]
    exact k2 b u q
  · rw [pn.length_eq, List.length_map, Array.length_toList]; exact hn
end SrtW
namespace Zm
open PySem PySem.Spec L2 PyProof.Rows
def rSortedSetU (w : World) : List V → Hp → VK → Prop := fun vs H Q => ∃ (a : Addr) (S : Int → Bool) (n : Nat), vs = [V.ref a] ∧ H a = some (SetO w a S n) ∧ n < 4000 ∧
  ∀ (ns : List Int) (p : Addr), ns.Pairwise (· < ·) → (∀ k : Int, k ∈ ns ↔ S k = true) → ns.length = n → H p = none → Q (.ref p) (upd H p (.lst (ns.map V.int)))
theorem cr_sortedSetU {X : Cx} (hc : X.calm = true) : CallR X (.builtin "sorted") (rSortedSetU X.w) := by
  intro pins s σ H vs us Q I r h
  obtain ⟨a, S, n, rfl, ha, few, q⟩ := h
  rw [Vals.ref1 r]
  refine SrtW.sorted_setU (setO_get I ha) (I.ok.hd hc) few fun s' p out c ns kp eg eo hp hg hi hs hm hl => ?_
  have hv : Vals (ns.map V.int) out.toList := vals_of_ints hi
  have J : Inv X pins σ (upd H p (.lst (ns.map V.int))) { s with heap := s'.heap, gens := s'.gens, drawn := s'.drawn, toks := s'.toks } :=
    I.call (ch := []) (Un.laid kp hp (I.hok.fresh hp)) (I.hok.laid kp hp ⟨by rw [List.length_map, sizeLine_eq]; omega, out.toList, c, hv, hg⟩) (by rw [eg]; exact I.bare) (fun _ z => nomatch z)
  have e : s' = { s with heap := s'.heap, gens := s'.gens, drawn := s'.drawn, toks := s'.toks } := by
    cases s'; cases s; cases eo; rfl
  rw [e]
  exact ⟨.ref p, _, J, rfl, q ns p hs hm hl (I.hok.fresh hp)⟩
end Zm
namespace Zm
open PySem PySem.Spec L2 PyProof.Rows
section
variable {X : Cx}
/-- the comprehension of a set of ints: so many laps, and what holds before each of them, wherever the set comes to lie -/
def tSetI (w : World) (wi : TI) (g : TG) (tt : TT) (te : TE) (vs : List Nat) : TE := fun σ H Q => wi σ H fun J H1 => ∀ D, H1 D = none → ∃ (len : Nat) (P : Nat → Hp → Prop),
  P 0 (upd H1 D (SetO w D (fun _ => false) 0)) ∧ (∀ H2, P len H2 → J.stop len H2 ∧ Q (.ref D) H2) ∧
  ∀ k H2, k < len → P k H2 → J.go k H2 ∧ ∀ x H3, J.yld k H2 x H3 → g x (wipe σ vs) H3 fun τ H4 => wipe τ vs = wipe σ vs ∧ tt τ H4 fun b H5 =>
    (b = false → P (k + 1) H5) ∧ (b = true → te τ H5 fun y H6 => ∃ c S n, y = V.int c ∧ H6 D = some (SetO w D S n) ∧ n + 1 < scanBound ∧
      P (k + 1) (upd H6 D (SetO w D (fun j => S j || decide (j = c)) (if S c = true then n else n + 1))))
/-- what stands before lap k of the block: its context, its iterator, what the text says -/
structure LapSt (B : Cx) (fp : List Addr) (tn : Nat → Heap → Prop) (τ : L2.St) (P : Nat → Hp → Prop) (k : Nat) (s : Shared) (H : Hp) : Prop where
  inv : Inv B [] τ H s
  turn : tn k s.heap
  own : ∀ a ∈ fp, H a = none
  says : P k H
/-- one lap's end: out of the pins of the iterator -/
theorem LapSt.next {B : Cx} {fp : List Addr} {tn : Nat → Heap → Prop} {σ τ : L2.St} {vs : List Nat} {P : Nat → Hp → Prop} {k : Nat} {it : Addr} {J : It} {tg : Expr} {s0 s : Shared} {H : Hp} (T : Turn B.prog B.w B.K tg J fp it tn) (t0 : tn (k + 1) s0.heap)
    (I : Inv B ([] ++ pinsAt fp s0.heap) τ H s) (ew : wipe τ vs = wipe σ vs) (p : P (k + 1) H) : LapSt B fp tn (wipe σ vs) P (k + 1) s H := by
  have stays : ∀ a ∈ fp, ∀ o, s0.heap.get? a = some o → s.heap.get? a = some o ∧ H a = none := fun a ha o e => by
    have z := I.pin (a, o) (List.mem_append_right _ (List.mem_append_right _ (mem_pinsAt ha e)))
    exact ⟨z.1, z.2.1⟩
  have len : (wipe σ vs).length = τ.length := by rw [← ew]; exact wipe_length ..
  refine ⟨(I.unpinned (pins := [])).weak len fun j v e => ?_, T.keep _ _ _ t0 fun a ha o e => (stays a ha o e).1, fun a ha => ?_, p⟩
  · rw [← ew] at e; exact (wipe_some e).1
  · have ⟨o, e, _⟩ := T.obj _ _ t0 a ha
    exact (stays a ha o e).2
theorem pe_setI {elt tg iter : Expr} {ifs : List Expr} {scope : Scope} {own : List (PySem.Str × Nat)} {pos : Pos} {wi : TI} {g : TG} {tt : TT} {te : TE} (calm : X.calm = true) (nd : X.N.Nodup) (hi : PI X tg iter wi) (ok : BlkOk X.N X.env.scope scope own)
    (hg : ∀ (b : Shared) (G : Hp) (c : Addr) (l : List (PySem.Str × Addr)) (fp : List Addr), PG (X.blk b G scope (compEnvC scope l c X.env) fp) tg g)
    (ht : ∀ (b : Shared) (G : Hp) (c : Addr) (l : List (PySem.Str × Addr)) (fp : List Addr), PTs (X.blk b G scope (compEnvC scope l c X.env) fp) ifs tt)
    (he : ∀ (b : Shared) (G : Hp) (c : Addr) (l : List (PySem.Str × Addr)) (fp : List Addr), PE (X.blk b G scope (compEnvC scope l c X.env) fp) elt te)
    (fold : ∀ v, foldedSetIterable iter X.env v = pure v := by intro _; rfl) : PE X (.SetComp elt [⟨tg, iter, ifs, 0⟩] scope pos) (tSetI X.w wi g tt te (own.map (·.2))) := by
  refine ⟨fun pins s σ H Q I h => ?_⟩
  rw [PpSet.eval_SetComp]
  have free : ∀ y ∈ scope.names, y.2 = .free → ∃ c, X.env.cells.lookup y.1 = some c := by
    intro y my ey
    rcases ok.free y my ey with m | m
    · exact I.ok.has y.1 (Or.inl m)
    · exact I.ok.has y.1 (Or.inr m)
  refine wpAny_comprehension_free (use := none) rfl fold (closure_ok free) ok.kind (fun y my ey => by rw [ok.uniq y my, ey]) (thn (hi.run pins s σ H _ I h) fun v0 sA hA => thn hA fun v1 sB hB => ?_)
  obtain ⟨it, fp, tn, J, HB, rfl, IB, T, tB, fB, q⟩ := hB
  refine PpSet.newSet_ok (newEnv_comp ?_)
  obtain ⟨D, eD⟩ : ∃ D, D = sB.heap.objs.size := ⟨_, rfl⟩
  rw [← eD]
  obtain ⟨len, P, P0, Pend, step⟩ := q D (IB.hok.fresh (Nat.le_of_eq eD.symm))
  -- the empty set lies there
  obtain ⟨sC, eC⟩ : ∃ sC : Shared, sC = { sB with heap := sB.heap.push { cls := .type "set", dict := none, data := .set #[] 0 (.fresh 0 0 (!X.w.params.followText "set-order")) } } := ⟨_, rfl⟩
  rw [← eC]
  obtain ⟨HC, eH⟩ : ∃ HC, HC = upd HB D (SetO X.w D (fun _ => false) 0) := ⟨_, rfl⟩
  rw [← eH] at P0
  have IC : Inv X pins σ HC sC := by
    subst eC eH eD
    exact IB.laid (t' := sB.toks) (fun _ _ e => Heap.get?_push_of_some _ e) (Nat.le_refl _) (setO_new (setR_fresh X.w))
  have up : ∀ a o, sB.heap.get? a = some o → sC.heap.get? a = some o := by
    intro a o e
    rw [eC]
    exact Heap.get?_push_of_some _ e
  have fC : ∀ a ∈ fp, FpOk X pins HC a ∧ a < sC.heap.objs.size := by
    intro a ha
    have ⟨o, e, _⟩ := T.obj _ _ tB a ha
    have lt := Heap.lt_size e
    have ne : a ≠ D := by rw [eD]; exact Nat.ne_of_lt lt
    exact ⟨⟨by rw [eH, upd_ne ne]; exact (fB a ha).1, (fB a ha).2⟩, Heap.lt_size (up a o e)⟩
  have tC : tn 0 sC.heap := T.keep _ _ _ tB fun a _ o e => up a o e
  have ID := block_start IC ok nd fC
  obtain ⟨cl, ecl⟩ : ∃ cl, cl = cellsFrom (sC.heap.objs.size + 1) scope.names (cloFrom X.env.cells scope.names []) := ⟨_, rfl⟩
  obtain ⟨ce, ece⟩ : ∃ ce, ce = compEnvC scope cl sC.heap.objs.size X.env := ⟨_, rfl⟩
  have pg := hg sC HC sC.heap.objs.size cl fp
  have pt := ht sC HC sC.heap.objs.size cl fp
  have pe := he sC HC sC.heap.objs.size cl fp
  rw [← ecl, ← ece] at ID
  rw [← ece] at pg pt pe
  have at_ : ce.locals = sC.heap.objs.size := by rw [ece]; rfl
  obtain ⟨sD, eS⟩ : ∃ sD : Shared, sD = { sC with heap := pushCells (sC.heap.push { cls := .type "dict", data := .dict #[] }) scope.names } := ⟨_, rfl⟩
  rw [← eS] at ID
  have tD : tn 0 sD.heap := T.keep _ _ _ tC fun a _ o e => by rw [eS]; exact pushCells_keeps _ _ _ _ (Heap.get?_push_of_some _ e)
  have ready : ∀ {τ : L2.St} {G : Hp} {b : Shared}, Inv (X.blk sC HC scope ce fp) [] τ G b → (∀ a ∈ fp, G a = none) → ∀ a ∈ fp, FpOk (X.blk sC HC scope ce fp) [] G a := by
    intro τ G b Ib no a ha
    exact ⟨no a ha, (Ib.ok.exf a ha).1, Ib.ok.exfs a ha, Or.inl ha, fun y c e => (Ib.ok.exf a ha).2 y c e, fun r hr => (by cases (show r ∈ ([] : List (Addr × Obj)) ++ [] from hr))⟩
  have laps : codeAny (model X.prog X.w) X.A (.compLoop (.SetComp elt [⟨tg, iter, ifs, 0⟩] scope pos) 0 (.ref it) (.ref D) ce) (compPost (model X.prog X.w) X.A X.xe none (fun v s' => ∃ x H', Inv X pins σ H' s' ∧ RelV x v ∧ Q x H') (.ref D) sC.heap.objs.size) sD := by
    refine PpSet.compLoopS_any (fun m b => ∃ k G, m = len - k ∧ k ≤ len ∧ LapSt (X.blk sC HC scope ce fp) fp tn (wipe σ (own.map (·.2))) P k b G) ?_ len ⟨0, HC, rfl, Nat.zero_le _, ID, tD, fun a ha => (fC a ha).1.1, P0⟩
    rintro m b ⟨k, G, rfl, hk, L⟩
    by_cases last : k < len
    · obtain ⟨go, lap⟩ := step k G last L.says
      have item := T.item (X.blk sC HC scope ce fp) rfl rfl rfl calm k [] b _ G (fun _ _ => False) L.inv (ready L.inv L.own) L.turn go
      refine thnF item fun r b1 ⟨u, er, i1⟩ => ?_
      subst er
      refine thnF i1 fun _ b2 ⟨x, G2, I2, rx, y2, t2, n2⟩ => ?_
      have I3 := I2.pinned (ready I2 n2) (T.obj _ _ t2)
      refine thnF (pg.run _ b2 _ G2 x u _ I3 rx (lap x G2 y2)) fun _ b3 ⟨τ, G3, I4, ew, q3⟩ => ?_
      refine thnF (pt.run _ b3 τ G3 _ I4 q3) fun c b4 ⟨G4, I5, qf, qt⟩ => ?_
      cases c with
      | false => exact ⟨len - (k + 1), by omega, k + 1, G4, rfl, last, LapSt.next T t2 I5 ew (qf rfl)⟩
      | true =>
        refine thnF (pe.run _ b4 τ G4 _ I5 (qt rfl)) fun z b5 ⟨yv, G5, I6, rz, cv, S, n, ey, hD5, room, p5⟩ => ?_
        subst ey
        have add := mt_sadd (X := X.blk sC HC scope ce fp) _ b5 τ G5 (.ref D) [V.int cv] (.ref D) [z] (fun x H6 => x = .non ∧ H6 = upd G5 D (SetO X.w D (fun j => S j || decide (j = cv)) (if S cv = true then n else n + 1))) I6 rfl (.cons rz .nil) ⟨D, cv, S, n, rfl, rfl, hD5, room, rfl, rfl⟩
        refine thnF add fun _ b6 ⟨x6, G6, I7, _, _, e6⟩ => ?_
        subst e6
        exact ⟨len - (k + 1), by omega, k + 1, _, rfl, last, LapSt.next T t2 I7 ew p5⟩
    · obtain rfl : k = len := by omega
      obtain ⟨stop, qe⟩ := Pend G L.says
      have done := T.done (X.blk sC HC scope ce fp) rfl rfl rfl calm k [] b _ G (fun _ _ => False) L.inv (ready L.inv L.own) L.turn stop
      refine thnF done fun r b1 ⟨er, I1⟩ => ?_
      subst er
      have back : Inv X pins σ G b1 := IC.call' (ch := fp) I1.os I1.base I1.hok I1.bare fun a ha => by
        have f := (fC a ha).1.2
        exact ⟨f.2.2.1, f.1, f.2.2.2.1, f.2.2.2.2⟩
      have none_ : G sC.heap.objs.size = none := by rw [← at_]; exact I1.free
      obtain ⟨mm, hn, _⟩ := I1.loc
      have hn' : b1.heap.Ns ce.locals mm := hn
      rw [at_] at hn'
      have fp0 := IC.fpOk (Nat.le_refl _) none_
      refine ⟨mm, hn', fun h2 sb => ⟨.ref D, G, ?_, rfl, qe⟩⟩
      exact back.turned (t' := b1.toks) (fun a o ha e => (sb.2 a ha).trans e) fp0.1 fp0.2.1 fp0.2.2.2.1 fp0.2.2.2.2.1 fp0.2.2.2.2.2
  rw [eS, ece, ecl] at laps
  exact PpSet.codeAny_compStart_set laps (T.self X.A 0 _ _ _ (by rw [← eS]; exact tD) laps)
end
/-! as a function -/
theorem insU_len {x : Int} : ∀ {l : List Int}, l.Pairwise (· < ·) → (insU x l).length = if x ∈ l then l.length else l.length + 1
  | [], _ => by simp [insU]
  | y :: l, h => by
    obtain ⟨h1, h2⟩ := List.pairwise_cons.mp h
    unfold insU
    by_cases a : x < y
    · have n : x ∉ y :: l := fun m => by
        rcases List.mem_cons.mp m with e | m
        · omega
        · have := h1 x m; omega
      rw [if_pos a, if_neg n]; rfl
    · rw [if_neg a]
      by_cases b : x = y
      · rw [if_pos b, if_pos (by rw [b]; exact List.mem_cons_self)]
      · rw [if_neg b, List.length_cons, insU_len h2]
        by_cases m : x ∈ l
        · rw [if_pos m, if_pos (List.mem_cons_of_mem _ m)]; rfl
        · rw [if_neg m, if_neg (fun z => (List.mem_cons.mp z).elim b m)]; rfl
theorem sortU_cons_len (c : Int) (l : List Int) : (sortU (c :: l)).length = if c ∈ l then (sortU l).length else (sortU l).length + 1 := by
  show (insU c (sortU l)).length = _
  rw [insU_len (asc_sortU l)]
  by_cases m : c ∈ l
  · rw [if_pos m, if_pos (mem_sortU.mpr m)]
  · rw [if_neg m, if_neg (fun z => m (mem_sortU.mp z))]
theorem sortU_len_le : ∀ l : List Int, (sortU l).length ≤ l.length
  | [] => Nat.le_refl _
  | c :: l => by
    rw [sortU_cons_len]
    have := sortU_len_le l
    rw [List.length_cons]
    split <;> omega
theorem intsO_cons {y : D} {r : List D} {ns : List Int} (h : intsO (y :: r) = some ns) : ∃ c ms, y = .int c ∧ intsO r = some ms ∧ ns = c :: ms := by
  cases y <;> simp only [intsO] at h <;> try (cases h; done)
  obtain ⟨m, h1, h2⟩ := Option.map_eq_some_iff.mp h
  exact ⟨_, m, rfl, h1, h2.symm⟩
/-- sorted({e for tg in src if t}) of ints -/
def mSSC (f : MI) (g : MG) (t : MT) (e : ME) (vs : List Nat) : ME := fun ms => (f ms).bind fun r => (mCompL g t e (wipeD ms.s vs) r.1 r.2).bind fun q => (intsO q.1).bind fun ns => bif decide ((sortU ns).length < 1000) && decide (ns.length < 4000) then some (.lst ((sortU ns).map D.int), q.2) else none
section
variable {K : PySem.W.Frag}
theorem rd_ssc {w : World} {f : MI} {g : MG} {tG : TG} {t : MT} {e : ME} {vs : List Nat} (hG : TgOk K tG g vs) {σ : L2.St} {H : Hp} {Q : VK} (h : rdE K (mSSC f g t e vs) σ H Q) : tCB (rSortedSetU w) (tCons (tSetI w (rdI K f) tG (rdT K t) (rdE K e) vs) tNil) σ H Q := by
  obtain ⟨ρ, ms, d, h', R, S, e0, q⟩ := h
  obtain ⟨⟨ds, h1⟩, e1, e2⟩ := Option.bind_eq_some_iff.mp e0
  obtain ⟨⟨out, h2⟩, e3, e4⟩ := Option.bind_eq_some_iff.mp e2
  obtain ⟨ns, e5, e6⟩ := Option.bind_eq_some_iff.mp e4
  obtain ⟨hz, e7⟩ := bif_some e6
  cases e7
  rw [Bool.and_eq_true] at hz
  have z1 : (sortU ns).length < 1000 := of_decide_eq_true hz.1
  have z2 : ns.length < 4000 := of_decide_eq_true hz.2
  refine ⟨ρ, ms, ds, h1, R, S, e1, fun J H1 ρ1 F1 R1 Y D hD => ?_⟩
  have nDc : D ∉ ρ1.c := (Rho.notIn (R1.out hD)).1
  refine ⟨ds.length, fun k H2 => k ≤ ds.length ∧ ∃ ρ2 hh acc rest nr, Fut ρ1 H1 ρ2 H2 ∧ Rel K ρ2 hh H2 ∧ H2 D = some (SetO w D (fun j => decide (j ∈ acc)) (sortU acc).length) ∧ D ∈ ρ2.v ∧ mCompL g t e (wipeD ms.s vs) (ds.drop k) hh = some (rest, h2) ∧ intsO rest = some nr ∧ (∀ j, j ∈ ns ↔ j ∈ acc ∨ j ∈ nr) ∧ acc.length + nr.length = ns.length,
    ⟨Nat.zero_le _, ρ1.hide D, h1, [], out, ns, fut_hide _ hD nDc, R1.hide _ hD, by rw [upd_same]; congr 2, List.mem_cons_self, e3, e5, fun j => by simp, by simp⟩, fun H2 hP => ?_, fun k H2 hl hP => ?_⟩
  · obtain ⟨_, ρ2, hh, acc, rest, nr, F2, R2, hS, mD, e8, e9, mem, _⟩ := hP
    obtain ⟨ystop, _⟩ := Y ds.length ρ2 H2 hh F2 R2
    rw [List.drop_eq_nil_of_le (Nat.le_refl _)] at e8
    cases e8
    cases e9
    have es : sortU acc = sortU ns := asc_eq (asc_sortU _) (asc_sortU _) fun j => by rw [mem_sortU, mem_sortU, mem]; simp
    refine ⟨ystop (Nat.le_refl _), ⟨D, _, _, rfl, hS, by rw [es]; omega, fun ns' p up hm hl hp => ?_⟩⟩
    have en : ns' = sortU ns := asc_eq up (asc_sortU _) fun j => by rw [hm, mem_sortU, mem]; simp
    subst en
    exact q _ _ ρ2 (F1.trans (F2.trans (fut_new _ hp))) (R2.new _ hp) (.lst upd_same (R2.out hp) (dens_ofI _))
  · obtain ⟨_, ρ2, hh, acc, rest, nr, F2, R2, hS, mD, e8, e9, mem, sz⟩ := hP
    obtain ⟨_, ygo⟩ := Y k ρ2 H2 hh F2 R2
    obtain ⟨g1, g2⟩ := ygo _ (List.getElem?_eq_getElem hl)
    rw [List.drop_eq_getElem_cons hl] at e8
    simp only [mCompL] at e8
    obtain ⟨m1, e10, e11⟩ := Option.bind_eq_some_iff.mp e8
    obtain ⟨⟨b, hb⟩, e12, e13⟩ := Option.bind_eq_some_iff.mp e11
    refine ⟨g1, fun x H3 y => ?_⟩
    obtain ⟨Fy, Ry, dy⟩ := g2 x H3 y
    have Fs : Fut ρ H ρ2 H3 := F1.trans (F2.trans Fy)
    have nc2 : D ∉ ρ2.c := fun z => R2.apart D z mD
    have hS3 := Fy.keep _ _ nc2 hS
    refine hG ρ2 ⟨wipeD ms.s vs, hh⟩ m1 H3 x _ _ _ ((S.fut Fs).wipe vs) dy e10 fun τ hw Sτ hh3 => ⟨?_, ?_⟩
    · apply List.ext_getElem?
      intro j
      have hw2 := congrArg (fun l => l[j]?) hw
      simp only [wipe_get, wipe_length] at hw2 ⊢
      by_cases hj : j ∈ vs
      · simpa [hj] using hw2
      · simpa [hj] using hw2
    · refine ⟨ρ2, m1, b, hb, by rw [hh3]; exact Ry, Sτ, e12, fun H4 ρ4 F4 R4 => ⟨fun eb => ?_, fun eb => ?_⟩⟩
      · subst eb
        have hS4 := F4.keep _ _ nc2 hS3
        exact ⟨hl, ρ4, hb, acc, rest, nr, (F2.trans Fy).trans F4, R4, hS4, F4.sub _ mD, e13, e9, mem, sz⟩
      · subst eb
        have hS4 := F4.keep _ _ nc2 hS3
        have mD4 : D ∈ ρ4.v := F4.sub _ mD
        have nc4 : D ∉ ρ4.c := fun z => R4.apart D z mD4
        obtain ⟨⟨y1, hy⟩, e14, e15⟩ := Option.bind_eq_some_iff.mp e13
        obtain ⟨⟨r2, h6⟩, e16, e17⟩ := Option.map_eq_some_iff.mp e15
        cases e17
        obtain ⟨c, nr2, rfl, e18, rfl⟩ := intsO_cons e9
        refine ⟨ρ4, ⟨m1.s, hb⟩, .int c, hy, R4, Sτ.fut F4, e14, fun v H5 ρ5 F5 R5 dv => ?_⟩
        have hS5 := F5.keep _ _ nc4 hS4
        have mD5 : D ∈ ρ5.v := F5.sub _ mD4
        have F15 := ((F2.trans Fy).trans F4).trans F5
        rw [List.length_cons] at sz
        have sl := sortU_len_le acc
        refine ⟨c, _, _, den_int dv, hS5, by unfold scanBound; omega, hl, ρ5, hy, c :: acc, r2, nr2, ⟨fun a o n e => ?_, F15.ext, F15.sub, F15.hid, F15.fresh⟩, R5.poke _ mD5, ?_, mD5, e16, e18, fun j => ?_, by rw [List.length_cons]; omega⟩
        · rw [upd_ne (ne_of_none e hD)]
          exact F15.keep a o n e
        · have eS : (fun j => decide (j ∈ acc) || decide (j = c)) = fun j => decide (j ∈ c :: acc) := by
            funext j
            by_cases z : j = c
            · simp [z]
            · simp [z]
          rw [upd_same, eS, sortU_cons_len]
          simp only [decide_eq_true_eq]
        · rw [mem, List.mem_cons, List.mem_cons]
          constructor
          · rintro (m | m | m)
            · exact .inl (.inr m)
            · exact .inl (.inl m)
            · exact .inr m
          · rintro ((m | m) | m)
            · exact .inr (.inl m)
            · exact .inl m
            · exact .inr (.inr m)
end
section
variable {X : Cx}
/-- sorted({e for tg in src if t}) -/
theorem ev_sortC {elt tg iter : Expr} {ifs : List Expr} {scope : Scope} {own : List (Str × Nat)} {vs : List Nat} {p pos pos2 : Pos} {f : MI} {g : MG} {tG : TG} {t : MT} {e : ME} (hm : X.mg "sorted" = none) (hv : bootBuiltins "sorted" = some (.builtin "sorted")) (hc : X.calm = true) (hN : X.N.Nodup) (hi : IV X tg iter f) (hG : TgOk X.K tG g vs) (ok : BlkOk X.N X.env.scope scope own) (hvs : own.map (·.2) = vs)
    (hg : ∀ (s : Shared) (H : Hp) (C : Addr) (cl : List (Str × Addr)) (fp : List Addr), PG (X.blk s H scope (compEnvC scope cl C X.env) fp) tg tG) (ht : ∀ (s : Shared) (H : Hp) (C : Addr) (cl : List (Str × Addr)) (fp : List Addr), PTs (X.blk s H scope (compEnvC scope cl C X.env) fp) ifs (rdT X.K t))
    (he : ∀ (s : Shared) (H : Hp) (C : Addr) (cl : List (Str × Addr)) (fp : List Addr), PE (X.blk s H scope (compEnvC scope cl C X.env) fp) elt (rdE X.K e)) (hs : ∀ x, foldedSetIterable iter X.env x = pure x := by intro _; rfl) (hgl : Gl X "sorted" := by rfl)
    (s2 : starEach [Expr.SetComp elt [⟨tg, iter, ifs, 0⟩] scope pos2] X.env = (false, eval (Expr.SetComp elt [⟨tg, iter, ifs, 0⟩] scope pos2) X.env) :: starEach [] X.env := by rfl) :
    EV X (.Call (.Name "sorted" p) [.SetComp elt [⟨tg, iter, ifs, 0⟩] scope pos2] [] pos) (mSSC f g t e vs) := by
  subst hvs
  exact pe_w (pe_callB (cr_sortedSetU hc) hgl hm hv (pa_cons (pe_setI hc hN hi ok hg ht he hs) pa_nil s2) (by decide) (by decide) s2 rfl) fun _ _ _ h => rd_ssc hG h
/-! a tuple of ints as the inner source of a comprehension -/
def iTI (f : ME) : MI := fun ms => (f ms).bind fun r => (asT r.1).bind fun ds => (intsO ds).map fun _ => (ds, r.2)
theorem iva_tupI {tg l : Expr} {f : ME} (h : EV X l f) : IVA X tg l (iTI f) := by
  refine pi_w (pi_tup h) fun σ H Rk hh => ?_
  obtain ⟨ρ, ms, ds, h', R, S, e, q⟩ := hh
  obtain ⟨⟨d, h1⟩, e1, e2⟩ := Option.bind_eq_some_iff.mp e
  obtain ⟨es, e3, e4⟩ := Option.bind_eq_some_iff.mp e2
  obtain ⟨ns, e5, e6⟩ := Option.map_eq_some_iff.mp e4
  cases e6
  cases d <;> simp only [asT] at e3 <;> try (cases e3; done)
  cases e3
  have en := intsO_eq e5
  subst en
  refine ⟨ρ, ms, _, _, R, S, e1, fun v H1 ρ1 F1 R1 dn => ?_⟩
  have stays : ∃ a, v = .ref a ∧ ∀ ρ2 H2, FutV ρ1 H1 ρ2 H2 → SqT X.K H2 a (ns.map V.int) := by
    cases dn with
    | tup r n dd =>
      have := dens_toI dd
      subst this
      refine ⟨_, rfl, fun ρ2 H2 F2 => .inl ?_⟩
      rcases r with r | ⟨o, r⟩
      · exact .inl (F2.keep _ _ n r)
      · exact .inr ⟨o, F2.keep _ _ n r⟩
    | tupK r dd =>
      have := dens_toI dd
      subst this
      exact ⟨_, rfl, fun ρ2 H2 _ => r H2⟩
  obtain ⟨a, rfl, hq⟩ := stays
  refine ⟨a, rfl, ⟨_, hq ρ1 H1 (.refl _ _)⟩, q _ _ ρ1 F1 R1 fun i ρ2 H2 h2 F2 R2 => ⟨fun hl => ⟨_, hq ρ2 H2 F2, by simpa using hl⟩, fun d hd => ?_⟩⟩
  rw [List.getElem?_map] at hd
  obtain ⟨n, hn, rfl⟩ := Option.map_eq_some_iff.mp hd
  have hx : (ns.map V.int)[i]? = some (V.int n) := by rw [List.getElem?_map, hn]; rfl
  refine ⟨⟨_, _, hq ρ2 H2 F2, hx⟩, fun y H' hy => ?_⟩
  obtain ⟨rfl, hy⟩ := hy
  have hy' := hy _ (hq ρ2 _ F2)
  rw [hx] at hy'
  cases hy'
  exact ⟨.refl _ _, R2, .int _⟩
end
end Zm

set_option Elab.async false
set_option linter.all false
set_option maxRecDepth 100000
/-! ZA: a fresh list as the inner source of a comprehension; (e, *t); sorted of a set comprehension of tuples; defs that call themselves. -/
namespace Zm
open PySem L2 PySem.Spec PyProof.Rows SrtW
mutual
theorem Den.futV {K : PySem.W.Frag} {ρ ρ' : Rho} {H H' : Hp} (F : FutV ρ H ρ' H') : ∀ {v : V} {d : D}, clean d = true → Den K ρ H v d → Den K ρ' H' v d
  | _, _, _, .non => .non
  | _, _, _, .bl b => .bl b
  | _, _, _, .int i => .int i
  | _, _, _, .str x => .str x
  | _, _, c, .tup r n dd => .tup (by
      rcases r with r | ⟨o, r⟩
      · exact .inl (F.keep _ _ n r)
      · exact .inr ⟨o, F.keep _ _ n r⟩) (by
      rcases r with r | ⟨o, r⟩
      · exact F.out _ _ n r
      · exact F.out _ _ n r) (Dens.futV F (by simpa [clean] using c) dd)
  | _, _, c, .tupK r dd => .tupK r (Dens.futV F (by simpa [clean] using c) dd)
  | _, _, c, .lst r n dd => .lst (F.keep _ _ n r) (F.out _ _ n r) (Dens.futV F (by simpa [clean] using c) dd)
  | _, _, c, .frl r n dd => .frl (by
      rcases r with r | ⟨o, r⟩
      · exact .inl (F.keep _ _ n r)
      · exact .inr ⟨o, F.keep _ _ n r⟩) (by
      rcases r with r | ⟨o, r⟩
      · exact F.out _ _ n r
      · exact F.out _ _ n r) (Dens.futV F (by simpa [clean] using c) dd)
  | _, _, c, .frlK r dd => .frlK r (Dens.futV F (by simpa [clean] using c) dd)
  | _, _, _, .ty n => .ty n
  | _, _, _, .dic r n => .dic (F.keep _ _ n r) (F.out _ _ n r)
  | _, _, _, .rng r n => .rng (F.keep _ _ n r) (F.out _ _ n r)
  | _, _, _, .hid a => .hid a
  | _, _, c, .exc h n r => .exc (F.keep _ _ n h) (F.out _ _ n h) (Den.futV F (by simpa [clean] using c) r)
theorem Dens.futV {K : PySem.W.Frag} {ρ ρ' : Rho} {H H' : Hp} (F : FutV ρ H ρ' H') : ∀ {vs : List V} {ds : List D}, cleans ds = true → Dens K ρ H vs ds → Dens K ρ' H' vs ds
  | _, _, _, .nil => .nil
  | _ :: _, d :: ds, c, .cons a b => by
    have c' : clean d = true ∧ cleans ds = true := by simpa [cleans] using c
    exact .cons (Den.futV F c'.1 a) (Dens.futV F c'.2 b)
end
section
variable {X : Cx} {K : PySem.W.Frag}
/-- a list without cells, as the inner source -/
def iSC (f : ME) : MI := fun ms => (f ms).bind fun r => (match r.1 with
  | .lst ds => bif cleans ds then some (ds, r.2) else none
  | _ => none)
theorem iva_lst {tg l : Expr} {f : ME} (h : EV X l f) : IVA X tg l (iSC f) := by
  refine pi_w (pi_list h) fun σ H Rk hh => ?_
  obtain ⟨ρ, ms, ds, h', R, S, e, q⟩ := hh
  obtain ⟨⟨d, h1⟩, e1, e2⟩ := Option.bind_eq_some_iff.mp e
  dsimp only at e2
  split at e2
  · rename_i es
    obtain ⟨hc, e3⟩ := bif_some e2
    cases e3
    refine ⟨ρ, ms, _, _, R, S, e1, fun v H1 ρ1 F1 R1 dn => ?_⟩
    have stays : ∃ a vs, v = .ref a ∧ ∀ ρ2 H2, FutV ρ1 H1 ρ2 H2 → SqL X.K H2 a vs ∧ Dens X.K ρ2 H2 vs ds := by
      cases dn with
      | lst r n dd => exact ⟨_, _, rfl, fun ρ2 H2 F2 => ⟨SqL.of (F2.keep _ _ n r), Dens.futV F2 hc dd⟩⟩
    obtain ⟨a, vs, rfl, hq⟩ := stays
    refine ⟨a, rfl, ⟨vs, (hq ρ1 H1 (.refl _ _)).1⟩, q _ _ ρ1 F1 R1 fun i ρ2 H2 h2 F2 R2 => ⟨fun hl => ⟨vs, (hq ρ2 H2 F2).1, by rw [(hq ρ2 H2 F2).2.length]; exact hl⟩, fun d hd => ?_⟩⟩
    obtain ⟨x, hx, dx⟩ := (hq ρ2 H2 F2).2.get hd
    refine ⟨⟨vs, x, (hq ρ2 H2 F2).1, hx⟩, fun y H' hy => ?_⟩
    obtain ⟨rfl, hy⟩ := hy
    have hy' := hy _ (hq ρ2 _ F2).1
    rw [hx] at hy'
    cases hy'
    exact ⟨.refl _ _, R2, dx⟩
  · cases e2
/-- *t among the items, t a tuple -/
def mStar (f : ME) (g : MA) : MA := fun ms => (f ms).bind fun r => (asT r.1).bind fun ds => (g { ms with h := r.2 }).map fun t => (ds ++ t.1, t.2)
theorem dens_app {ρ : Rho} {H : Hp} : ∀ {vs ws : List V} {ds es : List D}, Dens K ρ H vs ds → Dens K ρ H ws es → Dens K ρ H (vs ++ ws) (ds ++ es)
  | [], _, _, _, .nil, b => b
  | _ :: _, _, _, _, .cons a r, b => .cons a (dens_app r b)
theorem av_star {e : Expr} {es : List Expr} {p : Pos} {f : ME} {g : MA} (he : EV X e f) (hr : AV X es g) (hs : starEach (.Starred e p :: es) X.env = (true, eval e X.env) :: starEach es X.env := by rfl) : AV X (.Starred e p :: es) (mStar f g) := by
  refine pa_w (StX.pa_star he hr hs) fun σ H Q h => ?_
  obtain ⟨ρ, ms, ds, h', R, S, e0, q⟩ := h
  obtain ⟨⟨d, h1⟩, e1, e2⟩ := Option.bind_eq_some_iff.mp e0
  obtain ⟨xs, e3, e4⟩ := Option.bind_eq_some_iff.mp e2
  obtain ⟨⟨ys, h2⟩, e5, e6⟩ := Option.map_eq_some_iff.mp e4
  cases e6
  cases d <;> simp only [asT] at e3 <;> try (cases e3; done)
  cases e3
  refine ⟨ρ, ms, _, h1, R, S, e1, fun v H1 ρ1 F1 R1 dn => ?_⟩
  obtain ⟨a, vs, rfl, sq, dv⟩ := den_tup dn
  exact ⟨a, vs, rfl, .inl sq, ρ1, { ms with h := h1 }, ys, h2, R1, S.fut F1, e5, fun ws H' ρ' F R' dns => q (vs ++ ws) H' ρ' (F1.trans F) R' (dens_app (dv.fut F) dns)⟩
end

/-! sorted({e for tg in src if t}), the elements tuples of ints -/
section
variable {P : Program} {w : World} {A : Around} {E : Value → Shared → Prop} {s : Shared}
theorem call_set_addT {a x : Addr} {k : List Int} {L : List (Addr × List Int)} {es : Array (Int × Value)} {ep : Nat} {t : SetTable} {Q : Value → Shared → Prop} (R : SetTR P w s.heap a L es ep t) (hx : IsT P w s.heap k x) (hu : A.units + 1 < cLine) (hfew : L.length + 1 < 64)
    (h : ∀ h' L' es' ep' t', Heap.SameBut a s.heap h' → SetTR P w h' a L' es' ep' t' → (k ∈ L.map (·.2) → L' = L) → (k ∉ L.map (·.2) → L'.Perm ((x, k) :: L)) → Q .none { s with heap := h', toks := s.toks + (k.length + 1) }) :
    wpAny (model P w) A (call (.builtin "set.add") [.ref a, .ref x]) Q E s := by
  have hT : s.TypeIs (.ref a) "set" := by
    obtain ⟨o, ho, hex, hd⟩ := R.ob
    exact ⟨o, ho, hex.1⟩
  refine wpAny_call_entry F.slot_set_add hT F.entry_set_add ?_ (F.args_set_add_2 _ _)
  unfold Builtin.«set.add» Builtin.Frozenset.oneOther
  simp only [List.isEmpty_nil, bind_assoc]
  unfold Builtin.Frozenset.addrOf setAdd
  refine wpAny_bind (wpAny_pure ?_)
  try dsimp only
  refine wpAny_bind (wpAny_pure ?_)
  try dsimp only
  refine wpAny_bind ?_
  refine wpAny_holding ?_
  refine wpAny_bind (wpAny_pyHash_tuple (by first | exact hu | (simp; omega)) hx ?_)
  refine add_at (s := { s with toks := s.toks + (k.length + 1) }) R hx (by first | exact hu | (simp; omega)) hfew fun b h' L' es' ep' t' hsb hS c1 c2 => ?_
  show wpAny _ _ (ret Value.none) _ _ _
  exact wpAny_pure ⟨_, rfl, h h' L' es' ep' t' hsb hS c1 c2⟩
end
section
variable {X : Cx}
def rSAddT (K : PySem.W.Frag) (P : Program) (w : World) : V → List V → Hp → VK → Prop := fun x xs H Q => ∃ (a b : Addr) (k : List Int) (L : List (Addr × List Int)), x = V.ref a ∧ xs = [V.ref b] ∧ SqT K H b (k.map V.int) ∧ H a = some (SetTO P w a L) ∧ (∀ p ∈ L, SqT K H p.1 (p.2.map V.int)) ∧ L.length + 1 < 64 ∧
  ∀ L', (k ∈ L.map (·.2) → L' = L) → (k ∉ L.map (·.2) → L'.Perm ((b, k) :: L)) → Q .non (upd H a (SetTO P w a L'))
theorem mt_saddT (hu : X.A.units + 64 < cLine) : MtR X "set.add" (rSAddT X.K X.prog X.w) := by
  intro pins s σ H x xs v us Q I rx rxs h
  obtain ⟨a, b, k, L, rfl, rfl, hb, ha, hk, few, q⟩ := h
  cases rx
  cases rxs with
  | cons ry rt =>
    cases rt
    cases ry
    have R0 : SetT0 X.prog X.w s.heap a L := (I.hok a _ ha).1
    obtain ⟨es, ep, t, R⟩ := R0.full fun p hp => I.isT (hk p hp)
    refine call_set_addT R (I.isT hb) (by omega) few fun h' L' es' ep' t' sb new c1 c2 => ?_
    have he : ∃ u, h'.get? a = some u := by
      have ⟨o, ho, _⟩ := new.ob
      exact ⟨o, ho⟩
    exact ⟨.non, upd H a (SetTO X.prog X.w a L'), I.write (e := a) (t' := s.toks + (k.length + 1)) (by rw [ha]; trivial) (.inl rfl) (fun b u hb hu => (sb.2 b hb).trans hu) he (setTO_new new.t0), rfl, q L' c1 c2⟩
def tSetT (K : PySem.W.Frag) (P : Program) (w : World) (wi : TI) (g : TG) (tt : TT) (te : TE) (vs : List Nat) : TE := fun σ H Q => wi σ H fun J H1 => ∀ D, H1 D = none → ∃ (len : Nat) (Z : Nat → Hp → Prop),
  Z 0 (upd H1 D (SetTO P w D [])) ∧ (∀ H2, Z len H2 → J.stop len H2 ∧ Q (.ref D) H2) ∧
  ∀ k H2, k < len → Z k H2 → J.go k H2 ∧ ∀ x H3, J.yld k H2 x H3 → g x (wipe σ vs) H3 fun τ H4 => wipe τ vs = wipe σ vs ∧ tt τ H4 fun b H5 =>
    (b = false → Z (k + 1) H5) ∧ (b = true → te τ H5 fun y H6 => ∃ b c L, y = V.ref b ∧ SqT K H6 b (c.map V.int) ∧ H6 D = some (SetTO P w D L) ∧ (∀ p ∈ L, SqT K H6 p.1 (p.2.map V.int)) ∧ L.length + 1 < 64 ∧
      ∀ L', (c ∈ L.map (·.2) → L' = L) → (c ∉ L.map (·.2) → L'.Perm ((b, c) :: L)) → Z (k + 1) (upd H6 D (SetTO P w D L')))
theorem pe_setT {elt tg iter : Expr} {ifs : List Expr} {scope : Scope} {own : List (PySem.Str × Nat)} {pos : Pos} {wi : TI} {g : TG} {tt : TT} {te : TE} (calm : X.calm = true) (hu : X.A.units + 64 < cLine) (nd : X.N.Nodup) (hi : PI X tg iter wi) (ok : BlkOk X.N X.env.scope scope own)
    (hg : ∀ (b : Shared) (G : Hp) (c : Addr) (l : List (PySem.Str × Addr)) (fp : List Addr), PG (X.blk b G scope (compEnvC scope l c X.env) fp) tg g)
    (ht : ∀ (b : Shared) (G : Hp) (c : Addr) (l : List (PySem.Str × Addr)) (fp : List Addr), PTs (X.blk b G scope (compEnvC scope l c X.env) fp) ifs tt)
    (he : ∀ (b : Shared) (G : Hp) (c : Addr) (l : List (PySem.Str × Addr)) (fp : List Addr), PE (X.blk b G scope (compEnvC scope l c X.env) fp) elt te)
    (fold : ∀ v, foldedSetIterable iter X.env v = pure v := by intro _; rfl) : PE X (.SetComp elt [⟨tg, iter, ifs, 0⟩] scope pos) (tSetT X.K X.prog X.w wi g tt te (own.map (·.2))) := by
  refine ⟨fun pins s σ H Q I h => ?_⟩
  rw [PpSet.eval_SetComp]
  have free : ∀ y ∈ scope.names, y.2 = .free → ∃ c, X.env.cells.lookup y.1 = some c := by
    intro y my ey
    rcases ok.free y my ey with m | m
    · exact I.ok.has y.1 (Or.inl m)
    · exact I.ok.has y.1 (Or.inr m)
  refine wpAny_comprehension_free (use := none) rfl fold (closure_ok free) ok.kind (fun y my ey => by rw [ok.uniq y my, ey]) (thn (hi.run pins s σ H _ I h) fun v0 sA hA => thn hA fun v1 sB hB => ?_)
  obtain ⟨it, fp, tn, J, HB, rfl, IB, T, tB, fB, q⟩ := hB
  refine PpSet.newSet_ok (newEnv_comp ?_)
  obtain ⟨D, eD⟩ : ∃ D, D = sB.heap.objs.size := ⟨_, rfl⟩
  rw [← eD]
  obtain ⟨len, P, P0, Pend, step⟩ := q D (IB.hok.fresh (Nat.le_of_eq eD.symm))
  -- the empty set lies there
  obtain ⟨sC, eC⟩ : ∃ sC : Shared, sC = { sB with heap := sB.heap.push { cls := .type "set", dict := none, data := .set #[] 0 (.fresh 0 0 (!X.w.params.followText "set-order")) } } := ⟨_, rfl⟩
  rw [← eC]
  obtain ⟨HC, eH⟩ : ∃ HC, HC = upd HB D (SetTO X.prog X.w D []) := ⟨_, rfl⟩
  rw [← eH] at P0
  have IC : Inv X pins σ HC sC := by
    subst eC eH eD
    exact IB.laid (t' := sB.toks) (fun _ _ e => Heap.get?_push_of_some _ e) (Nat.le_refl _) (setTO_new (setTR_fresh (Heap.get?_push_size _ rfl)).t0)
  have up : ∀ a o, sB.heap.get? a = some o → sC.heap.get? a = some o := by
    intro a o e
    rw [eC]
    exact Heap.get?_push_of_some _ e
  have fC : ∀ a ∈ fp, FpOk X pins HC a ∧ a < sC.heap.objs.size := by
    intro a ha
    have ⟨o, e, _⟩ := T.obj _ _ tB a ha
    have lt := Heap.lt_size e
    have ne : a ≠ D := by rw [eD]; exact Nat.ne_of_lt lt
    exact ⟨⟨by rw [eH, upd_ne ne]; exact (fB a ha).1, (fB a ha).2⟩, Heap.lt_size (up a o e)⟩
  have tC : tn 0 sC.heap := T.keep _ _ _ tB fun a _ o e => up a o e
  have ID := block_start IC ok nd fC
  obtain ⟨cl, ecl⟩ : ∃ cl, cl = cellsFrom (sC.heap.objs.size + 1) scope.names (cloFrom X.env.cells scope.names []) := ⟨_, rfl⟩
  obtain ⟨ce, ece⟩ : ∃ ce, ce = compEnvC scope cl sC.heap.objs.size X.env := ⟨_, rfl⟩
  have pg := hg sC HC sC.heap.objs.size cl fp
  have pt := ht sC HC sC.heap.objs.size cl fp
  have pe := he sC HC sC.heap.objs.size cl fp
  rw [← ecl, ← ece] at ID
  rw [← ece] at pg pt pe
  have at_ : ce.locals = sC.heap.objs.size := by rw [ece]; rfl
  obtain ⟨sD, eS⟩ : ∃ sD : Shared, sD = { sC with heap := pushCells (sC.heap.push { cls := .type "dict", data := .dict #[] }) scope.names } := ⟨_, rfl⟩
  rw [← eS] at ID
  have tD : tn 0 sD.heap := T.keep _ _ _ tC fun a _ o e => by rw [eS]; exact pushCells_keeps _ _ _ _ (Heap.get?_push_of_some _ e)
  have ready : ∀ {τ : L2.St} {G : Hp} {b : Shared}, Inv (X.blk sC HC scope ce fp) [] τ G b → (∀ a ∈ fp, G a = none) → ∀ a ∈ fp, FpOk (X.blk sC HC scope ce fp) [] G a := by
    intro τ G b Ib no a ha
    exact ⟨no a ha, (Ib.ok.exf a ha).1, Ib.ok.exfs a ha, Or.inl ha, fun y c e => (Ib.ok.exf a ha).2 y c e, fun r hr => (by cases (show r ∈ ([] : List (Addr × Obj)) ++ [] from hr))⟩
  have laps : codeAny (model X.prog X.w) X.A (.compLoop (.SetComp elt [⟨tg, iter, ifs, 0⟩] scope pos) 0 (.ref it) (.ref D) ce) (compPost (model X.prog X.w) X.A X.xe none (fun v s' => ∃ x H', Inv X pins σ H' s' ∧ RelV x v ∧ Q x H') (.ref D) sC.heap.objs.size) sD := by
    refine PpSet.compLoopS_any (fun m b => ∃ k G, m = len - k ∧ k ≤ len ∧ LapSt (X.blk sC HC scope ce fp) fp tn (wipe σ (own.map (·.2))) P k b G) ?_ len ⟨0, HC, rfl, Nat.zero_le _, ID, tD, fun a ha => (fC a ha).1.1, P0⟩
    rintro m b ⟨k, G, rfl, hk, L⟩
    by_cases last : k < len
    · obtain ⟨go, lap⟩ := step k G last L.says
      have item := T.item (X.blk sC HC scope ce fp) rfl rfl rfl calm k [] b _ G (fun _ _ => False) L.inv (ready L.inv L.own) L.turn go
      refine thnF item fun r b1 ⟨u, er, i1⟩ => ?_
      subst er
      refine thnF i1 fun _ b2 ⟨x, G2, I2, rx, y2, t2, n2⟩ => ?_
      have I3 := I2.pinned (ready I2 n2) (T.obj _ _ t2)
      refine thnF (pg.run _ b2 _ G2 x u _ I3 rx (lap x G2 y2)) fun _ b3 ⟨τ, G3, I4, ew, q3⟩ => ?_
      refine thnF (pt.run _ b3 τ G3 _ I4 q3) fun c b4 ⟨G4, I5, qf, qt⟩ => ?_
      cases c with
      | false => exact ⟨len - (k + 1), by omega, k + 1, G4, rfl, last, LapSt.next T t2 I5 ew (qf rfl)⟩
      | true =>
        refine thnF (pe.run _ b4 τ G4 _ I5 (qt rfl)) fun z b5 ⟨yv, G5, I6, rz, bv, cv, S, ey, sq5, hD5, tup5, room, p5⟩ => ?_
        subst ey
        have add := mt_saddT (X := X.blk sC HC scope ce fp) hu _ b5 τ G5 (.ref D) [V.ref bv] (.ref D) [z] (fun x H6 => x = .non ∧ ∃ L', (cv ∈ S.map (·.2) → L' = S) ∧ (cv ∉ S.map (·.2) → L'.Perm ((bv, cv) :: S)) ∧ H6 = upd G5 D (SetTO X.prog X.w D L')) I6 rfl (.cons rz .nil) ⟨D, bv, cv, S, rfl, rfl, sq5, hD5, tup5, room, fun L' c1 c2 => ⟨rfl, L', c1, c2, rfl⟩⟩
        refine thnF add fun _ b6 ⟨x6, G6, I7, _, _, L6, c6, d6, e6⟩ => ?_
        subst e6
        exact ⟨len - (k + 1), by omega, k + 1, _, rfl, last, LapSt.next T t2 I7 ew (p5 L6 c6 d6)⟩
    · obtain rfl : k = len := by omega
      obtain ⟨stop, qe⟩ := Pend G L.says
      have done := T.done (X.blk sC HC scope ce fp) rfl rfl rfl calm k [] b _ G (fun _ _ => False) L.inv (ready L.inv L.own) L.turn stop
      refine thnF done fun r b1 ⟨er, I1⟩ => ?_
      subst er
      have back : Inv X pins σ G b1 := IC.call' (ch := fp) I1.os I1.base I1.hok I1.bare fun a ha => by
        have f := (fC a ha).1.2
        exact ⟨f.2.2.1, f.1, f.2.2.2.1, f.2.2.2.2⟩
      have none_ : G sC.heap.objs.size = none := by rw [← at_]; exact I1.free
      obtain ⟨mm, hn, _⟩ := I1.loc
      have hn' : b1.heap.Ns ce.locals mm := hn
      rw [at_] at hn'
      have fp0 := IC.fpOk (Nat.le_refl _) none_
      refine ⟨mm, hn', fun h2 sb => ⟨.ref D, G, ?_, rfl, qe⟩⟩
      exact back.turned (t' := b1.toks) (fun a o ha e => (sb.2 a ha).trans e) fp0.1 fp0.2.1 fp0.2.2.2.1 fp0.2.2.2.2.1 fp0.2.2.2.2.2
  rw [eS, ece, ecl] at laps
  exact PpSet.codeAny_compStart_set laps (T.self X.A 0 _ _ _ (by rw [← eS]; exact tD) laps)
end
theorem row_sq {K : PySem.W.Frag} {ρ : Rho} {H : Hp} {a : Addr} {k : List Int} (d : Den K ρ H (.ref a) (rowD k)) : SqT K H a (k.map V.int) := by
  obtain ⟨b, us, e, sq, dd⟩ := den_tup d
  cases e
  have := dens_toI dd
  subst this
  exact sq
theorem rowsI_cons {y : D} {r : List D} {ns : List (List Int)} (h : rowsI (y :: r) = some ns) : ∃ c ms, rowI y = some c ∧ rowsI r = some ms ∧ ns = c :: ms := by
  simp only [rowsI] at h
  obtain ⟨i, h1, h⟩ := Option.bind_eq_some_iff.mp h
  obtain ⟨j, h2, h⟩ := Option.map_eq_some_iff.mp h
  exact ⟨i, j, h1, h2, h.symm⟩
/-- sorted({e for tg in src if t}) of tuples of ints -/
def mSSCT (f : MI) (g : MG) (t : MT) (e : ME) (vs : List Nat) : ME := fun ms => (f ms).bind fun r => (mCompL g t e (wipeD ms.s vs) r.1 r.2).bind fun q => (rowsI q.1).bind fun rs => bif decide (rs.length < 63) then some (.lst ((sortL (oneL rs)).map rowD), q.2) else none
section
variable {K : PySem.W.Frag}
theorem rd_ssct {P : Program} {w : World} {f : MI} {g : MG} {tG : TG} {t : MT} {e : ME} {vs : List Nat} (hG : TgOk K tG g vs) {σ : L2.St} {H : Hp} {Q : VK} (h : rdE K (mSSCT f g t e vs) σ H Q) : tCB (rSortedS K P w) (tCons (tSetT K P w (rdI K f) tG (rdT K t) (rdE K e) vs) tNil) σ H Q := by
  obtain ⟨ρ, ms, d, h', R, S, e0, q⟩ := h
  obtain ⟨⟨ds, h1⟩, e1, e2⟩ := Option.bind_eq_some_iff.mp e0
  obtain ⟨⟨out, h2⟩, e3, e4⟩ := Option.bind_eq_some_iff.mp e2
  obtain ⟨rs, e5, e6⟩ := Option.bind_eq_some_iff.mp e4
  obtain ⟨hz, e7⟩ := bif_some e6
  cases e7
  have z2 : rs.length < 63 := of_decide_eq_true hz
  refine ⟨ρ, ms, ds, h1, R, S, e1, fun J H1 ρ1 F1 R1 Y D hD => ?_⟩
  have nDc : D ∉ ρ1.c := (Rho.notIn (R1.out hD)).1
  refine ⟨ds.length, fun k H2 => k ≤ ds.length ∧ ∃ ρ2 hh L rest nr, Fut ρ1 H1 ρ2 H2 ∧ Rel K ρ2 hh H2 ∧ H2 D = some (SetTO P w D L) ∧ D ∈ ρ2.v ∧ mCompL g t e (wipeD ms.s vs) (ds.drop k) hh = some (rest, h2) ∧ rowsI rest = some nr ∧ (∀ p ∈ L, Den K ρ2 H2 (.ref p.1) (rowD p.2)) ∧ (∀ p ∈ L, p.2 ≠ []) ∧ (∀ j, j ∈ rs ↔ j ∈ L.map (·.2) ∨ j ∈ nr) ∧ L.length + nr.length ≤ rs.length,
    ⟨Nat.zero_le _, ρ1.hide D, h1, [], out, rs, fut_hide _ hD nDc, R1.hide _ hD, upd_same, List.mem_cons_self, e3, e5, (fun _ z => by cases z), (fun _ z => by cases z), fun j => by simp, by simp⟩, fun H2 hP => ?_, fun k H2 hl hP => ?_⟩
  · obtain ⟨_, ρ2, hh, L, rest, nr, F2, R2, hS, mD, e8, e9, dL, neL, mem, _⟩ := hP
    obtain ⟨ystop, _⟩ := Y ds.length ρ2 H2 hh F2 R2
    rw [List.drop_eq_nil_of_le (Nat.le_refl _)] at e8
    cases e8
    cases e9
    refine ⟨ystop (Nat.le_refl _), ⟨D, L, rfl, hS, fun p hp => row_sq (dL p hp), neL, fun L' p pm nd few up hp => ?_⟩⟩
    have ee : sortL (oneL rs) = L'.map (·.2) := sortL_of up ((List.perm_ext_iff_of_nodup nd (nodup_oneL rs)).mpr fun x => by
      rw [mem_oneL, mem]
      simp only [List.not_mem_nil, or_false]
      exact (pm.map (·.2)).mem_iff)
    have dl : Dens K ρ2 (upd H2 p (.lst (L'.map fun q => V.ref q.1))) (L'.map fun q => V.ref q.1) ((sortL (oneL rs)).map rowD) := by
      rw [ee]
      have g : ∀ M : List (Addr × List Int), (∀ q ∈ M, Den K ρ2 H2 (.ref q.1) (rowD q.2)) → Dens K ρ2 H2 (M.map fun q => V.ref q.1) ((M.map (·.2)).map rowD) := by
        intro M
        induction M with
        | nil => intro _; exact .nil
        | cons y M ih => intro hM; exact .cons (hM y List.mem_cons_self) (ih fun q m => hM q (List.mem_cons_of_mem _ m))
      exact (g L' fun q m => dL q (pm.mem_iff.mp m)).fut (fut_new _ hp)
    exact q _ _ ρ2 (F1.trans (F2.trans (fut_new _ hp))) (R2.new _ hp) (.lst upd_same (R2.out hp) dl)
  · obtain ⟨_, ρ2, hh, L, rest, nr, F2, R2, hS, mD, e8, e9, dL, neL, mem, sz⟩ := hP
    obtain ⟨_, ygo⟩ := Y k ρ2 H2 hh F2 R2
    obtain ⟨g1, g2⟩ := ygo _ (List.getElem?_eq_getElem hl)
    rw [List.drop_eq_getElem_cons hl] at e8
    simp only [mCompL] at e8
    obtain ⟨m1, e10, e11⟩ := Option.bind_eq_some_iff.mp e8
    obtain ⟨⟨b, hb⟩, e12, e13⟩ := Option.bind_eq_some_iff.mp e11
    refine ⟨g1, fun x H3 y => ?_⟩
    obtain ⟨Fy, Ry, dy⟩ := g2 x H3 y
    have Fs : Fut ρ H ρ2 H3 := F1.trans (F2.trans Fy)
    have nc2 : D ∉ ρ2.c := fun z => R2.apart D z mD
    have hS3 := Fy.keep _ _ nc2 hS
    refine hG ρ2 ⟨wipeD ms.s vs, hh⟩ m1 H3 x _ _ _ ((S.fut Fs).wipe vs) dy e10 fun τ hw Sτ hh3 => ⟨?_, ?_⟩
    · apply List.ext_getElem?
      intro j
      have hw2 := congrArg (fun l => l[j]?) hw
      simp only [wipe_get, wipe_length] at hw2 ⊢
      by_cases hj : j ∈ vs
      · simpa [hj] using hw2
      · simpa [hj] using hw2
    · refine ⟨ρ2, m1, b, hb, by rw [hh3]; exact Ry, Sτ, e12, fun H4 ρ4 F4 R4 => ⟨fun eb => ?_, fun eb => ?_⟩⟩
      · subst eb
        have hS4 := F4.keep _ _ nc2 hS3
        exact ⟨hl, ρ4, hb, L, rest, nr, (F2.trans Fy).trans F4, R4, hS4, F4.sub _ mD, e13, e9, fun p hp => ((dL p hp).fut Fy).fut F4, neL, mem, sz⟩
      · subst eb
        have hS4 := F4.keep _ _ nc2 hS3
        have mD4 : D ∈ ρ4.v := F4.sub _ mD
        have nc4 : D ∉ ρ4.c := fun z => R4.apart D z mD4
        obtain ⟨⟨y1, hy⟩, e14, e15⟩ := Option.bind_eq_some_iff.mp e13
        obtain ⟨⟨r2, h6⟩, e16, e17⟩ := Option.map_eq_some_iff.mp e15
        cases e17
        obtain ⟨c, nr2, ec, e18, rfl⟩ := rowsI_cons e9
        refine ⟨ρ4, ⟨m1.s, hb⟩, y1, hy, R4, Sτ.fut F4, e14, fun v H5 ρ5 F5 R5 dv => ?_⟩
        have hS5 := F5.keep _ _ nc4 hS4
        have mD5 : D ∈ ρ5.v := F5.sub _ mD4
        have F15 := ((F2.trans Fy).trans F4).trans F5
        have dL5 : ∀ p ∈ L, Den K ρ5 H5 (.ref p.1) (rowD p.2) := fun p hp => (((dL p hp).fut Fy).fut F4).fut F5
        rw [List.length_cons] at sz
        obtain ⟨⟨b5, rfl, sq5⟩, ey1⟩ := rowI_den dv ec
        rw [ey1] at dv
        refine ⟨b5, c, L, rfl, sq5, hS5, fun p hp => row_sq (dL5 p hp), by omega, fun L' c1 c2 => ⟨hl, ρ5, hy, L', r2, nr2, ⟨fun a o n e => ?_, F15.ext, F15.sub, F15.hid, F15.fresh⟩, R5.poke _ mD5, upd_same, mD5, e16, e18, ?_, ?_, ?_, ?_⟩⟩
        · rw [upd_ne (ne_of_none e hD)]
          exact F15.keep a o n e
        all_goals rcases Classical.em (c ∈ L.map (·.2)) with m | m
        · rw [c1 m]; exact fun p hp => (dL5 p hp).poke mD5
        · intro p hp
          rcases List.mem_cons.mp ((c2 m).mem_iff.mp hp) with rfl | hp
          · exact dv.poke mD5
          · exact (dL5 p hp).poke mD5
        · rw [c1 m]; exact neL
        · intro p hp
          rcases List.mem_cons.mp ((c2 m).mem_iff.mp hp) with rfl | hp
          · exact rowI_ne ec
          · exact neL p hp
        · intro j
          rw [c1 m, mem, List.mem_cons]
          constructor
          · rintro (k1 | rfl | k1)
            · exact .inl k1
            · exact .inl m
            · exact .inr k1
          · rintro (k1 | k1)
            · exact .inl k1
            · exact .inr (.inr k1)
        · intro j
          rw [mem, List.mem_cons, ((c2 m).map (·.2)).mem_iff, List.map_cons, List.mem_cons]
          constructor
          · rintro (k1 | k1 | k1)
            · exact .inl (.inr k1)
            · exact .inl (.inl k1)
            · exact .inr k1
          · rintro ((k1 | k1) | k1)
            · exact .inr (.inl k1)
            · exact .inl k1
            · exact .inr (.inr k1)
        · rw [c1 m]; omega
        · rw [(c2 m).length_eq, List.length_cons]; omega
end
section
variable {X : Cx}
/-- sorted({e for tg in src if t}) -/
theorem ev_sortCT {elt tg iter : Expr} {ifs : List Expr} {scope : Scope} {own : List (Str × Nat)} {vs : List Nat} {p pos pos2 : Pos} {f : MI} {g : MG} {tG : TG} {t : MT} {e : ME} (hm : X.mg "sorted" = none) (hv : bootBuiltins "sorted" = some (.builtin "sorted")) (hc : X.calm = true) (hu : X.A.units + 64 < cLine) (hN : X.N.Nodup) (hi : IV X tg iter f) (hG : TgOk X.K tG g vs) (ok : BlkOk X.N X.env.scope scope own) (hvs : own.map (·.2) = vs)
    (hg : ∀ (s : Shared) (H : Hp) (C : Addr) (cl : List (Str × Addr)) (fp : List Addr), PG (X.blk s H scope (compEnvC scope cl C X.env) fp) tg tG) (ht : ∀ (s : Shared) (H : Hp) (C : Addr) (cl : List (Str × Addr)) (fp : List Addr), PTs (X.blk s H scope (compEnvC scope cl C X.env) fp) ifs (rdT X.K t))
    (he : ∀ (s : Shared) (H : Hp) (C : Addr) (cl : List (Str × Addr)) (fp : List Addr), PE (X.blk s H scope (compEnvC scope cl C X.env) fp) elt (rdE X.K e)) (hs : ∀ x, foldedSetIterable iter X.env x = pure x := by intro _; rfl) (hgl : Gl X "sorted" := by rfl)
    (s2 : starEach [Expr.SetComp elt [⟨tg, iter, ifs, 0⟩] scope pos2] X.env = (false, eval (Expr.SetComp elt [⟨tg, iter, ifs, 0⟩] scope pos2) X.env) :: starEach [] X.env := by rfl) :
    EV X (.Call (.Name "sorted" p) [.SetComp elt [⟨tg, iter, ifs, 0⟩] scope pos2] [] pos) (mSSCT f g t e vs) := by
  subst hvs
  exact pe_w (pe_callB (cr_sortedS hc) hgl hm hv (pa_cons (pe_setT hc hu hN hi ok hg ht he hs) pa_nil s2) (by decide) (by decide) s2 rfl) fun _ _ _ h => rd_ssct hG h
end
/-- a def that is never called -/
theorem fn_nothing {P : Program} {w : World} {K : PySem.W.Frag} {mg : Str → Option Value} {base : Heap} {CX : CXT} {k n : Nat} {f : Addr} {fd : FuncData} {ps : List Str} : FnG P w K mg base CX k f fd ps (spF K n fun _ _ => none) :=
  ⟨fun _ _ _ _ h => (by obtain ⟨_, _, _, _, _, _, _, _, e, _⟩ := h; cases e), fun _ _ _ _ _ _ _ _ _ _ _ _ _ h => (by obtain ⟨_, _, _, _, _, _, _, _, e, _⟩ := h; cases e)⟩
end Zm

set_option Elab.async false
set_option linter.all false
set_option maxRecDepth 100000
set_option maxHeartbeats 4000000
/-! ZE: own exception classes under ValueError, one under another, whose __init__ calls super().__init__(text) and keeps one field. -/
namespace PySem
namespace SupX
open PySem.W PySem.Calls PyProof.Rows PySem.HandSPX
/-! ### the text of __init__ -/
def iA (fld : Str) (p1 p2 : Pos) : Arguments := { posonlyargs := [], args := [{ arg := "self", annotation := none, pos := p1 }, { arg := fld, annotation := none, pos := p2 }], vararg := none, kwonlyargs := [], kw_defaults := [], kwarg := none, defaults := [] }
def iB (fld msg : Str) (q1 q2 q3 q4 q5 q6 r1 r2 r3 r4 : Pos) : List Stmt :=
  [.Expr (.Call (.Attribute (.Call (.Name "super" q1) [] [] q2) "__init__" q3) [.Constant (.str msg) 0 q4] [] q5) q6, .Assign [.Attribute (.Name "self" r1) fld r2] (.Name fld r3) r4]
def iS (fld : Str) : Scope := { kind := .function, names := [(PySem.Str.ofString "self", .local), (fld, .local), (PySem.Str.ofString "__class__", .free), (PySem.Str.ofString "super", .globalImplicit)], isGenerator := false, isCoroutine := false, more := [] }
section
variable {prog : Program} {w : World} {A : Around} {E : Value → Shared → Prop} {s : Shared} {K : Frag} {mg mb : Str → Option Value} {h₀ : Heap} {L : Addr} {m : Str → Option Value} {news : List (Addr × Obj)} {x C D f cc cda : Addr} {ox : Obj} {odx : Option Obj}
/-- super() in a def that closes over __class__ -/
theorem sup_node {body : List Stmt} {q : Str} {scope : Scope} {p0 p1 : Pos} {attr : Str} {whole : Sem Value} {fd : FuncData} {ar : Arg} {vs : Array Value} {file : Str} {tf : Tok} {oc ccl cl : Value} {od cdd cld : Option Addr} {osl ccs csl : Array (Option Value)} {cdD : ClassData} {Q : Value → Shared → Prop}
    (F : Fr h₀ L s.heap m) (X₀ : K.In h₀) (N : News h₀ L s.heap news) (hg : s.heap.Ns mainGlobals mg) (hmg : mg "super" = none) (hb : s.heap.Ns builtinsNs mb) (hbv : mb "super" = some (.type "super"))
    (hf : K.lookup f = some ⟨oc, od, .func fd, osl⟩) (hp : (fd.params.posonlyargs ++ fd.params.args).head? = some ar) (hv : m ar.arg = some (.ref x)) (I : W.InstAt s.heap x ox C odx)
    (hcode : K.lookup cda = some ⟨ccl, cdd, .fields vs, ccs⟩) (hvs : vs[2]? = some (.str file tf)) (hfile : ((prog.main.file : Str) == file) = true)
    (hcell : K.lookup cc = some ⟨cl, cld, .cell (some (.ref D)), csl⟩) (hD : clsIn K D = some cdD) (hsub : mroIn K C (.ref D) = some true)
    (hat : (attr == ("__class__" : Str)) = false) (hks : scope.names.lookup ("super" : Str) = some .globalImplicit) (hkc : scope.names.lookup ("__class__" : Str) = some .free) (hka : scope.names.lookup ar.arg = some .local) (hk : scope.kind = .function)
    (htop : (prog.main.scope.names.lookup ("super" : Str)).isSome = false)
    (h : ∀ so h', Fr h₀ L h' m → News h₀ L h' ((so, ks_superObj D x C) :: news) → (∀ b o, s.heap.get? b = some o → h'.get? b = some o) → Q (.ref so) { s with heap := h' }) :
    _root_.PySem.wpAt (model prog w) A (.func body (ksEnv q scope L f (.ref cda) cc)) (attributeBase (.Call (.Name "super" p0) [] [] p1) attr (ksEnv q scope L f (.ref cda) cc) whole) Q E s := by
  have X : K.In s.heap := X₀.keeps F.keep
  obtain ⟨hh, g, d, t, os⟩ := s
  obtain ⟨oD, hD1, hD2⟩ : ∃ oD, hh.get? D = some oD ∧ oD.data = .cls cdD := by
    unfold clsIn at hD; split at hD
    · rename_i c d cd' sl ho; cases hD; exact ⟨_, X _ _ ho, rfl⟩
    · cases hD
  have nc : ∀ c, ox.data ≠ .cls c := fun c e => by have n := I.no; unfold notCls at n; rw [e] at n; exact Bool.noConfusion n
  refine ks_wpAt_super_base (env := ksEnv q scope L f (.ref cda) cc) hks hkc hat rfl (X _ _ hf) rfl hp rfl (X _ _ hcode) rfl hvs hfile htop (ks_loadName_global hk hks (loadGlobal_builtin (env := ksEnv q scope L f (.ref cda) cc) hg hmg hb hbv ⟨rfl, ?_⟩))
  refine wpAny_loadName_free hk hkc rfl ⟨_, X _ _ hcell, rfl⟩ (wpAny_loadName_local hk hka F.ns hv (ks_wpAny_isType_cls hD1 hD2 ⟨rfl, ?_⟩))
  refine ks_wpAny_call_super hD1 hD2 I.at_ I.cls nc (looks_mroIn X hsub) fun h' e k => ?_
  obtain ⟨F', N', l'⟩ := ks_newsPush (s := ⟨hh, g, d, t, os⟩) F N rfl e k
  exact h _ _ F' N' k
end
/-- o.name(args) where the base is met in its code -/
theorem at_method {prog : Program} {w : World} {A : Around} {E : Value → Shared → Prop} {s : Shared} {c : Code} {env : Env} {o : Expr} {name : Str} {apos pos : Pos} {args : List Expr} {Q : Value → Shared → Prop} (hline : (apos.endLine == pos.line) = true)
    (hfew : methodCallForm (args.length + ([] : List Keyword).length) (backTo pos (starEach args env)) (backToKw pos (keywordEach [] env)) = true)
    (h : _root_.PySem.wpAt (model prog w) A c (attributeBase o name env (eval o env)) (fun ov s₁ => ∀ pl, wpAny (model prog w) A (getMethod ov name pl) (fun fx s₂ => wpAny (model prog w) A (callWith pos fx.1 fx.2 (backTo pos (starEach args env)) []) Q E s₂) E s₁) E s) :
    _root_.PySem.wpAt (model prog w) A c (eval (.Call (.Attribute o name apos) args [] pos) env) Q E s := by
  rw [arm_eval_Call]
  refine wpAt_bind (ks_wpAt_mono h (fun ov s₁ h₁ => wpAt_of_wpAny (wpAny_bind (wpAny_standAt ?_))) fun _ _ x => x)
  have hpos : methodCallPos true o env apos pos = pure pos := by unfold methodCallPos; simp [hline]
  unfold methodCall
  rw [hfew]
  refine wpAny_bind (wpAny_holding (wpAny_mono (h₁ _) (fun fx s₂ h₂ => ?_) fun _ _ x => x))
  exact wpAny_bind (wpAny_of_eq hpos h₂)
/-- what is asked of the field's name -/
structure FldOk (fld : Str) : Prop where
  sup : (iS fld).names.lookup ("super" : Str) = some .globalImplicit
  cls : (iS fld).names.lookup ("__class__" : Str) = some .free
  self : (iS fld).names.lookup ("self" : Str) = some .local
  own : (iS fld).names.lookup fld = some .local
  ne : (("self" : Str) == fld) = false
  bug : (fld == ("__debug__" : Str)) = false
  bnd : ∀ (x v : Value) (qual : Str) (body : List Stmt) (p1 p2 : Pos) (doc pm : Value) (an : Option Addr) (cdv ct : Value) (cc : Addr), bindArgs (ksFn "__init__" qual (iA fld p1 p2) body (iS fld) .none .none doc pm an cdv ct cc) ⟨[x, v], []⟩ = pure ([("self", x), (fld, v)] : List (Str × Value))
theorem fld_given : FldOk "given" := ⟨by decide +kernel, by decide +kernel, by decide +kernel, by decide +kernel, by decide +kernel, by decide +kernel, fun _ _ _ _ _ _ _ _ _ _ _ _ => by first | rfl | with_unfolding_all rfl⟩
theorem fld_index : FldOk "index" := ⟨by decide +kernel, by decide +kernel, by decide +kernel, by decide +kernel, by decide +kernel, by decide +kernel, fun _ _ _ _ _ _ _ _ _ _ _ _ => by first | rfl | with_unfolding_all rfl⟩
theorem fld_spot : FldOk "spot" := ⟨by decide +kernel, by decide +kernel, by decide +kernel, by decide +kernel, by decide +kernel, by decide +kernel, fun _ _ _ _ _ _ _ _ _ _ _ _ => by first | rfl | with_unfolding_all rfl⟩
/-- what the written part says of the class at C, and of its __init__, at fI -/
structure SupTxt (file : Str) (K : Frag) (mg : Str → Option Value) (cn fld : Str) (C fI : Addr) : Prop where
  gC : mg cn = some (.ref C)
  cls : ∃ nm q N bs bm sn sub ab col dd k0 k1 k2 k3 k5, K.lookup C = some (excClassObj nm q C N bs bm true sn sub ab col dd k0 k1 k2 k3 k5 "ValueError.__new__") ∧ refsVE bm = true
  sa : findIn K (.ref C) "__setattr__" = some (some (.builtin "object.__setattr__"))
  noN : findIn K (.ref C) fld = some none
  iC : findIn K (.ref C) "__init__" = some (some (.ref fI))
  tC : typeIn K (.ref fI) = some (.type "function")
  in_ : excInitIn K C veTail "ValueError.__new__" = true
  sup : ks_superIn K C C "__init__" = some (some (.builtin "ValueError.__init__"))
  sB : subIn K (.ref C) (.type "ValueError") = some true
  op : nsIn K cStatics "thirdparty.any" = some none
  mro : mroIn K C (.ref C) = some true
  fn : ∃ (oc : Value) (od : Option Addr) (doc pm : Value) (an : Option Addr) (cda cc : Addr) (ct : Value) (osl : Array (Option Value)) (qual msg : Str) (p1 p2 q1 q2 q3 q4 q5 q6 r1 r2 r3 r4 : Pos),
    K.lookup fI = some ⟨oc, od, .func (ksFn "__init__" qual (iA fld p1 p2) (iB fld msg q1 q2 q3 q4 q5 q6 r1 r2 r3 r4) (iS fld) .none .none doc pm an (.ref cda) ct cc), osl⟩ ∧ codeIn K (.ref cda) qual = true ∧ (q3.endLine == q5.line) = true ∧
    (∃ ccl cdd vs ccs tf, K.lookup cda = some ⟨ccl, cdd, .fields vs, ccs⟩ ∧ vs[2]? = some (.str file tf)) ∧ ∃ cl cld csl, K.lookup cc = some ⟨cl, cld, .cell (some (.ref C)), csl⟩
/-- what __init__ leaves of a fresh exception at x -/
structure SupEnd (h₀ h' : Heap) (x C dx t1 : Addr) (fld : Str) (v : Value) : Prop where
  keep : ∀ b o, h₀.get? b = some o → h'.get? b = some o
  obj : h'.get? x = some (excObj C t1 (some dx) .none)
  dnew : h₀.objs.size ≤ dx
  dne : dx ≠ x
  ns : h'.Ns1 dx (fun y => if y = fld then some v else none)
section
variable {prog : Program} {w : World} {A : Around} {R : Result → Shared → Prop} {s : Shared} {K : Frag} {mg mb : Str → Option Value} {C fI : Addr} {cn fld : Str}
theorem sup_init (T : SupTxt prog.main.file K mg cn fld C fI) (fo : FldOk fld) {x t0 : Addr} {v : Value} {h₀ : Heap} (X₀ : K.In h₀) (k₀ : ∀ b o, h₀.get? b = some o → s.heap.get? b = some o) (xn : h₀.get? x = none) (sz : h₀.objs.size ≤ s.heap.objs.size) (hx : s.heap.get? x = some (excO C t0))
    (hlim : s.heap.NoLimit) (hg : s.heap.Ns mainGlobals mg) (hmg : mg "super" = none) (hb : s.heap.Ns builtinsNs mb) (hbv : mb "super" = some (.type "super")) (htop : (prog.main.scope.names.lookup ("super" : Str)).isSome = false) (hroom : A.depth < recursionLimit)
    (hq : ∀ h' tk dx t1, SupEnd h₀ h' x C dx t1 fld v → R (.ok (.ret .none)) { s with heap := h', toks := tk }) :
    codeAny (model prog w) A (.call (.ref fI) ⟨[.ref x, v], []⟩) R s := by
  obtain ⟨oc, od, doc, pm, an, cda, cc, ct, osl, qual, msg, p1, p2, q1, q2, q3, q4, q5, q6, r1, r2, r3, r4, ho, hcd, hln, ⟨ccl, cdd, vs, ccs, tf, hcode, hvs⟩, ⟨cl, cld, csl, hcell⟩⟩ := T.fn
  obtain ⟨nm, q, N, bs, bm, sn, sub, ab, col, dd, k0, k1, k2, k3, k5, hC, hbm⟩ := T.cls
  have hcl : clsIn K C = some { name := nm, bases := bs, mro := .ref C :: bm, ns := N, qualname := q, hasDict := true, slotNames := sn, subclasses := sub, abstract := ab, collection := col, hasDel := false } := by unfold clsIn; rw [hC] <;> rfl
  have X : K.In s.heap := X₀.keeps k₀
  refine ks_codeAny_call_defAt (fd := ksFn "__init__" qual (iA fld p1 p2) (iB fld msg q1 q2 q3 q4 q5 q6 r1 r2 r3 r4) (iS fld) .none .none doc pm an (.ref cda) ct cc) (body := iB fld msg q1 q2 q3 q4 q5 q6 r1 r2 r3 r4) (binds := [("self", .ref x), (fld, v)]) hroom (X _ _ ho) rfl hlim (codeRec_of X hcd) rfl ?_ ?_ ?_ (fun h₁ hns hk₁ => ?_)
  · exact BindsTo.of_eq (fo.bnd ..)
  · intro y hy
    simp only [iS, ksFn, fnX, List.mem_cons, List.not_mem_nil, or_false] at hy
    rcases hy with rfl | rfl | rfl | rfl <;> exact fun z => by cases z
  · intro y hy
    rcases List.mem_cons.mp hy with rfl | hy
    · exact fo.self
    · rw [List.mem_singleton] at hy; subst hy; exact fo.own
  have ms : ([("self", Value.ref x), (fld, v)] : List (Str × Value)).reverse.lookup ("self" : Str) = some (Value.ref x) := by
    show List.lookup ("self" : Str) ([(fld, v), ("self", Value.ref x)] : List (Str × Value)) = _
    simp only [List.lookup, fo.ne, beq_self_eq_true]
  have mf : ([("self", Value.ref x), (fld, v)] : List (Str × Value)).reverse.lookup fld = some v := by
    show List.lookup fld ([(fld, v), ("self", Value.ref x)] : List (Str × Value)) = _
    simp only [List.lookup, beq_self_eq_true]
  have F : Fr h₀ s.heap.objs.size h₁ (fun y => ([("self", Value.ref x), (fld, v)] : List (Str × Value)).reverse.lookup y) := ⟨hns, fun b o e => hk₁ b o (k₀ b o e), sz⟩
  have N₁ : News h₀ s.heap.objs.size h₁ [(x, excObj C t0 none .none)] := fun p hp => by
    rw [List.mem_singleton] at hp; subst hp
    exact ⟨hk₁ _ _ hx, Nat.ne_of_lt (Heap.lt_size hx), xn⟩
  refine ks_wpAt_execs_cons (ks_wpAt_Expr_any (at_method hln rfl ?_))
  refine sup_node (q := qual) (s := ⟨h₁, s.gens, s.drawn, _, s.os⟩) F X₀ N₁ ?_ hmg ?_ hbv ho rfl ms (InstAt.of_exc0 (x := x) (t := t0) (c2 := .none) N₁ (by simp)) hcode hvs (by simp) hcell hcl T.mro rfl fo.sup fo.cls fo.self rfl htop fun so h₂ F₂ N₂ k₂ pl => ?_
  · exact hg.keeps hk₁
  · exact hb.keeps hk₁
  refine kxs_method (x := x) kxs_ValueError F₂ X₀ N₂ (by simp) (InstAt.of_exc0 (x := x) (t := t0) (c2 := .none) N₂ (by simp)) T.op T.sup T.sB rfl fun u h₃ F₃ N₃ l₃ => ?_
  show wpAny _ _ (callWith q5 (.ref u) [] (backTo q5 (starEach (.Constant (.str msg) 0 q4 :: []) _)) []) _ _ _
  refine kxs_callWith1 (i := "ValueError.__init__") (x := x) N₃ List.mem_cons_self (spliced_more (wpAny_Constant_str (spliced_none ⟨kxs_at (i := "ValueError.__init__") (x := x) N₃ List.mem_cons_self, ?_⟩)))
  have ne1 : so ≠ x := fun z => by
    have a := (N₂ (so, ks_superObj C x C) List.mem_cons_self).1
    have b := (N₂ (x, excObj C t0 none .none) (by simp)).1
    rw [z] at a
    rw [a] at b
    cases b
  have ne2 : u ≠ x := fun z => by
    have a := (N₃ (u, kxs_mw "ValueError.__init__" x) List.mem_cons_self).1
    have b := (N₃ (x, excObj C t0 none .none) (by simp)).1
    rw [z] at a
    rw [a] at b
    cases b
  refine kxs_call (u := u) (t := t0) (dv := none) (c2 := .none) F₃ X₀ N₃ _root_.PySem.F.excBase_ValueError T.in_ List.mem_cons_self (.tail ne2 (.tail ne1 (.head fun p hp => by cases hp))) (by rw [sizeLine_eq]; exact (by decide : 1 ≤ 16777216)) fun t' h₄ F₄ N₄ l₄ => ?_
  have hx₄ : h₄.get? x = some (excObj C t' none .none) := (N₄ (x, excObj C t' none .none) (by simp)).1
  have X₄ : K.In h₄ := X₀.keeps F₄.keep
  refine wpAt_of_wpAny (wpAny_execs_cons (plainObj_wpAny_Assign_Attribute ?_))
  refine wpAny_Name (wpAny_loadName_local rfl fo.own F₄.ns mf ?_) fo.bug
  refine wpAny_Name (wpAny_loadName_local rfl fo.self F₄.ns ms ?_) (by decide)
  refine set_plain X₄ (ox := excObj C t' none .none) (od := none) ⟨hx₄, rfl, rfl, trivial⟩ T.sa ?_
  refine exc_osa X₄ hx₄ hcl (show refsVE (.ref C :: bm) = true from hbm) rfl T.noN (fun h₅ tk₅ dx k₅ dn dne hx₅ hn₅ => ?_)
  show wpAny _ _ (execs _ _) _ _ _
  have z1 := F₄.ns.lt
  have z2 := F₄.above
  exact wpAny_execs_nil (hq h₅ tk₅ dx t' ⟨fun b o e => k₅ b o (fun z => by rw [z, xn] at e; cases e) (F₄.keep b o e), hx₅, Nat.le_trans (Nat.le_trans z2 (Nat.le_of_lt z1)) dn, dne, hn₅⟩)
/-- an exception that is made -/
structure SupMade (h h' : Heap) (e C d : Addr) (fld : Str) (v : Value) : Prop where
  keep : ∀ b o, h.get? b = some o → h'.get? b = some o
  new : h.objs.size ≤ e
  obj : ∃ oe vs, h'.get? e = some oe ∧ oe.cls = .ref C ∧ oe.dict = some d ∧ oe.data = .fields vs ∧ vs[1]? = some .none
  dbig : h.objs.size ≤ d
  dne : d ≠ e
  ns : h'.Ns1 d (fun y => if y = fld then some v else none)
theorem sup_made (T : SupTxt prog.main.file K mg cn fld C fI) (fo : FldOk fld) {v : Value} (X : K.In s.heap) (hlim : s.heap.NoLimit) (hg : s.heap.Ns mainGlobals mg) (hmg : mg "super" = none) (hb : s.heap.Ns builtinsNs mb) (hbv : mb "super" = some (.type "super")) (htop : (prog.main.scope.names.lookup ("super" : Str)).isSome = false) (hroom : A.depth + 1 < recursionLimit)
    (hq : ∀ h' tk e d, SupMade s.heap h' e C d fld v → R (.ok (.ret (.ref e))) { s with heap := h', toks := tk }) : codeAny (model prog w) A (.call (.ref C) ⟨[v], []⟩) R s := by
  obtain ⟨nm, q, N, bs, bm, sn, sub, ab, col, dd, k0, k1, k2, k3, k5, hC, hbm⟩ := T.cls
  obtain ⟨hp, g, dr, tk, os⟩ := s
  have two : ∀ b o, hp.get? b = some o → ((hp.push (kdv_tup [v])).push (excO C hp.objs.size)).get? b = some o := fun b o e => Heap.get?_push_of_some _ (Heap.get?_push_of_some _ e)
  have at1 : ((hp.push (kdv_tup [v])).push (excO C hp.objs.size)).get? (hp.objs.size + 1) = some (excO C hp.objs.size) := by heap_get
  have no1 : hp.get? (hp.objs.size + 1) = none := by
    cases e : hp.get? (hp.objs.size + 1) with
    | none => rfl
    | some o => exact absurd (Nat.lt_of_succ_lt (Heap.lt_size e)) (Nat.lt_irrefl _)
  have big : hp.objs.size ≤ ((hp.push (kdv_tup [v])).push (excO C hp.objs.size)).objs.size := by rw [Heap.size_push, Heap.size_push]; omega
  refine call_own _root_.PySem.F.excBase_ValueError (fun Y => refsVE_contains Y bm hbm) (X _ _ hC) (looks_findIn X T.iC) (fun self => bind_fn X self T.tC) (by rw [sizeLine_eq]; exact (by decide : 1 ≤ 16777216)) ?_
  refine sup_init (s := ⟨(hp.push (kdv_tup [v])).push (excO C hp.objs.size), g, dr, tk, os⟩) T fo (h₀ := hp) X two no1 big at1 (hlim.keeps two) (hg.keeps two) hmg (hb.keeps two) hbv htop (by show A.depth + 1 < recursionLimit; exact hroom) fun h' tk' dx t1 M => ?_
  exact ⟨rfl, hq h' tk' (hp.objs.size + 1) dx ⟨M.keep, Nat.le_succ _, ⟨_, _, M.obj, rfl, rfl, rfl, rfl⟩, M.dnew, M.dne, M.ns⟩⟩
end
end SupX
end PySem
namespace L2
open PySem PySem.Spec PyProof.Rows
theorem relO_fld {fld : Str} {v : V} {v' : Value} (r : RelV v v') (f : Str) : RelO (List.lookup f [(fld, v)]) (if f = fld then some v' else none) := by
  by_cases hw : f = fld
  · subst hw
    rw [if_pos rfl]
    have q : List.lookup f [(f, v)] = some v := by simp [List.lookup]
    rw [q]
    exact r
  · rw [if_neg hw]
    have qw : (f == fld) = false := by simpa using hw
    have q2 : List.lookup f [(fld, v)] = none := by simp [List.lookup, qw]
    rw [q2]
    trivial
section
variable {X : Cx} {C fI : Addr} {cn fld : Str}
/-- what is asked of the world for super() -/
structure SupW (X : Cx) : Prop where
  mg : X.mg "super" = none
  top : (X.prog.main.scope.names.lookup ("super" : Str)).isSome = false
theorem bt_super : bootBuiltins "super" = some (.type "super") := by decide +kernel
/-- E(e), E an own class -/
def tMkSup (C : Addr) (fld : Str) (ta : TA) : St → Hp → XK → Prop := fun σ H Q => ta σ H fun vs H1 => ∃ v, vs = [v] ∧ ∀ d, H1 d = none → Q (.ref C) (some d) (upd H1 d (.xd [(fld, v)]))
theorem pmk_sup {a : Expr} {ta : TA} {p pos : Pos} (T : PySem.SupX.SupTxt X.prog.main.file X.K X.mg cn fld C fI) (fo : PySem.SupX.FldOk fld) (sw : SupW X) (kC : PySem.W.keepIn X.K (.ref C) = true) (exC : PySem.W.subIn X.K (.ref C) (.type "BaseException") = some true) (tyC : PySem.W.typeIn X.K (.ref C) = some (.type "type"))
    (dp : X.A.depth + 3 < recursionLimit) (ha : PA X [a] ta) (hg : Gl X cn) (hdb : (cn == ("__debug__" : Str)) = false)
    (he : starEach (a :: []) X.env = (false, eval a X.env) :: starEach [] X.env := by rfl) (hpl : (backTo pos (starEach [] X.env)).any (·.1) = false := by rfl) :
    PMk X (.Call (.Name cn p) [a] [] pos) (tMkSup C fld ta) := by
  intro pins s σ H Q I h
  refine wpAny_Call_Name_kw (ld_glob I hg T.gC ?_ hdb)
  refine PySem.W.callWith_K (h₀ := X.base) I.ok.mod.kin kC (thn (ha.run pos pins s σ H _ I h) fun us s1 hh => ?_) he hpl
  obtain ⟨vs, H1, I1, r1, v, ev, q1⟩ := hh
  subst ev
  refine ⟨I1.kIn, ?_⟩
  cases r1 with
  | cons rv rn =>
    rename_i v' us'
    cases rn
    show wpAny _ _ (call (.ref C) [v']) _ _ _
    have hlim := I1.nolimit
    obtain ⟨mb, m1, m2⟩ := I1.mod.blt
    have gb := I1.mod.glob.keeps I1.bk
    have bb := m1.keeps I1.bk
    obtain ⟨hp, g, dr, tk, os⟩ := s1
    refine wpAny_call (PySem.SupX.sup_made T fo I1.kIn hlim gb sw.mg bb ((m2 "super" (by decide)).trans bt_super) sw.top (by first | exact (by omega) | (simp; omega)) fun h' tk' e d M => ?_)
    show MkP X pins σ Q (.ref e) ⟨h', g, dr, tk', os⟩
    obtain ⟨oe, fv, hoe, hc, hd, hdat, h1⟩ := M.obj
    have hns := M.ns
    obtain ⟨G', g1, g2⟩ := restrict h' fun b => decide (b ≠ e)
    have gk : ∀ b, b ≠ e → G'.get? b = h'.get? b := fun b hb => g1 b (decide_eq_true hb)
    have ge : G'.get? e = none := g2 e (by simp)
    have old : ∀ b o, hp.get? b = some o → G'.get? b = some o := fun b o q => (gk b (Nat.ne_of_lt (Nat.lt_of_lt_of_le (Heap.lt_size q) M.new))).trans (M.keep b o q)
    have ob : ObjOk X.prog X.w (upd H1 d (.xd [(fld, v)])) G' d (.xd [(fld, v)]) := ⟨_, hns.at (fun o q => (gk d M.dne).trans q), fun f => relO_fld rv f⟩
    have J : Inv X pins σ (upd H1 d (.xd [(fld, v)])) ⟨G', g, dr, tk', os⟩ := I1.laid (t' := tk') old M.dbig ob
    refine ⟨e, oe, fv, ⟨G', g, dr, tk', os⟩, _, .ref C, some d, rfl, J, fun b o q => ?_, ge, hoe, ⟨hc, hd⟩, hdat, h1, ?_, rfl, I1.bare, raises_own exC tyC, q1 d (I1.hok.fresh M.dbig)⟩
    · by_cases hb : b = e
      · have q' : G'.get? b = some o := q
        rw [hb, ge] at q'; cases q'
      · exact (gk b hb).symm.trans q
    · rw [upd_ne (Ne.symm M.dne)]
      exact I1.hok.fresh M.new
/-- raise E(e) -/
theorem ps_raiseSup {a : Expr} {ta : TA} {W : WX} {p pos pos2 : Pos} (hc : X.calm = true) (T : PySem.SupX.SupTxt X.prog.main.file X.K X.mg cn fld C fI) (fo : PySem.SupX.FldOk fld) (sw : SupW X) (kC : PySem.W.keepIn X.K (.ref C) = true) (exC : PySem.W.subIn X.K (.ref C) (.type "BaseException") = some true) (tyC : PySem.W.typeIn X.K (.ref C) = some (.type "type"))
    (dp : X.A.depth + 3 < recursionLimit) (tk : Takes X W) (ha : PA X [a] ta) (hg : Gl X cn) (hdb : (cn == ("__debug__" : Str)) = false)
    (he : starEach (a :: []) X.env = (false, eval a X.env) :: starEach [] X.env := by rfl) (hpl : (backTo pos (starEach [] X.env)).any (·.1) = false := by rfl) :
    PS X (.Raise (some (.Call (.Name cn p) [a] [] pos)) none pos2) (fun _ σ H => tMkSup C fld ta σ H fun cls d H' => W cls d σ H') := ps_raise hc tk (pmk_sup T fo sw kC exC tyC dp ha hg hdb he hpl)
/-- e.fld, e the exception that the suite holds -/
def tBySup (C : Addr) (fld : Str) (a : Addr) (cls : Value) (d : Option Addr) (te : TE) : TE := fun σ H Q => te σ H fun x H1 => x = .ref a ∧ cls = .ref C ∧ ∃ (dd : Addr) (v : V), d = some dd ∧ H1 dd = some (.xd [(fld, v)]) ∧ Q v H1
theorem pe_bySup {a : Addr} {oe : Obj} {cls : Value} {d : Option Addr} {pn : List (Addr × Obj)} {e : Expr} {te : TE} {pos : Pos} (T : PySem.SupX.SupTxt X.prog.main.file X.K X.mg cn fld C fI)
    (ga : PySem.W.findIn X.K (.ref C) "__getattribute__" = some (some (.builtin "BaseException.__getattribute__"))) (gg : PySem.W.findIn X.K (.ref C) "__getattr__" = some none) (exC : PySem.W.subIn X.K (.ref C) (.type "BaseException") = some true) (hdC : PySem.W.hasDictIn X.K C = true)
    (hz : Zc cls d oe) (hf : ∃ vs, oe.data = .fields vs) (he : PE (X.suite a ((a, oe) :: pn)) e te) (hb : attributeBase e fld X.env (eval e X.env) = eval e X.env) :
    PE (X.suite a ((a, oe) :: pn)) (.Attribute e fld pos) (tBySup C fld a cls d te) := by
  refine ⟨fun pins s σ H Q I h => ?_⟩
  refine attr_of hb (thn (he.run pins s σ H _ I h) fun u s1 hh => ?_)
  obtain ⟨x, H1, I1, rx, ex, ec, dd, v, ed, ea, q⟩ := hh
  subst ex
  obtain rfl : u = Value.ref a := rx
  subst ec
  subst ed
  obtain ⟨ha, _⟩ := I1.pin (a, oe) (List.mem_append_left _ List.mem_cons_self)
  obtain ⟨vs, hd⟩ := hf
  have hx : ObjOk X.prog X.w H1 s1.heap dd (.xd [(fld, v)]) := I1.hok dd _ ea
  obtain ⟨mA, hns, hr⟩ := hx
  obtain ⟨od, ho, hl⟩ := lookIn_ns hns
  have l : List.lookup fld [(fld, v)] = some v := by simp [List.lookup]
  obtain ⟨u, hu, ru⟩ := RelO.some_of (v := v) (o := mA fld) (by rw [← l]; exact hr fld)
  have J : PySem.W.InstAt s1.heap a oe C (some od) := ⟨ha, hz.1, by unfold PySem.W.notCls; rw [hd] <;> rfl, by rw [hz.2]; exact ho⟩
  exact HandSPX.exc_get I1.kIn J ga gg exC (PySem.W.findObj_own hdC T.noN rfl (by rw [hl, hu])) (handed_of ru) ⟨v, H1, I1.tok _, ru, q⟩
end
end L2
namespace Zm
open PySem L2 PySem.Spec PyProof.Rows
section
variable {P : Program} {w : World} {K : PySem.W.Frag} {mg : Str → Option Value} {base : Heap} {k : Nat} {f : Addr} {fd : FuncData} {ps : List Str} {CX : CXT}
/-- either of two promises of one def -/
theorem fn_or {sp1 sp2 : Sp} (g1 : FnG P w K mg base CX k f fd ps sp1) (g2 : FnG P w K mg base CX k f fd ps sp2) : FnG P w K mg base CX k f fd ps (fun vs H Q E => sp1 vs H Q E ∨ sp2 vs H Q E) :=
  ⟨fun vz Hh Qq E h => h.elim (g1.len vz Hh Qq E) (g2.len vz Hh Qq E), fun A oute s Hh args uz vz Qq E hroom e0 hb r h => h.elim (g1.run A oute s Hh args uz vz Qq E hroom e0 hb r) (g2.run A oute s Hh args uz vz Qq E hroom e0 hb r)⟩
/-- a def that raises nothing, where something may be raised -/
theorem fn_up {sp : Sp} (g : FnG P w K mg base CX0 k f fd ps sp) : FnG P w K mg base CX k f fd ps sp :=
  ⟨g.len, fun A oute s Hh args uz vz Qq E hroom e0 hb r h => codeAny_mono (g.run A oute s Hh args uz vz Qq E hroom e0 hb r h) fun res s' z => by
    cases res with
    | ok fl => cases fl <;> exact z
    | error e => exact absurd z id⟩
end
end Zm

set_option Elab.async false
set_option linter.all false
set_option maxRecDepth 100000
set_option maxHeartbeats 4000000
/-! ZF: what is raised, as plain functions: a def's second function tells which class it raises, what that keeps, and the cells. -/
namespace Zm
open PySem L2 PySem.Spec PyProof.Rows

/-- the class's name, what it keeps, the state -/
abbrev MX := MS → Option (Str × D × MS)
/-- the classes: where they stand, their field's name, which ones a clause takes -/
structure XTab where
  cls : Str → Addr
  fld : Str → Str
def rdX (K : PySem.W.Frag) (τ : XTab) (W : WX) (z : MX) (σ : L2.St) (H : Hp) : Prop := ∃ ρ ms cn d ms', Rel K ρ ms.h H ∧ Slots K ρ H ms.s σ ∧ z ms = some (cn, d, ms') ∧
  ∀ v dd H1 ρ1 σ1, Fut ρ H ρ1 H1 → Rel K ρ1 ms'.h H1 → Slots K ρ1 H1 ms'.s σ1 → Den K ρ1 H1 v d → H1 dd = none → W (.ref (τ.cls cn)) (some dd) σ1 (upd H1 dd (.xd [(τ.fld cn, v)]))
abbrev XB (X : Cx) (τ : XTab) (W : WX) (st : Stmt) (z : MX) : Prop := PS X st fun _ σ H => rdX X.K τ W z σ H
abbrev XBs (X : Cx) (τ : XTab) (W : WX) (st : List Stmt) (z : MX) : Prop := PSs X st fun _ σ H => rdX X.K τ W z σ H
/-- in an expression the slots stay -/
abbrev MY := MS → Option (Str × D × Cells)
def rdY (K : PySem.W.Frag) (τ : XTab) (W : WX) (y : MY) (σ : L2.St) (H : Hp) : Prop := ∃ ρ ms cn d h', Rel K ρ ms.h H ∧ Slots K ρ H ms.s σ ∧ y ms = some (cn, d, h') ∧
  ∀ v dd H1 ρ1, Fut ρ H ρ1 H1 → Rel K ρ1 h' H1 → Den K ρ1 H1 v d → H1 dd = none → W (.ref (τ.cls cn)) (some dd) σ (upd H1 dd (.xd [(τ.fld cn, v)]))
abbrev XE' (X : Cx) (τ : XTab) (W : WX) (e : Expr) (y : MY) : Prop := PE X e fun σ H _ => rdY X.K τ W y σ H
abbrev XA' (X : Cx) (τ : XTab) (W : WX) (es : List Expr) (y : MY) : Prop := PA X es fun σ H _ => rdY X.K τ W y σ H
def zS (y : MY) : MX := fun ms => (y ms).map fun r => (r.1, r.2.1, { ms with h := r.2.2 })
theorem rdY_of {K : PySem.W.Frag} {τ : XTab} {W : WX} {y : MY} {σ : L2.St} {H : Hp} (h : rdX K τ W (zS y) σ H) : rdY K τ W y σ H := by
  obtain ⟨ρ, ms, cn, d, ms', R, S, e, q⟩ := h
  obtain ⟨⟨cn', d', h'⟩, e1, e2⟩ := Option.map_eq_some_iff.mp e
  cases e2
  exact ⟨ρ, ms, _, _, h', R, S, e1, fun v dd H1 ρ1 F1 R1 dv hd => q v dd H1 ρ1 σ F1 R1 (S.fut F1) dv hd⟩
section
variable {X : Cx} {τ : XTab} {W : WX} {st : Stmt} {rest : List Stmt} {z z1 z2 : MX}
theorem _root_.L2.PS.nox {X : Cx} {st : Stmt} {t : TS} (h : PS X.nox st t) : PS X st t := ⟨fun pins s σ H D I hw =>
  wpAny_mono (h.run pins s σ H D (I.wish _) hw) (fun _ _ q => q.unwish) fun _ _ z => False.elim z⟩
theorem _root_.L2.PA.nox {X : Cx} {es : List Expr} {t : TA} (h : PA X.nox es t) : PA X es t := ⟨fun pos pins s σ H Q I hw =>
  wpAny_mono (h.run pos pins s σ H Q (I.wish _) hw) (fun _ _ ⟨v, H', I', r, q⟩ => ⟨v, H', I'.unwish, r, q⟩) fun _ _ z => False.elim z⟩
theorem _root_.L2.PK.nox {X : Cx} {es : List Keyword} {t : TA} (h : PK X.nox es t) : PK X es t := ⟨fun pos pins s σ H Q I hw =>
  wpAny_mono (h.run pos pins s σ H Q (I.wish _) hw) (fun _ _ ⟨v, H', I', r, q⟩ => ⟨v, H', I'.unwish, r, q⟩) fun _ _ z => False.elim z⟩
theorem xs_here (h : XB X τ W st z) : XBs X τ W (st :: rest) z := pss_w (pss_cons h pss_never) fun _ _ _ q => q
def zThen (b : MB) (z : MX) : MX := fun ms => (b ms).bind fun r => match r.1 with
  | .nx => z r.2
  | _ => none
theorem xs_then {b : MB} (h1 : BV X st b) (h2 : XBs X τ W rest z) : XBs X τ W (st :: rest) (zThen b z) := by
  refine pss_w (pss_cons h1 h2) fun D σ H h => ?_
  obtain ⟨ρ, ms, cn, d, ms', R, S, e, q⟩ := h
  obtain ⟨r, e1, e2⟩ := Option.bind_eq_some_iff.mp e
  obtain ⟨o, m1⟩ := r
  cases o with
  | nx => exact ⟨ρ, ms, .nx, m1, R, S, e1, fun H1 ρ1 F1 R1 σ1 S1 => ⟨ρ1, m1, cn, d, ms', R1, S1, e2, fun v dd H2 ρ2 σ2 F2 => q v dd H2 ρ2 σ2 (F1.trans F2)⟩⟩
  | ret d => cases e2
  | bk => cases e2
  | ct => cases e2
def zOr (z1 z2 : MX) : MX := fun ms => (z1 ms).orElse fun _ => z2 ms
theorem zOr_some {ms : MS} {r : Str × D × MS} (e : zOr z1 z2 ms = some r) : z1 ms = some r ∨ z2 ms = some r := by
  unfold zOr at e
  cases h : z1 ms with
  | none => rw [h] at e; exact .inr e
  | some u => rw [h] at e; exact .inl e
theorem rdX_or {K : PySem.W.Frag} {σ : L2.St} {H : Hp} (h : rdX K τ W (zOr z1 z2) σ H) : rdX K τ W z1 σ H ∨ rdX K τ W z2 σ H := by
  obtain ⟨ρ, ms, cn, d, ms', R, S, e, q⟩ := h
  rcases zOr_some e with e | e
  · exact .inl ⟨ρ, ms, cn, d, ms', R, S, e, q⟩
  · exact .inr ⟨ρ, ms, cn, d, ms', R, S, e, q⟩
def yOr (z1 z2 : MY) : MY := fun ms => (z1 ms).orElse fun _ => z2 ms
theorem rdY_or {K : PySem.W.Frag} {y1 y2 : MY} {σ : L2.St} {H : Hp} (h : rdY K τ W (yOr y1 y2) σ H) : rdY K τ W y1 σ H ∨ rdY K τ W y2 σ H := by
  obtain ⟨ρ, ms, cn, d, ms', R, S, e, q⟩ := h
  unfold yOr at e
  cases h1 : y1 ms with
  | none => rw [h1] at e; exact .inr ⟨ρ, ms, cn, d, ms', R, S, e, q⟩
  | some u => rw [h1] at e; exact .inl ⟨ρ, ms, cn, d, ms', R, S, h1.trans e, q⟩
theorem xs_or (h1 : XBs X τ W rest z1) (h2 : XBs X τ W rest z2) : XBs X τ W rest (zOr z1 z2) := ⟨fun pins s σ H D I h => (rdX_or h).elim (h1.run pins s σ H D I) (h2.run pins s σ H D I)⟩
theorem xb_or (h1 : XB X τ W st z1) (h2 : XB X τ W st z2) : XB X τ W st (zOr z1 z2) := ⟨fun pins s σ H D I h => (rdX_or h).elim (h1.run pins s σ H D I) (h2.run pins s σ H D I)⟩
theorem xe_or {e : Expr} {y1 y2 : MY} (h1 : XE' X τ W e y1) (h2 : XE' X τ W e y2) : XE' X τ W e (yOr y1 y2) := ⟨fun pins s σ H D I h => (rdY_or h).elim (h1.run pins s σ H D I) (h2.run pins s σ H D I)⟩
theorem xa_or {e : List Expr} {y1 y2 : MY} (h1 : XA' X τ W e y1) (h2 : XA' X τ W e y2) : XA' X τ W e (yOr y1 y2) := ⟨fun pos pins s σ H D I h => (rdY_or h).elim (h1.run pos pins s σ H D I) (h2.run pos pins s σ H D I)⟩
def zNo : MX := fun _ => none
theorem rdX_no {K : PySem.W.Frag} {σ : L2.St} {H : Hp} (h : rdX K τ W zNo σ H) : False := by
  obtain ⟨_, _, _, _, _, _, _, e, _⟩ := h
  cases e
theorem xs_no : XBs X τ W rest zNo := ⟨fun _ _ _ _ _ _ h => (rdX_no h).elim⟩
theorem xb_no : XB X τ W st zNo := ⟨fun _ _ _ _ _ _ h => (rdX_no h).elim⟩
def zIf (t : MT) (z1 z2 : MX) : MX := fun ms => (t ms).bind fun r => bif r.1 then z1 { ms with h := r.2 } else z2 { ms with h := r.2 }
theorem xb_if {c : Expr} {x y : List Stmt} {pos : Pos} {t : MT} (hc : TV X c t) (ha : XBs X τ W x z1) (hb : XBs X τ W y z2) : XB X τ W (.If c x y pos) (zIf t z1 z2) := by
  refine ps_w (ps_if hc ha hb) fun D σ H h => ?_
  obtain ⟨ρ, ms, cn, d, ms', R, S, e, q⟩ := h
  obtain ⟨r, e1, e2⟩ := Option.bind_eq_some_iff.mp e
  obtain ⟨b, h1⟩ := r
  refine ⟨ρ, ms, b, h1, R, S, e1, fun H1 ρ1 F1 R1 => ?_⟩
  cases b with
  | true => exact ⟨ρ1, { ms with h := h1 }, cn, d, ms', R1, S.fut F1, e2, fun v dd H2 ρ2 σ2 F2 => q v dd H2 ρ2 σ2 (F1.trans F2)⟩
  | false => exact ⟨ρ1, { ms with h := h1 }, cn, d, ms', R1, S.fut F1, e2, fun v dd H2 ρ2 σ2 F2 => q v dd H2 ρ2 σ2 (F1.trans F2)⟩
/-- what is asked of a class that is raised -/
structure XCls (P : Program) (K : PySem.W.Frag) (mg : Str → Option Value) (τ : XTab) (cn : Str) : Prop where
  ex : ∃ fI, PySem.SupX.SupTxt P.main.file K mg cn (τ.fld cn) (τ.cls cn) fI
  fo : PySem.SupX.FldOk (τ.fld cn)
  kC : PySem.W.keepIn K (.ref (τ.cls cn)) = true
  exC : PySem.W.subIn K (.ref (τ.cls cn)) (.type "BaseException") = some true
  tyC : PySem.W.typeIn K (.ref (τ.cls cn)) = some (.type "type")
  s1 : mg "super" = none
  s2 : (P.main.scope.names.lookup ("super" : Str)).isSome = false
def yRaise (cn : Str) (f : MA) : MY := fun ms => (f ms).bind fun r => match r.1 with
  | [d] => some (cn, d, r.2)
  | _ => none
abbrev zRaise (cn : Str) (f : MA) : MX := zS (yRaise cn f)
theorem dp3 {k : Nat} {A : Around} (h : RoomG k A) : A.depth + 3 < recursionLimit := by have := h.r.dp; omega
theorem xb_raise {k : Nat} {cn : Str} {a : Expr} {f : MA} {p pos pos2 : Pos} (O : XCls X.prog X.K X.mg τ cn) (tk : Takes X W) (hr : RoomG k X.A) (ha : AV X [a] f) (hc : X.calm = true := by rfl) (hg : Gl X cn := by rfl) (hdb : (cn == ("__debug__" : Str)) = false := by decide)
    (he : starEach (a :: []) X.env = (false, eval a X.env) :: starEach [] X.env := by rfl) (hpl : (backTo pos (starEach [] X.env)).any (·.1) = false := by rfl) : XB X τ W (.Raise (some (.Call (.Name cn p) [a] [] pos)) none pos2) (zRaise cn f) := by
  obtain ⟨fI, T⟩ := O.ex
  refine ps_w (ps_raiseSup hc T O.fo ⟨O.s1, O.s2⟩ O.kC O.exC O.tyC (dp3 hr) tk ha hg hdb he hpl) fun D σ H h => ?_
  obtain ⟨ρ, ms, cn', d, h', R, S, e, q⟩ := rdY_of h
  obtain ⟨r, e1, e2⟩ := Option.bind_eq_some_iff.mp e
  obtain ⟨ds, h1⟩ := r
  refine ⟨ρ, ms, ds, h1, R, S, e1, fun vs H1 ρ1 F1 R1 dn => ?_⟩
  match ds, dn, e2 with
  | [d'], .cons a .nil, e2 =>
    cases e2
    exact ⟨_, rfl, fun dd hd => q _ dd H1 ρ1 F1 R1 a hd⟩
end
/-! ### calls -/
abbrev MZ := List D → Cells → Option (Str × D × Cells)
def spX (K : PySem.W.Frag) (τ : XTab) (n : Nat) (Z : MZ) : Sp := fun vs H _ E => ∃ ρ h ds cn d h', Rel K ρ h H ∧ Dens K ρ H vs ds ∧ ds.length = n ∧ Z ds h = some (cn, d, h') ∧
  ∀ v dd H1 ρ1, Fut ρ H ρ1 H1 → Rel K ρ1 h' H1 → Den K ρ1 H1 v d → H1 dd = none → E (.ref (τ.cls cn)) (some dd) (upd H1 dd (.xd [(τ.fld cn, v)]))
structure KnowsX (P : Program) (w : World) (K : PySem.W.Frag) (mg : Str → Option Value) (base : Heap) (τ : XTab) (lv : Nat) (x : Str) (n : Nat) (Z : MZ) : Prop where
  ex : ∃ f fd ps, ps.length = n ∧ FnG P w K mg base (L2.CX P w) lv f fd ps (spX K τ n Z) ∧ mg x = some (.ref f) ∧ PySem.W.keepIn K (.ref f) = true ∧ Binds K fd ps []
structure KnowsXK (P : Program) (w : World) (K : PySem.W.Frag) (mg : Str → Option Value) (base : Heap) (τ : XTab) (lv : Nat) (x : Str) (n : Nat) (Z : MZ) (ks : List Str) (perm : List Nat) : Prop where
  ex : ∃ f fd ps, ps.length = n ∧ FnG P w K mg base (L2.CX P w) lv f fd ps (spX K τ n Z) ∧ mg x = some (.ref f) ∧ PySem.W.keepIn K (.ref f) = true ∧ KBinds K fd ps ks (permK perm) (permK perm)
def zFun (n m : Nat) (z : MX) : MZ := fun ds h => (z ⟨ds.map some ++ List.replicate (n - m) none, h⟩).map fun r => (r.1, r.2.1, r.2.2.h)
theorem fnX_ok {P : Program} {w : World} {K : PySem.W.Frag} {mg : Str → Option Value} {base : Heap} {τ : XTab} {x qual : Str} {st : Stmt} {f : Addr} {fd : FuncData} {N ps : List Str} {k n m : Nat} {z : MX} (F : Fun K x qual st f fd) (S : FnScope N ps (defScope st)) (hn : N.length = n) (hm : ps.length = m)
    (hbody : ∀ (cdv : Value) (A : Around) (outer : List Env) (s : Shared) (H : Hp) (E : XK) (W : WX), RoomG k (A.deeper (PyProof.Rows.envOfC qual (defScope st) s.heap.objs.size f cdv)) →
      Takes (cxOf (L2.CX P w) P w K mg base N qual (defScope st) f cdv A outer s H E) W →
      PassesOwn (model P w) (A.deeper (PyProof.Rows.envOfC qual (defScope st) s.heap.objs.size f cdv)) (PyProof.Rows.envOfC qual (defScope st) s.heap.objs.size f cdv) (cxOf (L2.CX P w) P w K mg base N qual (defScope st) f cdv A outer s H E).xe →
      XBs (cxOf (L2.CX P w) P w K mg base N qual (defScope st) f cdv A outer s H E) τ W (defBody st) z) : FnG P w K mg base (L2.CX P w) (k + 1) f fd ps (spX K τ m (zFun n m z)) := by
  subst hn hm
  obtain ⟨oc, od, kV, doc, pm, an, cdv, ct, osl, rfl, lk, hcd⟩ := F.ex
  refine fn_ofG lk hcd S (fun vs H Q E h => ?_) fun A outer s H vs Q E hr h => ?_
  · obtain ⟨ρ, h, ds, cn, d, h', R, dn, e, _⟩ := h
    rw [dn.length, e]
  · obtain ⟨ρ, h, ds, cn, d, h', R, dn, hl, e, q⟩ := h
    refine ⟨_, hbody cdv A outer s H E (fun cls d _ H => E cls d H) hr (takes_of rfl rfl rfl rfl) (passes_of rfl), ?_⟩
    obtain ⟨r, e1, e2⟩ := Option.map_eq_some_iff.mp e
    obtain ⟨cn', d', ms'⟩ := r
    cases e2
    refine ⟨ρ, ⟨ds.map some ++ List.replicate (N.length - ps.length) none, h⟩, _, _, ms', R, ?_, e1, fun v dd H1 ρ1 σ1 F1 R1 _ dv hd => q v dd H1 ρ1 F1 R1 dv hd⟩
    have := slots_start (N := N) dn
    rw [hl] at this
    exact this
section
variable {X : Cx} {τ : XTab} {W : WX} {k : Nat} {x : Str} {p pos : Pos} {e : Expr} {es : List Expr} {kws : List Keyword} {n : Nat} {Z : MZ} {fa : MA} {ks : List Str} {perm : List Nat} {z z1 z2 : MX}
def yCall (n : Nat) (Z : MZ) (f : MA) : MY := fun ms => (f ms).bind fun r => bif r.1.length == n then Z r.1 r.2 else none
theorem xe_call (Kn : KnowsX X.prog X.w X.K X.mg X.base τ k x n Z) (tk : Takes X W) (hr : RoomG k X.A) (ha : AV X (e :: es) fa) (hg : Gl X x := by rfl) (hdb : (x == ("__debug__" : Str)) = false := by decide)
    (he : starEach (e :: es) X.env = (false, eval e X.env) :: starEach es X.env := by rfl) (hpl : (backTo pos (starEach es X.env)).any (·.1) = false := by rfl) : XE' X τ W (.Call (.Name x p) (e :: es) [] pos) (yCall n Z fa) := by
  obtain ⟨f, fd, ps, hn, G, hm, hk, hb⟩ := Kn.ex
  refine ⟨fun pins s σ H Q I h => ?_⟩
  obtain ⟨ρ, ms, cn, d, h2, R, S, e0, q⟩ := h
  obtain ⟨r, e1, e2⟩ := Option.bind_eq_some_iff.mp e0
  obtain ⟨ds, h1⟩ := r
  obtain ⟨hl, e4⟩ : (ds.length == n) = true ∧ Z ds h1 = some (cn, d, h2) := by
    cases c : ds.length == n with
    | true => simp only [c, cond_true] at e2; exact ⟨rfl, e2⟩
    | false => simp only [c, cond_false] at e2; cases e2
  refine wpAny_Call_Name_kw (ld_glob I hg hm ?_ hdb)
  refine PySem.W.callWith_K (h₀ := X.base) I.ok.mod.kin hk (thn (ha.run pos pins s σ H _ I ⟨ρ, ms, ds, h1, R, S, e1, fun vs H1 ρ1 F1 R1 dn => (⟨ρ1, F1, R1, dn⟩ : ∃ ρ1, Fut ρ H ρ1 H1 ∧ Rel X.K ρ1 h1 H1 ∧ Dens X.K ρ1 H1 vs ds)⟩) fun uz s1 ⟨vz, H1, I1, r1, ρ1, F1, R1, dn⟩ => ⟨I1.kIn, ?_⟩) he hpl
  have hl2 : uz.length = ps.length := by rw [← r1.length, dn.length, hn]; simpa using hl
  refine wpAny_call (codeAny_mono (G.run X.A X.stack s1 H1 ⟨uz, []⟩ uz vz (fun _ _ => False) (fun cls d H => W cls d σ H) hr I1.env0 (by have := hb s1 uz I1.kIn (by rw [List.append_nil]; exact hl2); rwa [List.append_nil] at this) r1 ?_) fun r sn hq => ?_)
  · exact ⟨ρ1, h1, ds, cn, d, h2, R1, dn, by simpa using hl, e4, fun v dd H2 ρ2 F2 R2 dv hd => q v dd H2 ρ2 (F1.trans F2) R2 dv hd⟩
  · cases r with
    | error er => exact tk _ _ (XE.of_call I1 (fun _ _ _ z => z) hq)
    | ok fl =>
      cases fl with
      | ret u => obtain ⟨_, _, _, _, _, _, _, q⟩ := hq; exact q.elim
      | next => exact False.elim hq
      | brk => exact False.elim hq
      | cont => exact False.elim hq
def yCallK (n : Nat) (perm : List Nat) (Z : MZ) (f : MA) : MY := fun ms => (f ms).bind fun r => bif (permK perm [] r.1).length == n then Z (permK perm [] r.1) r.2 else none
theorem xe_callK (Kn : KnowsXK X.prog X.w X.K X.mg X.base τ k x n Z ks perm) (tk : Takes X W) (hr : RoomG k X.A) (hkw : KV' X kws fa) (hg : Gl X x := by rfl) (hall : (backToKw pos (keywordEach kws X.env)).all (·.1.isSome) = true := by rfl) (hks : (backToKw pos (keywordEach kws X.env)).filterMap (·.1) = ks := by rfl)
    (hdb : (x == ("__debug__" : Str)) = false := by decide)
    (hpl : ((backTo pos (starEach [] X.env)).any (·.1) || (backToKw pos (keywordEach kws X.env)).any (·.1.isNone)) = false := by rfl) : XE' X τ W (.Call (.Name x p) [] kws pos) (yCallK n perm Z fa) := by
  obtain ⟨f, fd, ps, hn, G, hm, hk, hb⟩ := Kn.ex
  refine ⟨fun pins s σ H Q I h => ?_⟩
  obtain ⟨ρ, ms, cn, d, h2, R, S, e0, q⟩ := h
  obtain ⟨r, e1, e2⟩ := Option.bind_eq_some_iff.mp e0
  obtain ⟨ds, h1⟩ := r
  obtain ⟨hl, e4⟩ : ((permK perm [] ds).length == n) = true ∧ Z (permK perm [] ds) h1 = some (cn, d, h2) := by
    cases c : (permK perm [] ds).length == n with
    | true => simp only [c, cond_true] at e2; exact ⟨rfl, e2⟩
    | false => simp only [c, cond_false] at e2; cases e2
  refine wpAny_Call_Name_kw (ld_glob I hg hm ?_ hdb)
  refine PySem.W.callWith_KW0 (h₀ := X.base) I.ok.mod.kin hk hall ?_ hpl
  refine thn (hkw.run pos pins s σ H _ I ⟨ρ, ms, ds, h1, R, S, e1, fun vs H1 ρ1 F1 R1 dn => (⟨ρ1, F1, R1, dn⟩ : ∃ ρ1, Fut ρ H ρ1 H1 ∧ Rel X.K ρ1 h1 H1 ∧ Dens X.K ρ1 H1 vs ds)⟩) fun ws s1 ⟨zs, H1, I1, rz, ρ1, F1, R1, dn⟩ => ⟨I1.kIn, ?_⟩
  rw [hks]
  have dn2 : Dens X.K ρ1 H1 (permK perm [] zs) (permK perm [] ds) := perm_gd perm _ _ _ _ _ _ _ .nil dn
  have r2 : Vals (permK perm [] zs) (permK perm [] ws) := hb.rel .nil rz
  have hl2 : (permK perm [] ws).length = ps.length := by rw [← r2.length, dn2.length, hn]; simpa using hl
  refine wpAny_call (codeAny_mono (G.run X.A X.stack s1 H1 ⟨[], ks.zip ws⟩ (permK perm [] ws) (permK perm [] zs) (fun _ _ => False) (fun cls d H => W cls d σ H) hr I1.env0 (hb.to s1 [] ws I1.kIn hl2) r2 ?_) fun r sn hq => ?_)
  · exact ⟨ρ1, h1, _, cn, d, h2, R1, dn2, by simpa using hl, e4, fun v dd H2 ρ2 F2 R2 dv hd => q v dd H2 ρ2 (F1.trans F2) R2 dv hd⟩
  · cases r with
    | error er => exact tk _ _ (XE.of_call I1 (fun _ _ _ z => z) hq)
    | ok fl =>
      cases fl with
      | ret u => obtain ⟨_, _, _, _, _, _, _, q⟩ := hq; exact q.elim
      | next => exact False.elim hq
      | brk => exact False.elim hq
      | cont => exact False.elim hq
/-! ### where it is raised within an expression -/
theorem pa_never {es : List Expr} : PA X es fun _ _ _ => False := ⟨fun _ _ _ _ _ _ _ h => h.elim⟩
theorem pe_never {e : Expr} : PE X e fun _ _ _ => False := ⟨fun _ _ _ _ _ _ h => h.elim⟩
theorem xa_here {y : MY} (h : XE' X τ W e y) (hs : starEach (e :: es) X.env = (false, eval e X.env) :: starEach es X.env := by rfl) : XA' X τ W (e :: es) y := pa_w (pa_cons h pa_never hs) fun _ _ _ q => q
def yArg (f : ME) (y : MY) : MY := fun ms => (f ms).bind fun r => y { ms with h := r.2 }
theorem rdY_arg {K : PySem.W.Frag} {f : ME} {y : MY} {σ : L2.St} {H : Hp} (h : rdY K τ W (yArg f y) σ H) : rdE K f σ H fun _ H1 => rdY K τ W y σ H1 := by
  obtain ⟨ρ, ms, cn, d, h', R, S, e0, q⟩ := h
  obtain ⟨⟨d1, h1⟩, e1, e2⟩ := Option.bind_eq_some_iff.mp e0
  exact ⟨ρ, ms, d1, h1, R, S, e1, fun v H1 ρ1 F1 R1 _ => ⟨ρ1, { ms with h := h1 }, cn, d, h', R1, S.fut F1, e2, fun v dd H2 ρ2 F2 => q v dd H2 ρ2 (F1.trans F2)⟩⟩
theorem xa_later {f : ME} {y : MY} (h : EV X e f) (hr : XA' X τ W es y) (hs : starEach (e :: es) X.env = (false, eval e X.env) :: starEach es X.env := by rfl) : XA' X τ W (e :: es) (yArg f y) := pa_w (pa_cons h hr hs) fun _ _ _ q => rdY_arg q
/-- f(args), args raise; f a def -/
theorem xe_args {f : Addr} {y : MY} (hm : X.mg x = some (.ref f)) (hk : PySem.W.keepIn X.K (.ref f) = true) (ha : XA' X τ W (e :: es) y) (hg : Gl X x := by rfl) (hdb : (x == ("__debug__" : Str)) = false := by decide)
    (he : starEach (e :: es) X.env = (false, eval e X.env) :: starEach es X.env := by rfl) (hpl : (backTo pos (starEach es X.env)).any (·.1) = false := by rfl) : XE' X τ W (.Call (.Name x p) (e :: es) [] pos) y := by
  refine ⟨fun pins s σ H Q I h => ?_⟩
  refine wpAny_Call_Name_kw (ld_glob I hg hm ?_ hdb)
  exact PySem.W.callWith_K (h₀ := X.base) I.ok.mod.kin hk (thn (ha.run pos pins s σ H (fun _ _ => False) I h) fun uz s1 ⟨_, _, _, _, z⟩ => z.elim) he hpl
theorem xe_argsD {lv : Nat} {F : MF} {y : MY} (Kn : Knows X.prog X.w X.K X.mg X.base lv x n F) (ha : XA' X τ W (e :: es) y) (hg : Gl X x := by rfl) (hdb : (x == ("__debug__" : Str)) = false := by decide)
    (he : starEach (e :: es) X.env = (false, eval e X.env) :: starEach es X.env := by rfl) (hpl : (backTo pos (starEach es X.env)).any (·.1) = false := by rfl) : XE' X τ W (.Call (.Name x p) (e :: es) [] pos) y := by
  obtain ⟨f, fd, ps, hn, G, hm, hk, hb⟩ := Kn.ex
  exact xe_args hm hk ha hg hdb he hpl
/-- .. a built-in function or type -/
theorem xe_argsB {id : String} {r : List V → Hp → VK → Prop} {y : MY} (hc : CallR X (.builtin id) r) (hm : X.mg x = none) (hv : bootBuiltins x = some (.builtin id)) (ha : XA' X τ W (e :: es) y) (hg : Gl X x := by rfl) (hn : x ≠ "__name__" := by decide) (hdb : (x == ("__debug__" : Str)) = false := by decide)
    (he : starEach (e :: es) X.env = (false, eval e X.env) :: starEach es X.env := by rfl) (hpl : (backTo pos (starEach es X.env)).any (·.1) = false := by rfl) : XE' X τ W (.Call (.Name x p) (e :: es) [] pos) y :=
  pe_w (pe_callB hc hg hm hv ha hn hdb he hpl) fun _ _ _ q => q
theorem xe_argsTy {T : String} {r : List V → Hp → VK → Prop} {y : MY} (hc : CallR X (.type T) r) (hm : X.mg x = none) (hv : bootBuiltins x = some (.type T)) (ha : XA' X τ W (e :: es) y) (hg : Gl X x := by rfl) (hn : x ≠ "__name__" := by decide) (hdb : (x == ("__debug__" : Str)) = false := by decide)
    (he : starEach (e :: es) X.env = (false, eval e X.env) :: starEach es X.env := by rfl) (hpl : (backTo pos (starEach es X.env)).any (·.1) = false := by rfl) : XE' X τ W (.Call (.Name x p) (e :: es) [] pos) y :=
  pe_w (pe_callTy hc hg hm hv ha hn hdb he hpl) fun _ _ _ q => q
/-- a op b, a raises -/
theorem xe_cmp {b : Expr} {op : CmpOp} {r : R2} {y : MY} (ho : OpR X (compareOp op) r) (ha : XE' X τ W e y) (hm : behindInMarks op b = false) : XE' X τ W (.Compare e [op] [b] pos) y := pe_w (pe_cmpR ho ha pe_never hm) fun _ _ _ q => q
/-- c if t else e2: t is known, one of both raises -/
def yIf (t : MT) (y1 y2 : MY) : MY := fun ms => (t ms).bind fun r => bif r.1 then y1 { ms with h := r.2 } else y2 { ms with h := r.2 }
def yNo : MY := fun _ => none
theorem xe_no : XE' X τ W e yNo := ⟨fun _ _ _ _ _ _ h => by
  obtain ⟨_, _, _, _, _, _, _, e, _⟩ := h
  cases e⟩
theorem xe_if {c a b : Expr} {t : MT} {y1 y2 : MY} (hc : TV X c t) (ha : XE' X τ W a y1) (hb : XE' X τ W b y2) : XE' X τ W (.IfExp c a b pos) (yIf t y1 y2) := by
  refine pe_w (pe_ifExp hc ha hb) fun σ H Q h => ?_
  obtain ⟨ρ, ms, cn, d, h', R, S, e0, q⟩ := h
  obtain ⟨⟨b1, h1⟩, e1, e2⟩ := Option.bind_eq_some_iff.mp e0
  refine ⟨ρ, ms, b1, h1, R, S, e1, fun H1 ρ1 F1 R1 => ?_⟩
  cases b1 with
  | true => exact ⟨ρ1, { ms with h := h1 }, cn, d, h', R1, S.fut F1, e2, fun v dd H2 ρ2 F2 => q v dd H2 ρ2 (F1.trans F2)⟩
  | false => exact ⟨ρ1, { ms with h := h1 }, cn, d, h', R1, S.fut F1, e2, fun v dd H2 ρ2 F2 => q v dd H2 ρ2 (F1.trans F2)⟩
/-- .. for x in e .., e raises -/
theorem xi_of {tg : Expr} {y : MY} (h : XE' X τ W e y) : PI X tg e fun σ H _ => rdY X.K τ W y σ H := ⟨fun pins s σ H R I hh => wpAny_mono (h.run pins s σ H (fun _ _ => False) I hh) (fun _ _ ⟨_, _, _, _, z⟩ => z.elim) fun _ _ z => z⟩
/-! ### statements -/
variable {z z1 z2 : MX}
theorem xb_expr {y : MY} (he : XE' X τ W e y) (hs : swapsWith e none pos.line X.env = pure false := by rfl) : XB X τ W (.Expr e pos) (zS y) := ps_w (ps_expr he hs) fun _ _ _ q => rdY_of q
theorem xb_ret {y : MY} (he : XE' X τ W e y) : XB X τ W (.Return (some e) pos) (zS y) := ps_w (ps_ret he) fun _ _ _ q => rdY_of q
theorem xb_asg {tg : Expr} {g : TG} {y : MY} (he : XE' X τ W e y) (hg : PG X tg g) (hs : swapsWithSole [tg] e pos.line X.env = pure false := by rfl) (hw : swappedStores [tg] e X.env = pure none := by rfl) (h1 : (assignEach [tg] X.env).map (·.2) = [assign tg X.env] := by rfl) : XB X τ W (.Assign [tg] e pos) (zS y) :=
  ps_w (ps_asg he hg hs hw h1) fun _ _ _ q => rdY_of q
/-- a loop, a turn of which raises -/
def zForL (g : MG) (b : MB) (z : MX) : List D → MX
  | [], _ => none
  | d :: ds, ms => (g d ms).bind fun m1 => (z m1).orElse fun _ => (b m1).bind fun r => match r.1 with
    | .nx => zForL g b z ds r.2
    | .ct => zForL g b z ds r.2
    | _ => none
def zFor (f : MI) (g : MG) (b : MB) (z : MX) : MX := fun ms => (f ms).bind fun r => zForL g b z r.1 { ms with h := r.2 }
theorem pss_or {body : List Stmt} {t u : TS} (h1 : PSs X body t) (h2 : PSs X body u) : PSs X body fun D σ H => t D σ H ∨ u D σ H := ⟨fun pins s σ H D I h => h.elim (h1.run pins s σ H D I) (h2.run pins s σ H D I)⟩
theorem xb_for {tg iter : Expr} {body : List Stmt} {f : MI} {g : MG} {b : MB} (hi : IV X tg iter f) (hg : GV X tg g) (hb : BVs X body b) (hz : XBs X τ W body z) (hc : X.calm = true) (hp : PassesOwn (model X.prog X.w) X.A X.env X.xe)
    (hs : ∀ x, foldedSetIterable iter X.env x = pure x := by intro _; rfl) : XB X τ W (.For tg iter body [] pos) (zFor f g b z) := by
  refine ps_w (ps_for hp hc hi hg (pss_or hb hz) hs) fun D σ H h => ?_
  obtain ⟨ρ, ms, cn, d, ms', R, S, e, q⟩ := h
  obtain ⟨r, e1, e2⟩ := Option.bind_eq_some_iff.mp e
  obtain ⟨ds, h1⟩ := r
  refine ⟨ρ, ms, ds, h1, R, S, e1, fun J H1 ρ1 F1 R1 Y => ?_⟩
  refine ⟨fun i m σ2 H2 => m = ds.length - i ∧ i ≤ ds.length ∧ ∃ ρ2 ms2, Fut ρ1 H1 ρ2 H2 ∧ Rel X.K ρ2 ms2.h H2 ∧ Slots X.K ρ2 H2 ms2.s σ2 ∧ zForL g b z (ds.drop i) ms2 = some (cn, d, ms'), ⟨_, rfl, Nat.zero_le _, ρ1, { ms with h := h1 }, .refl ρ1 H1, R1, S.fut F1, e2⟩, ?_⟩
  rintro i m σ2 H2 ⟨rfl, hi, ρ2, ms2, F2, R2, S2, e3⟩
  obtain ⟨ystop, ygo⟩ := Y i ρ2 H2 ms2.h F2 R2
  by_cases hl : i < ds.length
  · right
    have hd : ds[i]? = some ds[i] := List.getElem?_eq_getElem hl
    obtain ⟨g1, g2⟩ := ygo _ hd
    rw [List.drop_eq_getElem_cons hl] at e3
    obtain ⟨m1, e4, e5⟩ := Option.bind_eq_some_iff.mp e3
    refine ⟨g1, fun σ3 H3 => ∃ ρ3 ms3, Fut ρ1 H1 ρ3 H3 ∧ Rel X.K ρ3 ms3.h H3 ∧ Slots X.K ρ3 H3 ms3.s σ3 ∧ zForL g b z (ds.drop (i + 1)) ms3 = some (cn, d, ms'), fun σ' H' w => ⟨ds.length - (i + 1), by omega, rfl, hl, w⟩, fun x H' y => ?_⟩
    obtain ⟨Fy, Ry, dy⟩ := g2 x H' y
    refine ⟨ρ2, ms2, _, m1, Ry, S2.fut Fy, dy, e4, fun H4 ρ4 σ4 F4 R4 S4 => ?_⟩
    have F14 := (F2.trans Fy).trans F4
    cases ez : z m1 with
    | some t =>
      rw [ez] at e5
      cases e5
      exact .inr ⟨ρ4, m1, cn, d, ms', R4, S4, ez, fun v dd H5 ρ5 σ5 F5 => q v dd H5 ρ5 σ5 (F1.trans (F14.trans F5))⟩
    | none =>
      rw [ez] at e5
      obtain ⟨u, e6, e7⟩ := Option.bind_eq_some_iff.mp (show ((b m1).bind _) = some _ from e5)
      obtain ⟨o3, ms3⟩ := u
      refine .inl ⟨ρ4, m1, o3, ms3, R4, S4, e6, fun H5 ρ5 F5 R5 => ?_⟩
      have F15 := F14.trans F5
      cases o3 with
      | nx => exact fun σ5 S5 => ⟨ρ5, ms3, F15, R5, S5, e7⟩
      | ct => exact fun σ5 S5 => ⟨ρ5, ms3, F15, R5, S5, e7⟩
      | bk => cases e7
      | ret d => cases e7
  · rw [List.drop_eq_nil_of_le (Nat.le_of_not_lt hl)] at e3
    cases e3
theorem bif_someX {α : Type} {c : Bool} {x : Option α} {z : α} (h : (bif c then x else none) = some z) : c = true ∧ x = some z := by
  cases c with
  | true => exact ⟨rfl, h⟩
  | false => cases h
/-- cell.append(e), e raises -/
def yApp (f : ME) (y : MY) : MY := fun ms => (f ms).bind fun r => match r.1 with
  | .cell i => bif decide (i < r.2.length) then y { ms with h := r.2 } else none
  | _ => none
theorem xe_app {o e : Expr} {apos cpos : Pos} {f : ME} {y : MY} (ho : EV X o f) (ha : XA' X τ W [e] y) (hbase : attributeBase o "append" X.env (eval o X.env) = eval o X.env := by rfl)
    (hfew : ((backTo cpos (starEach [e] X.env)).all (fun x => !x.1) && (backToKw cpos (keywordEach [] X.env)).all (fun x => x.1.isSome)
      && decide (([e] : List Expr).length + ([] : List Keyword).length + (if ([] : List Keyword).isEmpty then 0 else 1) < 30)) = true := by rfl)
    (hline : (apos.endLine == cpos.line) = true := by rfl) (hs : starEach [e] X.env = (false, eval e X.env) :: starEach [] X.env := by rfl) (hplain : (backTo cpos (starEach [] X.env)).any (·.1) = false := by rfl) :
    XE' X τ W (.Call (.Attribute o "append" apos) [e] [] cpos) (yApp f y) := by
  refine pe_w (pe_bm PySem.F.plainAttrs_list PySem.F.slot_list_append PySem.F.type_list_append mt_append ho ha hbase hfew hline hs hplain) fun σ H Q h => ?_
  obtain ⟨ρ, ms, cn, d, h', R, S, e0, q⟩ := h
  obtain ⟨⟨d1, h1⟩, e1, e2⟩ := Option.bind_eq_some_iff.mp e0
  cases d1 with
  | cell i =>
    obtain ⟨c, e3⟩ := bif_someX (show (bif decide (i < h1.length) then y { ms with h := h1 } else none) = some (cn, d, h') from e2)
    have hl := of_decide_eq_true c
    refine ⟨ρ, ms, .cell i, h1, R, S, e1, fun x H1 ρ1 F1 R1 dn1 => ?_⟩
    cases dn1 with
    | cell g1 =>
      obtain ⟨vs0, q0, _⟩ := R1.at_ _ _ _ g1 (List.getElem?_eq_getElem hl)
      exact ⟨Or.inl ⟨rfl, _, SqL.of q0⟩, ρ1, { ms with h := h1 }, cn, d, h', R1, S.fut F1, e3, fun v dd H2 ρ2 F2 => q v dd H2 ρ2 (F1.trans F2)⟩
  | _ => cases e2
end
end Zm

set_option Elab.async false
set_option linter.all false
set_option maxRecDepth 100000
set_option maxHeartbeats 4000000
/-! ZG: try, with several clauses, some of which name what they catch. -/
namespace L2
open PySem PySem.Spec PyProof.Rows
/-- a clause: its class, the slot of its name, its suite -/
abbrev Hd := Value × Option Nat × (Addr → Value → Option Addr → TS)
def endsAs (i : Option Nat) (D : Ends) : Ends := match i with
  | none => D
  | some i => { nx := fun σ' H' => D.nx (σ'.set i none) H', rt := D.rt, bk := fun σ' H' => D.bk (σ'.set i none) H', ct := fun σ' H' => D.ct (σ'.set i none) H' }
def stAs (i : Option Nat) (a : Addr) (σ : St) : St := match i with
  | none => σ
  | some i => σ.set i (some (.ref a))
def wMix (K : PySem.W.Frag) (Wout : WX) (D : Ends) : List Hd → WX
  | [] => Wout
  | (c, i, ts) :: r => fun cls d σ H => ∃ b, PySem.W.exmOne K cls c = some b ∧ (b = true → ∀ a, H a = none → ts a cls d (endsAs i D) (stAs i a σ) H) ∧ (b = false → wMix K Wout D r cls d σ H)
inductive HdsMix (X : Cx) : List ExceptHandler → List Hd → Prop
  | nil : HdsMix X [] []
  | bare {x : Str} {c : Value} {ts : Addr → Value → Option Addr → TS} {b₀ : Stmt} {suite : List Stmt} {np pos' : Pos} {hds : List ExceptHandler} {l : List Hd} (hc : Names X x c)
      (hsu : ∀ (a : Addr) (oe : Obj) (cls : Value) (d : Option Addr) (pn : List (Addr × Obj)), Zc cls d oe → (∃ vs, oe.data = .fields vs) → PSs (X.suite a ((a, oe) :: pn)) (b₀ :: suite) (ts a cls d)) (r : HdsMix X hds l) :
      HdsMix X (.ExceptHandler (some (.Name x np)) none (b₀ :: suite) pos' :: hds) ((c, none, ts) :: l)
  | as {x n : Str} {i : Nat} {c : Value} {ts : Addr → Value → Option Addr → TS} {b₀ : Stmt} {suite : List Stmt} {np pos' : Pos} {hds : List ExceptHandler} {l : List Hd} (hc : Names X x c) (hi : X.N[i]? = some n) (hln : X.env.kindOf n = some .local)
      (hsu : ∀ (a : Addr) (oe : Obj) (cls : Value) (d : Option Addr) (pn : List (Addr × Obj)), Zc cls d oe → (∃ vs, oe.data = .fields vs) → PSs (X.suite a ((a, oe) :: pn)) (b₀ :: suite) (ts a cls d)) (r : HdsMix X hds l) :
      HdsMix X (.ExceptHandler (some (.Name x np)) (some n) (b₀ :: suite) pos' :: hds) ((c, some i, ts) :: l)
section
variable {X : Cx} {body : List Stmt} {h₀ : ExceptHandler} {hds : List ExceptHandler} {l : List Hd} {pos : Pos} {tb : WX → TS} {Wout : WX}
theorem ps_try_mix (hs : X.stack = X.env :: X.outer) (hf : X.env.frame = some X.env.locals) (hN : X.N.Nodup) (tk : Takes X Wout)
    (hb : ∀ (W : WX) (pn : List (Addr × Obj)) (xe : Value → Shared → Prop), Takes (X.tr pn xe) W → PassesOwn (model X.prog X.w) X.A X.env xe → PSs (X.tr pn xe) body (tb W))
    (hh : HdsMix X (h₀ :: hds) l) : PS X (.Try body (h₀ :: hds) [] [] pos) (fun D σ H => tb (wMix X.K Wout D l) D σ H) := by
  refine ⟨fun pins s σ H D I h => ?_⟩
  have ok := I.ok
  have hfr : X.A.frames = some (X.env :: X.outer) := by rw [ok.frames, hs]
  refine wpAny_Try_except ?_
  refine wpAny_mono ((hb (wMix X.K Wout D l) (X.pn ++ pins) (fun e s₁ => wpAny (model X.prog X.w) X.A (noteFrame e X.env) (fun _ s₂ => wpAny (model X.prog X.w) X.A (setFlight e none) (fun _ s₃ =>
    wpAny (model X.prog X.w) X.A (handleBy e X.env (h₀ :: hds)) (SP X pins D) X.xe s₃) X.xe s₂) X.xe s₁) (fun u s' xx => ?_) PassesOwn.looking).run [] s σ H D (I.toTry _) h) (fun f s1 hsp => ?_) (fun e s1 he => he)
  · -- the catch
    obtain ⟨a, B, sI, pins', σ', H', cls, d, rfl, J', nb, up, sky, na, os, ag, w⟩ := xx
    have J : Inv X pins σ' H' sI := J'.ofTry ok
    have sky' : Sky B (X.env :: X.outer) a (Zc cls d) X.env.locals s'.heap := by rw [← hs]; exact sky
    show wpAny (model X.prog X.w) X.A (noteFrame (.ref a) X.env) _ _ _
    refine Sky.land Zc.steady hfr hf sky' fun h3 fl3 up3 => ?_
    have J3 : Inv X pins σ' H' { s' with heap := h3 } := J.landed nb fl3.1 (up.trans up3) os ag
    obtain ⟨oe3, vs3, he3, hz3, hd3⟩ := fl3.there
    have notFr : ∀ {h : Heap} {o : Obj} {vs : Array Value}, h.FunFrames B (X.env :: X.outer) → h.get? a = some o → o.data = .fields vs → a ∉ frs (X.env :: X.outer) := fun {h o vs} ff e dd hm => by
      obtain ⟨_, o', e', hnf⟩ := ff.mem hm
      rw [e] at e'; cases e'
      exact hnf _ dd
    have nfr := notFr fl3.2.2.1 he3 hd3
    have nL : a ≠ X.env.locals := fun z => nfr (List.mem_filterMap.mpr ⟨X.env, List.mem_cons_self, by rw [hf, z]⟩)
    have nF : a ∉ X.fs := fun hm => by
      obtain ⟨e, he, q⟩ := List.mem_filterMap.mp hm
      exact nfr (List.mem_filterMap.mpr ⟨e, List.mem_cons_of_mem _ he, q⟩)
    have S3 := J3.suite he3 hd3 na nL nF
    have go : ∀ {hds' : List ExceptHandler} {l' : List Hd}, HdsMix X hds' l' → wMix X.K Wout D l' cls d σ' H' →
        wpAny (model X.prog X.w) X.A (handleBy (.ref a) X.env hds') (SP X pins D) X.xe { s' with heap := h3 } := by
      intro hds' l' hk
      have test : ∀ {x : Str} {np : Pos} {c : Value} {Q : Value → Shared → Prop} {E : Value → Shared → Prop}, Names X x c → Q c { s' with heap := h3 } → wpAny (model X.prog X.w) (X.A.mark (some (.ref a))) (eval (.Name x np) X.env) Q E { s' with heap := h3 } := fun {x np c Q E} hc q => by
        obtain ⟨hg, hdbg, hm | ⟨hm, hv, hnn⟩⟩ := hc
        · exact ld_glob (X := X.suite a ((a, oe3) :: (X.pn ++ pins))) S3 hg hm q hdbg
        · exact ld_blt (X := X.suite a ((a, oe3) :: (X.pn ++ pins))) S3 hg hm hv q hnn hdbg
      induction hk with
      | nil =>
        intro w
        refine wpAny_handleBy_nil ?_
        obtain ⟨k1, k2, k3, oe, vs, T, oT, ts', he, hz, hd, h1, hr⟩ := id fl3
        unfold PySem.passOn
        refine wpAny_bind (wpAny_field he hd h1 ?_)
        rw [if_neg (show ¬ ((Value.ref T == Value.none) = true) from by simp)]
        have fin : wpAny (model X.prog X.w) X.A (setFlight (.ref a) X.env.frame) (fun _ s4 => wpAny (model X.prog X.w) X.A (throw (.ref a) : Sem Flow) (SP X pins D) X.xe s4) X.xe { s' with heap := h3 } := by
          rw [hf]
          refine HandSPX.setFlight_upZ fl3 fun h4 hh4 up4 => wpAny_throw (tk _ _ ?_)
          exact ⟨a, B, sI, pins, σ', H', cls, d, rfl, J, nb, (up.trans up3).trans up4, .inr (.inr (by rw [hs]; exact hh4)), na, os, ag, w⟩
        first
          | exact wpAny_bind (wpAny_pure (wpAny_bind fin))
          | exact wpAny_bind fin
      | @bare x c ts b₀ suite np pos' hds2 l2 hc hsu r ih =>
        intro w
        obtain ⟨b, hb1, hyes, hno⟩ := w
        refine wpAny_handleBy_cons (codeAny_handlers_test ?_) (by intro q; cases q)
        have LT : PySem.W.Looks (model X.prog X.w) h3 (typeOf (.ref a)) cls := fun A Q E s k q => wpAny_typeOf_ref (k _ _ he3) (by rw [hz3.1]; exact q)
        have LM := PySem.W.exm_one (M := model X.prog X.w) (J3.kIn) LT hb1
        refine test hc (LM.here ?_)
        cases b with
        | true =>
          refine codeAny_handlers_suite ?_
          refine HandSPX.lands_againZ fl3 fun h4 fl4 up4 => ?_
          have J4 : Inv X pins σ' H' { s' with heap := h4 } := J.landed nb fl4.1 ((up.trans up3).trans up4) os ag
          obtain ⟨oe4, vs4, he4, hz4, hd4⟩ := fl4.there
          have S4 := J4.suite he4 hd4 na nL nF
          refine wpAny_mono ((hsu a oe4 cls d (X.pn ++ pins) hz4 ⟨_, hd4⟩).run [] _ _ H' _ S4 (hyes rfl a na)) (fun f s6 hsp => ?_) (fun _ _ z => False.elim z)
          cases f with
          | next =>
            obtain ⟨σ6, H6, S6, q6⟩ := hsp
            exact ⟨_, _, S6.unsuite ok, q6⟩
          | brk =>
            obtain ⟨σ6, H6, S6, q6⟩ := hsp
            exact ⟨_, _, S6.unsuite ok, q6⟩
          | cont =>
            obtain ⟨σ6, H6, S6, q6⟩ := hsp
            exact ⟨_, _, S6.unsuite ok, q6⟩
          | ret u =>
            obtain ⟨v6, σ6, H6, S6, r6, q6⟩ := hsp
            exact ⟨_, _, _, S6.unsuite ok, r6, q6⟩
        | false =>
          show wpAny _ X.A (handleBy (.ref a) X.env hds2) _ _ _
          exact ih (hno rfl)
      | @as x n i c ts b₀ suite np pos' hds2 l2 hc hi hln hsu r ih =>
        intro w
        obtain ⟨b, hb1, hyes, hno⟩ := w
        have hloc : Loc X.env.scope n := .inl hln
        refine wpAny_handleBy_cons (codeAny_handlers_test ?_) (by intro q; cases q)
        have LT : PySem.W.Looks (model X.prog X.w) h3 (typeOf (.ref a)) cls := fun A Q E s k q => wpAny_typeOf_ref (k _ _ he3) (by rw [hz3.1]; exact q)
        have LM := PySem.W.exm_one (M := model X.prog X.w) (J3.kIn) LT hb1
        refine test hc (LM.here ?_)
        cases b with
        | true =>
          refine codeAny_handlers_suite_as ?_
          refine HandSPX.lands_againZ fl3 fun h4 fl4 up4 => ?_
          have J4 : Inv X pins σ' H' { s' with heap := h4 } := J.landed nb fl4.1 ((up.trans up3).trans up4) os ag
          obtain ⟨oe4, vs4, he4, hz4, hd4⟩ := fl4.there
          have S4 := J4.suite he4 hd4 na nL nF
          refine store_ok (X := X.suite a ((a, oe4) :: (X.pn ++ pins))) (v := .ref a) S4 hN hi hloc rfl (fun s5 S5 => ?_) (.inr hln)
          refine wpAny_mono ((hsu a oe4 cls d (X.pn ++ pins) hz4 ⟨_, hd4⟩).run [] s5 _ H' _ S5 (hyes rfl a na)) (fun f s6 hsp => ?_) (fun _ _ z => False.elim z)
          have end_ : ∀ {σ6 : St} {H6 : Hp} {Q : Shared → Prop}, Inv (X.suite a ((a, oe4) :: (X.pn ++ pins))) [] σ6 H6 s6 → (∀ s7, Inv X pins (σ6.set i none) H6 s7 → Q s7) →
              wpAny (model X.prog X.w) X.A (do bindName X.env n .none; unbindBehindTheSuite X.env n pos') (fun _ s7 => Q s7) X.xe s6 := fun {σ6 H6 Q} S6 hq => gone_ok (S6.unsuite ok) hN hi hln hq
          cases f with
          | next =>
            obtain ⟨σ6, H6, S6, q6⟩ := hsp
            exact end_ S6 fun s7 J7 => ⟨_, _, J7, q6⟩
          | brk =>
            obtain ⟨σ6, H6, S6, q6⟩ := hsp
            exact end_ S6 fun s7 J7 => ⟨_, _, J7, q6⟩
          | cont =>
            obtain ⟨σ6, H6, S6, q6⟩ := hsp
            exact end_ S6 fun s7 J7 => ⟨_, _, J7, q6⟩
          | ret u =>
            obtain ⟨v6, σ6, H6, S6, r6, q6⟩ := hsp
            exact end_ S6 fun s7 J7 => ⟨_, _, _, J7, r6, q6⟩
        | false =>
          show wpAny _ X.A (handleBy (.ref a) X.env hds2) _ _ _
          exact ih (hno rfl)
    exact go hh w
  · cases f with
    | next =>
      obtain ⟨σ', H', J', q⟩ := hsp
      exact wpAny_execs_nil ⟨σ', H', J'.ofTry ok, q⟩
    | brk =>
      obtain ⟨σ', H', J', q⟩ := hsp
      exact ⟨σ', H', J'.ofTry ok, q⟩
    | cont =>
      obtain ⟨σ', H', J', q⟩ := hsp
      exact ⟨σ', H', J'.ofTry ok, q⟩
    | ret u =>
      obtain ⟨v, σ', H', J', r, q⟩ := hsp
      exact ⟨v, σ', H', J'.ofTry ok, r, q⟩
end
end L2

namespace Zm
open PySem L2 PySem.Spec PyProof.Rows
def sIn (io : Option Nat) (a dd : Addr) (f : Str) (d : D) (ms : MS) : MS := match io with
  | none => ms
  | some i => { ms with s := ms.s.set i (some (.exc a dd f d)) }
def sOut (io : Option Nat) (ms : MS) : MS := match io with
  | none => ms
  | some i => { ms with s := ms.s.set i none }
/-- a suite's function, by the exception's address and its dict's -/
abbrev MSu := Addr → Addr → MB
open Classical in
noncomputable def mSuite (io : Option Nat) (f : Str) (S : MSu) (d : D) : MB := fun ms =>
  if h : ∃ r : Out × MS, ∀ a dd, ∃ ms2, S a dd (sIn io a dd f d ms) = some (r.1, ms2) ∧ sOut io ms2 = r.2 then some (Classical.choose h) else none
theorem mSuite_eq {io : Option Nat} {f : Str} {S : MSu} {d : D} {ms ms' : MS} {o : Out} (h : ∀ a dd, ∃ ms2, S a dd (sIn io a dd f d ms) = some (o, ms2) ∧ sOut io ms2 = ms') : mSuite io f S d ms = some (o, ms') := by
  have ex : ∃ r : Out × MS, ∀ a dd, ∃ ms2, S a dd (sIn io a dd f d ms) = some (r.1, ms2) ∧ sOut io ms2 = r.2 := ⟨(o, ms'), h⟩
  unfold mSuite
  rw [dif_pos ex]
  obtain ⟨m2, e1, e2⟩ := Classical.choose_spec ex default default
  obtain ⟨m3, e3, e4⟩ := h default default
  rw [e1] at e3
  cases e3
  exact congrArg some (Prod.ext rfl (e2.symm.trans e4))
theorem mSuite_some {io : Option Nat} {f : Str} {S : MSu} {d : D} {ms ms' : MS} {o : Out} (e : mSuite io f S d ms = some (o, ms')) : ∀ a dd, ∃ ms2, S a dd (sIn io a dd f d ms) = some (o, ms2) ∧ sOut io ms2 = ms' := by
  unfold mSuite at e
  split at e
  · rename_i h
    have q := Classical.choose_spec h
    cases e1 : Classical.choose h with
    | mk o1 m1 =>
      rw [e1] at e q
      cases e
      exact q
  · cases e
structure MHd where
  hn : Str
  io : Option Nat
  S : MSu
noncomputable def mHds (sub : Str → Str → Option Bool) (fld : Str → Str) : List MHd → Str → D → MB
  | [], _, _, _ => none
  | c :: r, cn, d, ms => match sub cn c.hn with
    | some true => mSuite c.io (fld cn) c.S d ms
    | some false => mHds sub fld r cn d ms
    | none => none
noncomputable def mTry (sub : Str → Str → Option Bool) (fld : Str → Str) (b : MB) (z : MX) (l : List MHd) : MB := fun ms => (b ms).orElse fun _ => (z ms).bind fun r => mHds sub fld l r.1 r.2.1 r.2.2
inductive HdsZ (X : Cx) (τ : XTab) (sub : Str → Str → Option Bool) : List ExceptHandler → List MHd → Prop
  | nil : HdsZ X τ sub [] []
  | bare {x : Str} {S : MSu} {b₀ : Stmt} {suite : List Stmt} {np pos' : Pos} {hds : List ExceptHandler} {l : List MHd} (hc : Names X x (.ref (τ.cls x))) (hx : ∀ cn b, sub cn x = some b → PySem.W.exmOne X.K (.ref (τ.cls cn)) (.ref (τ.cls x)) = some b)
      (hsu : ∀ (a : Addr) (oe : Obj) (cn : Str) (dd : Addr) (pn : List (Addr × Obj)), sub cn x = some true → Zc (.ref (τ.cls cn)) (some dd) oe → (∃ vs, oe.data = .fields vs) → BVs (X.suite a ((a, oe) :: pn)) (b₀ :: suite) (S a dd)) (r : HdsZ X τ sub hds l) :
      HdsZ X τ sub (.ExceptHandler (some (.Name x np)) none (b₀ :: suite) pos' :: hds) (⟨x, none, S⟩ :: l)
  | as {x n : Str} {i : Nat} {S : MSu} {b₀ : Stmt} {suite : List Stmt} {np pos' : Pos} {hds : List ExceptHandler} {l : List MHd} (hc : Names X x (.ref (τ.cls x))) (hx : ∀ cn b, sub cn x = some b → PySem.W.exmOne X.K (.ref (τ.cls cn)) (.ref (τ.cls x)) = some b)
      (hi : X.N[i]? = some n) (hln : X.env.kindOf n = some .local)
      (hsu : ∀ (a : Addr) (oe : Obj) (cn : Str) (dd : Addr) (pn : List (Addr × Obj)), sub cn x = some true → Zc (.ref (τ.cls cn)) (some dd) oe → (∃ vs, oe.data = .fields vs) → BVs (X.suite a ((a, oe) :: pn)) (b₀ :: suite) (S a dd)) (r : HdsZ X τ sub hds l) :
      HdsZ X τ sub (.ExceptHandler (some (.Name x np)) (some n) (b₀ :: suite) pos' :: hds) (⟨x, some i, S⟩ :: l)
section
variable {X : Cx} {τ : XTab} {sub : Str → Str → Option Bool}
def tsOf (K : PySem.W.Frag) (τ : XTab) (sub : Str → Str → Option Bool) (x : Str) (S : MSu) : Addr → Value → Option Addr → TS := fun a cls d D σ H => ∃ cn dd, cls = .ref (τ.cls cn) ∧ d = some dd ∧ sub cn x = some true ∧ rdB K (S a dd) D σ H
def hdOf (K : PySem.W.Frag) (τ : XTab) (sub : Str → Str → Option Bool) (c : MHd) : Hd := (.ref (τ.cls c.hn), c.io, tsOf K τ sub c.hn c.S)
theorem hds_mix {hds : List ExceptHandler} {l : List MHd} (h : HdsZ X τ sub hds l) : HdsMix X hds (l.map (hdOf X.K τ sub)) := by
  induction h with
  | nil => exact .nil
  | bare hc hx hsu r ih =>
    refine .bare hc (fun a oe cls d pn hz hf => ⟨fun pins s σ H D I q => ?_⟩) ih
    obtain ⟨cn, dd, rfl, rfl, hs, q⟩ := q
    exact (hsu a oe cn dd pn hs hz hf).run pins s σ H D I q
  | as hc hx hi hln hsu r ih =>
    refine .as hc hi hln (fun a oe cls d pn hz hf => ⟨fun pins s σ H D I q => ?_⟩) ih
    obtain ⟨cn, dd, rfl, rfl, hs, q⟩ := q
    exact (hsu a oe cn dd pn hs hz hf).run pins s σ H D I q
theorem Slots.unset {K : PySem.W.Frag} {ρ : Rho} {H : Hp} {l : List (Option D)} {σ : L2.St} (S : Slots K ρ H l σ) (i : Nat) : Slots K ρ H (l.set i none) (σ.set i none) := by
  refine ⟨by simp [S.1], fun j d h => ?_⟩
  by_cases hj : i = j
  · subst hj
    by_cases hl : i < l.length
    · rw [List.getElem?_set_self hl] at h; cases h
    · rw [List.getElem?_eq_none (by simpa using Nat.le_of_not_lt hl)] at h; cases h
  · rw [List.getElem?_set_ne hj] at h
    obtain ⟨w, h1, h2⟩ := S.2 j d h
    exact ⟨w, by rw [List.getElem?_set_ne hj]; exact h1, h2⟩
theorem ends_as {K : PySem.W.Frag} {ρ : Rho} {H : Hp} {D : Ends} {io : Option Nat} {ms2 : MS} {o : Out} (h : endsOf K ρ H D (sOut io ms2).s o) : endsOf K ρ H (endsAs io D) ms2.s o := by
  cases io with
  | none => exact h
  | some i =>
    cases o with
    | nx => exact fun σ' S => h _ (S.unset i)
    | ret d => exact h
    | bk => exact fun σ' S => h _ (S.unset i)
    | ct => exact fun σ' S => h _ (S.unset i)
theorem sOut_h {io : Option Nat} {ms : MS} : (sOut io ms).h = ms.h := by cases io <;> rfl
theorem mix_of {fld : Str → Str} (hfld : τ.fld = fld) {hds : List ExceptHandler} {l : List MHd} (h : HdsZ X τ sub hds l) {cn : Str} {d : D} {ms ms' : MS} {o : Out} (e : mHds sub fld l cn d ms = some (o, ms')) {ρ : Rho} {H : Hp} {σ : L2.St} {dd : Addr} {v : V} {D : Ends} {Wout : WX}
    (R : Rel X.K ρ ms.h H) (S : Slots X.K ρ H ms.s σ) (hd : H dd = some (.xd [(τ.fld cn, v)])) (nd : dd ∉ ρ) (dv : Den X.K ρ H v d) (q : ∀ H' ρ', Fut ρ H ρ' H' → Rel X.K ρ' ms'.h H' → endsOf X.K ρ' H' D ms'.s o) :
    wMix X.K Wout D (l.map (hdOf X.K τ sub)) (.ref (τ.cls cn)) (some dd) σ H := by
  subst hfld
  have go : ∀ (c : MHd), mSuite c.io (τ.fld cn) c.S d ms = some (o, ms') → sub cn c.hn = some true → ∀ a, H a = none → tsOf X.K τ sub c.hn c.S a (.ref (τ.cls cn)) (some dd) (endsAs c.io D) (stAs c.io a σ) H := fun c e hs a ha => by
    obtain ⟨ms2, e1, e2⟩ := mSuite_some e a dd
    refine ⟨cn, dd, rfl, rfl, hs, ρ, _, o, ms2, ?_, ?_, e1, fun H' ρ' F' R' => ?_⟩
    · have : (sIn c.io a dd (τ.fld cn) d ms).h = ms.h := by unfold sIn; split <;> rfl
      rw [this]; exact R
    · unfold sIn stAs
      cases c.io with
      | none => exact S
      | some i => exact S.set i (.exc hd nd dv)
    · rw [← e2] at q
      exact ends_as (q H' ρ' F' (by rw [sOut_h]; exact R'))
  induction h with
  | nil => cases e
  | @bare x S0 b₀ suite np pos' hds2 l2 hc hx hsu r ih =>
    cases hs : sub cn x with
    | none => simp only [mHds, hs] at e; cases e
    | some b =>
      refine ⟨b, hx _ _ hs, fun hb => ?_, fun hb => ?_⟩
      · subst hb
        exact go ⟨x, none, S0⟩ (by simpa only [mHds, hs] using e) hs
      · subst hb
        exact ih (by simpa only [mHds, hs] using e)
  | @as x n i S0 b₀ suite np pos' hds2 l2 hc hx hi hln hsu r ih =>
    cases hs : sub cn x with
    | none => simp only [mHds, hs] at e; cases e
    | some b =>
      refine ⟨b, hx _ _ hs, fun hb => ?_, fun hb => ?_⟩
      · subst hb
        exact go ⟨x, some i, S0⟩ (by simpa only [mHds, hs] using e) hs
      · subst hb
        exact ih (by simpa only [mHds, hs] using e)
theorem bv_try {fld : Str → Str} (hfld : τ.fld = fld) {body : List Stmt} {h₀ : ExceptHandler} {hds : List ExceptHandler} {l : List MHd} {pos : Pos} {b : MB} {z : MX} (hs : X.stack = X.env :: X.outer) (hf : X.env.frame = some X.env.locals) (hN : X.N.Nodup)
    (hb : ∀ (W : WX) (pn : List (Addr × Obj)) (xe : Value → Shared → Prop), Takes (X.tr pn xe) W → PassesOwn (model X.prog X.w) X.A X.env xe → BVs (X.tr pn xe) body b ∧ XBs (X.tr pn xe) τ W body z)
    (hh : HdsZ X τ sub (h₀ :: hds) l) : BV X (.Try body (h₀ :: hds) [] [] pos) (mTry sub fld b z l) := by
  refine ps_w (ps_try_mix (Wout := fun _ _ _ _ => False) (tb := fun W D σ H => rdB X.K b D σ H ∨ rdX X.K τ W z σ H) hs hf hN takes_none5 (fun W pn xe tk hp => ?_) (hds_mix hh)) fun D σ H h => ?_
  · obtain ⟨h1, h2⟩ := hb W pn xe tk hp
    exact pss_or h1 h2
  · obtain ⟨ρ, ms, o, ms', R, S, e, q⟩ := h
    unfold mTry at e
    cases eb : b ms with
    | some r => rw [eb] at e; cases e; exact .inl ⟨ρ, ms, o, ms', R, S, eb, q⟩
    | none =>
      rw [eb] at e
      obtain ⟨r, e1, e2⟩ := Option.bind_eq_some_iff.mp (show ((z ms).bind _) = some _ from e)
      obtain ⟨cn, d, m1⟩ := r
      refine .inr ⟨ρ, ms, cn, d, m1, R, S, e1, fun v dd H1 ρ1 σ1 F1 R1 S1 dv hd => ?_⟩
      have Fn : Fut ρ1 H1 ρ1 (upd H1 dd (.xd [(τ.fld cn, v)])) := fut_new _ hd
      exact mix_of hfld hh e2 (R1.new _ hd) (S1.fut Fn) upd_same (R1.out hd) (dv.fut Fn) fun H' ρ' F' R' => q H' ρ' (F1.trans (Fn.trans F')) R'
/-- e.fld in the suite -/
def mExcF (a dd : Addr) (fld : Str) (f : ME) : ME := fun ms => (f ms).bind fun r => match r.1 with
  | .exc a' dd' g d => bif decide (a' = a) && decide (dd' = dd) && decide (g = fld) then some (d, r.2) else none
  | _ => none
structure XAt (K : PySem.W.Frag) (C : Addr) : Prop where
  ga : PySem.W.findIn K (.ref C) "__getattribute__" = some (some (.builtin "BaseException.__getattribute__"))
  gg : PySem.W.findIn K (.ref C) "__getattr__" = some none
  hdC : PySem.W.hasDictIn K C = true
theorem ev_excF {cn fld : Str} {a dd : Addr} {oe : Obj} {pn : List (Addr × Obj)} {e : Expr} {f : ME} {pos : Pos} (O : XCls X.prog X.K X.mg τ cn) (At : XAt X.K (τ.cls cn)) (hfl : τ.fld cn = fld) (hz : Zc (.ref (τ.cls cn)) (some dd) oe) (hf : ∃ vs, oe.data = .fields vs) (he : EV (X.suite a ((a, oe) :: pn)) e f)
    (hb : attributeBase e fld X.env (eval e X.env) = eval e X.env := by first | rfl | (with_unfolding_all rfl)) : EV (X.suite a ((a, oe) :: pn)) (.Attribute e fld pos) (mExcF a dd fld f) := by
  subst hfl
  obtain ⟨fI, T⟩ := O.ex
  refine pe_w (pe_bySup (X := X) (d := some dd) T At.ga At.gg O.exC At.hdC hz hf he hb) fun σ H Q h => ?_
  obtain ⟨ρ, ms, d, h', R, S, e0, q⟩ := h
  obtain ⟨⟨d1, h1⟩, e1, e2⟩ := Option.bind_eq_some_iff.mp e0
  refine ⟨ρ, ms, d1, h1, R, S, e1, fun v H1 ρ1 F1 R1 dn => ?_⟩
  cases dn with
  | @exc a' dd' g v' d' hd nd dv =>
    obtain ⟨c, e3⟩ := bif_some (show (bif decide (a' = a) && decide (dd' = dd) && decide (g = τ.fld cn) then some (d', h1) else none) = some (d, h') from e2)
    simp only [Bool.and_eq_true, decide_eq_true_eq] at c
    obtain ⟨⟨rfl, rfl⟩, rfl⟩ := c
    cases e3
    exact ⟨rfl, rfl, dd', v', rfl, hd, q _ H1 ρ1 F1 R1 dv⟩
  | _ => cases e2
end
end Zm

set_option Elab.async false
set_option linter.all false
set_option maxRecDepth 100000
set_option maxHeartbeats 4000000
namespace Law
open PySem L2 Zm
def top (i : Nat) : Stmt := PySem.Challenge.pw_classprimes_k09_whole_composed_by_united.main.body.getD i (.Pass ⟨0, 0, 0, 0⟩)
structure Blt (mg : Str → Option Value) : Prop where
  b_abs : mg "abs" = none
  b_all : mg "all" = none
  b_bool : mg "bool" = none
  b_divmod : mg "divmod" = none
  b_int : mg "int" = none
  b_isinstance : mg "isinstance" = none
  b_len : mg "len" = none
  b_max : mg "max" = none
  b_min : mg "min" = none
  b_range : mg "range" = none
  b_repr : mg "repr" = none
  b_sum : mg "sum" = none
  b_tuple : mg "tuple" = none
  g_gcd : mg "gcd" = some (.builtin "math.gcd")
theorem bt_abs : bootBuiltins "abs" = some (.builtin "abs") := by decide +kernel
theorem bt_all : bootBuiltins "all" = some (.builtin "all") := by decide +kernel
theorem bt_bool : bootBuiltins "bool" = some (.type "bool") := by decide +kernel
theorem bt_divmod : bootBuiltins "divmod" = some (.builtin "divmod") := by decide +kernel
theorem bt_int : bootBuiltins "int" = some (.type "int") := by decide +kernel
theorem bt_isinstance : bootBuiltins "isinstance" = some (.builtin "isinstance") := by decide +kernel
theorem bt_len : bootBuiltins "len" = some (.builtin "len") := by decide +kernel
theorem bt_max : bootBuiltins "max" = some (.builtin "max") := by decide +kernel
theorem bt_min : bootBuiltins "min" = some (.builtin "min") := by decide +kernel
theorem bt_range : bootBuiltins "range" = some (.type "range") := by decide +kernel
theorem bt_repr : bootBuiltins "repr" = some (.builtin "repr") := by decide +kernel
theorem bt_sum : bootBuiltins "sum" = some (.builtin "sum") := by decide +kernel
theorem bt_tuple : bootBuiltins "tuple" = some (.type "tuple") := by decide +kernel
def fldX : Str → Str := fun _ => "given"
def xsX : List Str := ["OtherDiscriminant"]
def hsX : List Str := ["OtherDiscriminant"]
def isX (cn : Str) : Bool := xsX.contains cn
def isH (cn : Str) : Bool := hsX.contains cn
def subX (cn hn : Str) : Option Bool := bif isX cn && isH hn then some (decide (hn = "ClassError") || decide (hn = cn)) else none
theorem isH_of {cn hn : Str} {b : Bool} (h : subX cn hn = some b) : isH hn = true := by
  unfold subX at h
  cases c : isX cn && isH hn with
  | false => rw [c] at h; cases h
  | true => exact (Bool.and_eq_true _ _ ▸ c).2
theorem isX_of {cn hn : Str} {b : Bool} (h : subX cn hn = some b) : isX cn = true := by
  unfold subX at h
  cases c : isX cn && isH hn with
  | false => rw [c] at h; cases h
  | true => exact (Bool.and_eq_true _ _ ▸ c).1
abbrev tau (cls : Str → Addr) : XTab := ⟨cls, fldX⟩
structure XFacts (P : Program) (K : PySem.W.Frag) (mg : Str → Option Value) (cls : Str → Addr) : Prop where
  O : ∀ cn, isX cn = true → XCls P K mg (tau cls) cn
  At : ∀ cn, isX cn = true → XAt K (cls cn)
  M : ∀ cn hn b, subX cn hn = some b → PySem.W.exmOne K (.ref (cls cn)) (.ref (cls hn)) = some b
  g : ∀ hn, isH hn = true → mg hn = some (.ref (cls hn))
theorem hu {k : Nat} {A : Around} (h : RoomG k A) : A.units + 64 < cLine := h.r.units
theorem huS {k : Nat} {A : Around} {v : Option Value} (h : RoomG k A) : (A.mark v).units + 64 < cLine := (show A.units + 64 < cLine from hu h)
theorem hgS {k : Nat} {A : Around} {v : Option Value} (h : RoomG k A) : (A.mark v).guards = some [] := h.g
theorem hu65S {k : Nat} {A : Around} {v : Option Value} (h : RoomG k A) : (A.mark v).units + 65 < cLine := by have := h.r.un; exact (by omega : A.units + 65 < cLine)
theorem hu1 {A : Around} (h : A.units + 64 < cLine) : A.units + 1 < cLine := by omega
theorem hu65 {k : Nat} {A : Around} (h : RoomG k A) : A.units + 65 < cLine := by have := h.r.un; omega
section
variable {P : Program} {w : World} {K : PySem.W.Frag} {mg : Str → Option Value} {base : Heap} {cls : Str → Addr}
abbrev s_is_whole : Stmt := top 2
abbrev N_is_whole : List Str := ["value"]
theorem sc_is_whole : FnScope ["value"] ["value"] (defScope s_is_whole) := ⟨rfl, rfl, rfl, by decide +kernel, rfl, by decide +kernel, by decide +kernel⟩
def b_is_whole : MB :=
    (mRet (mAndV (mCB oIsi (mCons (mVar 0) (mCons (mC (.ty "int")) mNil))) (mNotV (mCB oIsi (mCons (mVar 0) (mCons (mC (.ty "bool")) mNil))))))
def F_is_whole : MF := mFun 1 1 b_is_whole
theorem ok_is_whole (B : Blt mg) {f : Addr} {fd : FuncData} (F : Fun K "is_whole" "is_whole" s_is_whole f fd) : FnG P w K mg base CX0 1 f fd ["value"] (spF K 1 F_is_whole) :=
  (fn_ok (b := b_is_whole) F sc_is_whole rfl rfl fun cdv A outer s H E hr =>
    (bvs_one (bv_ret (ev_and (ev_callB call_isi c_isi B.b_isinstance bt_isinstance (av_cons (ev_var 0) (av_cons (ev_ty B.b_int bt_int) av_nil))) (ev_one (ev_not (ev_callB call_isi c_isi B.b_isinstance bt_isinstance (av_cons (ev_var 0) (av_cons (ev_ty B.b_bool bt_bool) av_nil)))))))))
abbrev s_are_whole : Stmt := top 4
abbrev N_are_whole : List Str := ["value", "count", "part"]
theorem sc_are_whole : FnScope ["value", "count", "part"] ["value", "count"] (defScope s_are_whole) := ⟨rfl, rfl, rfl, by decide +kernel, rfl, by decide +kernel, by decide +kernel⟩
def b_are_whole : MB :=
    (mRet (mAndV (mCB oIsi (mCons (mVar 0) (mCons (mC (.ty "tuple")) mNil))) (mAndV (mBin (oB oEq) (mCB oLen (mCons (mVar 0) mNil)) (mVar 1)) (mCB oAll (mCons (mComp (iS (mVar 0)) (gN 2) mYes (mCall 1 F_is_whole (mCons (mVar 2) mNil)) [2]) mNil)))))
def F_are_whole : MF := mFun 3 2 b_are_whole
theorem ok_are_whole (B : Blt mg) {f : Addr} {fd : FuncData} (F : Fun K "are_whole" "are_whole" s_are_whole f fd) (d_is_whole : Knows P w K mg base 1 "is_whole" 1 F_is_whole) : FnG P w K mg base CX0 2 f fd ["value", "count"] (spF K 2 F_are_whole) :=
  (fn_ok (b := b_are_whole) F sc_are_whole rfl rfl fun cdv A outer s H E hr =>
    (bvs_one (bv_ret (ev_and (ev_callB call_isi c_isi B.b_isinstance bt_isinstance (av_cons (ev_var 0) (av_cons (ev_ty B.b_tuple bt_tuple) av_nil))) (ev_and (ev_cmp (or_eq (hu hr)) p_eq (ev_callB call_len c_len B.b_len bt_len (av_cons (ev_var 0) av_nil)) (ev_var 1) (nomark _)) (ev_one (ev_callB (cr_all rfl) c_all B.b_all bt_all (av_cons (ev_lc rfl sc_are_whole.nd (iv_seq (ev_var 0)) (tg_name (by decide)) (blkOk_by (own := [("part", 2)]) (N := N_are_whole) (sc := defScope s_are_whole) (by decide +kernel)) rfl (fun _ _ _ _ _ => pg_name (i := 2) sc_are_whole.nd rfl (Or.inl rfl)) (fun _ _ _ _ _ => tvs_nil) (fun _ _ _ _ _ => (ev_def d_is_whole (hr.mono (by decide)) (av_cons (ev_var 2) av_nil)))) av_nil))))))))
abbrev s_is_whole_between : Stmt := top 3
abbrev N_is_whole_between : List Str := ["value", "low", "high"]
theorem sc_is_whole_between : FnScope ["value", "low", "high"] ["value", "low", "high"] (defScope s_is_whole_between) := ⟨rfl, rfl, rfl, by decide +kernel, rfl, by decide +kernel, by decide +kernel⟩
def b_is_whole_between : MB :=
    (mRet (mAndV (mCall 1 F_is_whole (mCons (mVar 0) mNil)) (mChain cLe cLe (mVar 1) (mVar 0) (mVar 2))))
def F_is_whole_between : MF := mFun 3 3 b_is_whole_between
theorem ok_is_whole_between (B : Blt mg) {f : Addr} {fd : FuncData} (F : Fun K "is_whole_between" "is_whole_between" s_is_whole_between f fd) (d_is_whole : Knows P w K mg base 1 "is_whole" 1 F_is_whole) : FnG P w K mg base CX0 2 f fd ["value", "low", "high"] (spF K 3 F_is_whole_between) :=
  (fn_ok (b := b_is_whole_between) F sc_is_whole_between rfl rfl fun cdv A outer s H E hr =>
    (bvs_one (bv_ret (ev_and (ev_def d_is_whole (hr.mono (by decide)) (av_cons (ev_var 0) av_nil)) (ev_one (ev_chain op_le (p_cI (p := fun i j => decide (i ≤ j))) op_le (p_cI (p := fun i j => decide (i ≤ j))) (ev_var 1) (ev_var 0) (ev_var 2)))))))
abbrev s_is_discriminant : Stmt := top 11
abbrev N_is_discriminant : List Str := ["value"]
theorem sc_is_discriminant : FnScope ["value"] ["value"] (defScope s_is_discriminant) := ⟨rfl, rfl, rfl, by decide +kernel, rfl, by decide +kernel, by decide +kernel⟩
def b_is_discriminant : MB :=
    (mRet (mAndV (mCall 3 F_is_whole_between (mCons (mVar 0) (mCons (mUn oNeg (mC (.int 400))) (mCons (mUn oNeg (mC (.int 3))) mNil)))) (mBin (oB (oIn false)) (mBin oMod (mVar 0) (mC (.int 4))) (mTup (mCons (mC (.int 0)) (mCons (mC (.int 1)) mNil))))))
def F_is_discriminant : MF := mFun 1 1 b_is_discriminant
theorem ok_is_discriminant (B : Blt mg) {f : Addr} {fd : FuncData} (F : Fun K "is_discriminant" "is_discriminant" s_is_discriminant f fd) (d_is_whole_between : Knows P w K mg base 2 "is_whole_between" 3 F_is_whole_between) : FnG P w K mg base CX0 3 f fd ["value"] (spF K 1 F_is_discriminant) :=
  (fn_ok (b := b_is_discriminant) F sc_is_discriminant rfl rfl fun cdv A outer s H E hr =>
    (bvs_one (bv_ret (ev_and (ev_def d_is_whole_between (hr.mono (by decide)) (av_cons (ev_var 0) (av_cons (ev_un un_neg p_neg ev_int) (av_cons (ev_un un_neg p_neg ev_int) av_nil)))) (ev_one (ev_cmp (op_inP (hu65 hr)) (p_in (neg := false)) (ev_bin op_mod p_mod (ev_var 0) ev_int) (ev_tup (av_cons ev_int (av_cons ev_int av_nil))) (by with_unfolding_all rfl)))))))
abbrev s_is_form : Stmt := top 13
abbrev N_is_form : List Str := ["value", "a", "b", "c"]
theorem sc_is_form : FnScope ["value", "a", "b", "c"] ["value"] (defScope s_is_form) := ⟨rfl, rfl, rfl, by decide +kernel, rfl, by decide +kernel, by decide +kernel⟩
def b_is_form : MB :=
    (mSeq (mIfS (mNot (mTru (mCall 2 F_are_whole (mCons (mVar 0) (mCons (mC (.int 3)) mNil))))) (mRet (mC (.bl false))) mNx)
    (mSeq (mAsg (mVar 0) (gT 3 (gsCons (gN 1) (gsCons (gN 2) (gsCons (gN 3) gsNil)))))
    (mRet (mAndV (mBin (oB cGt) (mVar 1) (mC (.int 0))) (mAndV (mBin (oB oEq) (mCB oGcd3 (mCons (mVar 1) (mCons (mVar 2) (mCons (mVar 3) mNil)))) (mC (.int 1))) (mCall 1 F_is_discriminant (mCons (mBin oSub (mBin oMulA (mVar 2) (mVar 2)) (mBin oMulA (mBin oMulA (mC (.int 4)) (mVar 1)) (mVar 3))) mNil)))))))
def F_is_form : MF := mFun 4 1 b_is_form
theorem ok_is_form (B : Blt mg) {f : Addr} {fd : FuncData} (F : Fun K "is_form" "is_form" s_is_form f fd) (d_are_whole : Knows P w K mg base 2 "are_whole" 2 F_are_whole) (d_is_discriminant : Knows P w K mg base 3 "is_discriminant" 1 F_is_discriminant) : FnG P w K mg base CX0 4 f fd ["value"] (spF K 1 F_is_form) :=
  (fn_ok (b := b_is_form) F sc_is_form rfl rfl fun cdv A outer s H E hr =>
    (bvs_cons (bv_if (tv_not (tv_val (ev_def d_are_whole (hr.mono (by decide)) (av_cons (ev_var 0) (av_cons ev_int av_nil))))) (bvs_one (bv_ret ev_bl)) bvs_nil)
    (bvs_cons (bv_asg (ev_var 0) (gv_tup rfl (gvs_cons (gv_name 1 sc_is_form.nd) (gvs_cons (gv_name 2 sc_is_form.nd) (gvs_cons (gv_name 3 sc_is_form.nd) gvs_nil)))))
    (bvs_one (bv_ret (ev_and (ev_cmp op_gt (p_cI (p := fun i j => decide (j < i))) (ev_var 1) ev_int (nomark _)) (ev_and (ev_cmp (or_eq (hu hr)) p_eq (ev_callF cr_gcd3 c_gcd3 B.g_gcd (av_cons (ev_var 1) (av_cons (ev_var 2) (av_cons (ev_var 3) av_nil)))) ev_int (nomark _)) (ev_one (ev_def d_is_discriminant (hr.mono (by decide)) (av_cons (ev_bin op_sub p_sub (ev_bin or_mul p_mulA (ev_var 2) (ev_var 2)) (ev_bin or_mul p_mulA (ev_bin or_mul p_mulA ev_int (ev_var 1)) (ev_var 3))) av_nil))))))))))
abbrev s_check_form : Stmt := top 14
abbrev N_check_form : List Str := ["form"]
theorem sc_check_form : FnScope ["form"] ["form"] (defScope s_check_form) := ⟨rfl, rfl, rfl, by decide +kernel, rfl, by decide +kernel, by decide +kernel⟩
def b_check_form : MB :=
    (mIfS (mNot (mTru (mCall 1 F_is_form (mCons (mVar 0) mNil)))) mNev mNx)
def F_check_form : MF := mFun 1 1 b_check_form
theorem ok_check_form (B : Blt mg) {f : Addr} {fd : FuncData} (F : Fun K "check_form" "check_form" s_check_form f fd) (d_is_form : Knows P w K mg base 4 "is_form" 1 F_is_form) : FnG P w K mg base CX0 5 f fd ["form"] (spF K 1 F_check_form) :=
  (fn_ok (b := b_check_form) F sc_check_form rfl rfl fun cdv A outer s H E hr =>
    (bvs_one (bv_if (tv_not (tv_val (ev_def d_is_form (hr.mono (by decide)) (av_cons (ev_var 0) av_nil)))) (bvs_one bv_never) bvs_nil)))
abbrev s_centring : Stmt := top 23
abbrev N_centring : List Str := ["form", "a", "b", "_"]
theorem sc_centring : FnScope ["form", "a", "b", "_"] ["form"] (defScope s_centring) := ⟨rfl, rfl, rfl, by decide +kernel, rfl, by decide +kernel, by decide +kernel⟩
def b_centring : MB :=
    (mSeq (mAsg (mVar 0) (gT 3 (gsCons (gN 1) (gsCons (gN 2) (gsCons (gN 3) gsNil)))))
    (mRet (mTup (mCons (mC (.int 1)) (mCons (mBin oDiv (mBin oSub (mVar 1) (mVar 2)) (mBin oMulA (mC (.int 2)) (mVar 1))) (mCons (mC (.int 0)) (mCons (mC (.int 1)) mNil)))))))
def F_centring : MF := mFun 4 1 b_centring
theorem ok_centring (B : Blt mg) {f : Addr} {fd : FuncData} (F : Fun K "centring" "centring" s_centring f fd) : FnG P w K mg base CX0 1 f fd ["form"] (spF K 1 F_centring) :=
  (fn_ok (b := b_centring) F sc_centring rfl rfl fun cdv A outer s H E hr =>
    (bvs_cons (bv_asg (ev_var 0) (gv_tup rfl (gvs_cons (gv_name 1 sc_centring.nd) (gvs_cons (gv_name 2 sc_centring.nd) (gvs_cons (gv_name 3 sc_centring.nd) gvs_nil)))))
    (bvs_one (bv_ret (ev_tup (av_cons ev_int (av_cons (ev_bin op_fdivW p_div (ev_bin op_sub p_sub (ev_var 1) (ev_var 2)) (ev_bin or_mul p_mulA ev_int (ev_var 1))) (av_cons ev_int (av_cons ev_int av_nil)))))))))
abbrev s_value_at : Stmt := top 16
abbrev N_value_at : List Str := ["form", "x", "y", "a", "b", "c"]
theorem sc_value_at : FnScope ["form", "x", "y", "a", "b", "c"] ["form", "x", "y"] (defScope s_value_at) := ⟨rfl, rfl, rfl, by decide +kernel, rfl, by decide +kernel, by decide +kernel⟩
def b_value_at : MB :=
    (mSeq (mAsg (mVar 0) (gT 3 (gsCons (gN 3) (gsCons (gN 4) (gsCons (gN 5) gsNil)))))
    (mRet (mBin oAdd (mBin oAdd (mBin oMulA (mBin oMulA (mVar 3) (mVar 1)) (mVar 1)) (mBin oMulA (mBin oMulA (mVar 4) (mVar 1)) (mVar 2))) (mBin oMulA (mBin oMulA (mVar 5) (mVar 2)) (mVar 2)))))
def F_value_at : MF := mFun 6 3 b_value_at
theorem ok_value_at (B : Blt mg) {f : Addr} {fd : FuncData} (F : Fun K "value_at" "value_at" s_value_at f fd) : FnG P w K mg base CX0 1 f fd ["form", "x", "y"] (spF K 3 F_value_at) :=
  (fn_ok (b := b_value_at) F sc_value_at rfl rfl fun cdv A outer s H E hr =>
    (bvs_cons (bv_asg (ev_var 0) (gv_tup rfl (gvs_cons (gv_name 3 sc_value_at.nd) (gvs_cons (gv_name 4 sc_value_at.nd) (gvs_cons (gv_name 5 sc_value_at.nd) gvs_nil)))))
    (bvs_one (bv_ret (ev_bin or_addAll p_add (ev_bin or_addAll p_add (ev_bin or_mul p_mulA (ev_bin or_mul p_mulA (ev_var 3) (ev_var 1)) (ev_var 1)) (ev_bin or_mul p_mulA (ev_bin or_mul p_mulA (ev_var 4) (ev_var 1)) (ev_var 2))) (ev_bin or_mul p_mulA (ev_bin or_mul p_mulA (ev_var 5) (ev_var 2)) (ev_var 2)))))))
abbrev s_led_by : Stmt := top 17
abbrev N_led_by : List Str := ["form", "change", "a", "b", "c", "p", "q", "r", "s", "middle"]
theorem sc_led_by : FnScope ["form", "change", "a", "b", "c", "p", "q", "r", "s", "middle"] ["form", "change"] (defScope s_led_by) := ⟨rfl, rfl, rfl, by decide +kernel, rfl, by decide +kernel, by decide +kernel⟩
def b_led_by : MB :=
    (mSeq (mAsg (mVar 0) (gT 3 (gsCons (gN 2) (gsCons (gN 3) (gsCons (gN 4) gsNil)))))
    (mSeq (mAsg (mVar 1) (gT 4 (gsCons (gN 5) (gsCons (gN 6) (gsCons (gN 7) (gsCons (gN 8) gsNil))))))
    (mSeq (mAsg (mBin oAdd (mBin oAdd (mBin oMulA (mBin oMulA (mBin oMulA (mC (.int 2)) (mVar 2)) (mVar 5)) (mVar 6)) (mBin oMulA (mVar 3) (mBin oAdd (mBin oMulA (mVar 5) (mVar 8)) (mBin oMulA (mVar 6) (mVar 7))))) (mBin oMulA (mBin oMulA (mBin oMulA (mC (.int 2)) (mVar 4)) (mVar 7)) (mVar 8))) (gN 9))
    (mRet (mTup (mCons (mCall 3 F_value_at (mCons (mVar 0) (mCons (mVar 5) (mCons (mVar 7) mNil)))) (mCons (mVar 9) (mCons (mCall 3 F_value_at (mCons (mVar 0) (mCons (mVar 6) (mCons (mVar 8) mNil)))) mNil))))))))
def F_led_by : MF := mFun 10 2 b_led_by
theorem ok_led_by (B : Blt mg) {f : Addr} {fd : FuncData} (F : Fun K "led_by" "led_by" s_led_by f fd) (d_value_at : Knows P w K mg base 1 "value_at" 3 F_value_at) : FnG P w K mg base CX0 2 f fd ["form", "change"] (spF K 2 F_led_by) :=
  (fn_ok (b := b_led_by) F sc_led_by rfl rfl fun cdv A outer s H E hr =>
    (bvs_cons (bv_asg (ev_var 0) (gv_tup rfl (gvs_cons (gv_name 2 sc_led_by.nd) (gvs_cons (gv_name 3 sc_led_by.nd) (gvs_cons (gv_name 4 sc_led_by.nd) gvs_nil)))))
    (bvs_cons (bv_asg (ev_var 1) (gv_tup rfl (gvs_cons (gv_name 5 sc_led_by.nd) (gvs_cons (gv_name 6 sc_led_by.nd) (gvs_cons (gv_name 7 sc_led_by.nd) (gvs_cons (gv_name 8 sc_led_by.nd) gvs_nil))))))
    (bvs_cons (bv_set 9 sc_led_by.nd (ev_bin or_addAll p_add (ev_bin or_addAll p_add (ev_bin or_mul p_mulA (ev_bin or_mul p_mulA (ev_bin or_mul p_mulA ev_int (ev_var 2)) (ev_var 5)) (ev_var 6)) (ev_bin or_mul p_mulA (ev_var 3) (ev_bin or_addAll p_add (ev_bin or_mul p_mulA (ev_var 5) (ev_var 8)) (ev_bin or_mul p_mulA (ev_var 6) (ev_var 7))))) (ev_bin or_mul p_mulA (ev_bin or_mul p_mulA (ev_bin or_mul p_mulA ev_int (ev_var 4)) (ev_var 7)) (ev_var 8))))
    (bvs_one (bv_ret (ev_tup (av_cons (ev_def d_value_at (hr.mono (by decide)) (av_cons (ev_var 0) (av_cons (ev_var 5) (av_cons (ev_var 7) av_nil)))) (av_cons (ev_var 9) (av_cons (ev_def d_value_at (hr.mono (by decide)) (av_cons (ev_var 0) (av_cons (ev_var 6) (av_cons (ev_var 8) av_nil)))) av_nil))))))))))
abbrev s_is_reduced : Stmt := top 21
abbrev N_is_reduced : List Str := ["form", "a", "b", "c"]
theorem sc_is_reduced : FnScope ["form", "a", "b", "c"] ["form"] (defScope s_is_reduced) := ⟨rfl, rfl, rfl, by decide +kernel, rfl, by decide +kernel, by decide +kernel⟩
def b_is_reduced : MB :=
    (mSeq (mAsg (mVar 0) (gT 3 (gsCons (gN 1) (gsCons (gN 2) (gsCons (gN 3) gsNil)))))
    (mRet (mAndV (mChain3 cLe cLe cLe (mUn oNeg (mVar 1)) (mVar 2) (mVar 1) (mVar 3)) (mOrV (mBin (oB cGe) (mVar 2) (mC (.int 0))) (mAndV (mBin (oB oNe) (mUn oNeg (mVar 2)) (mVar 1)) (mBin (oB oNe) (mVar 1) (mVar 3)))))))
def F_is_reduced : MF := mFun 4 1 b_is_reduced
theorem ok_is_reduced (B : Blt mg) {f : Addr} {fd : FuncData} (F : Fun K "is_reduced" "is_reduced" s_is_reduced f fd) : FnG P w K mg base CX0 1 f fd ["form"] (spF K 1 F_is_reduced) :=
  (fn_ok (b := b_is_reduced) F sc_is_reduced rfl rfl fun cdv A outer s H E hr =>
    (bvs_cons (bv_asg (ev_var 0) (gv_tup rfl (gvs_cons (gv_name 1 sc_is_reduced.nd) (gvs_cons (gv_name 2 sc_is_reduced.nd) (gvs_cons (gv_name 3 sc_is_reduced.nd) gvs_nil)))))
    (bvs_one (bv_ret (ev_and (ev_chain3 op_le (p_cI (p := fun i j => decide (i ≤ j))) op_le (p_cI (p := fun i j => decide (i ≤ j))) op_le (p_cI (p := fun i j => decide (i ≤ j))) (ev_un un_neg p_neg (ev_var 1)) (ev_var 2) (ev_var 1) (ev_var 3)) (ev_one (ev_or (ev_cmp op_ge (p_cI (p := fun i j => decide (j ≤ i))) (ev_var 2) ev_int (nomark _)) (ev_one (ev_and (ev_cmp (or_ne (hu hr)) p_ne (ev_un un_neg p_neg (ev_var 2)) (ev_var 1) (nomark _)) (ev_one (ev_cmp (or_ne (hu hr)) p_ne (ev_var 1) (ev_var 3) (nomark _))))))))))))
abbrev s_joined : Stmt := top 18
abbrev N_joined : List Str := ["change", "then", "p", "q", "r", "s", "t", "u", "v", "w"]
theorem sc_joined : FnScope ["change", "then", "p", "q", "r", "s", "t", "u", "v", "w"] ["change", "then"] (defScope s_joined) := ⟨rfl, rfl, rfl, by decide +kernel, rfl, by decide +kernel, by decide +kernel⟩
def b_joined : MB :=
    (mSeq (mAsg (mVar 0) (gT 4 (gsCons (gN 2) (gsCons (gN 3) (gsCons (gN 4) (gsCons (gN 5) gsNil))))))
    (mSeq (mAsg (mVar 1) (gT 4 (gsCons (gN 6) (gsCons (gN 7) (gsCons (gN 8) (gsCons (gN 9) gsNil))))))
    (mRet (mTup (mCons (mBin oAdd (mBin oMulA (mVar 2) (mVar 6)) (mBin oMulA (mVar 3) (mVar 8))) (mCons (mBin oAdd (mBin oMulA (mVar 2) (mVar 7)) (mBin oMulA (mVar 3) (mVar 9))) (mCons (mBin oAdd (mBin oMulA (mVar 4) (mVar 6)) (mBin oMulA (mVar 5) (mVar 8))) (mCons (mBin oAdd (mBin oMulA (mVar 4) (mVar 7)) (mBin oMulA (mVar 5) (mVar 9))) mNil))))))))
def F_joined : MF := mFun 10 2 b_joined
theorem ok_joined (B : Blt mg) {f : Addr} {fd : FuncData} (F : Fun K "joined" "joined" s_joined f fd) : FnG P w K mg base CX0 1 f fd ["change", "then"] (spF K 2 F_joined) :=
  (fn_ok (b := b_joined) F sc_joined rfl rfl fun cdv A outer s H E hr =>
    (bvs_cons (bv_asg (ev_var 0) (gv_tup rfl (gvs_cons (gv_name 2 sc_joined.nd) (gvs_cons (gv_name 3 sc_joined.nd) (gvs_cons (gv_name 4 sc_joined.nd) (gvs_cons (gv_name 5 sc_joined.nd) gvs_nil))))))
    (bvs_cons (bv_asg (ev_var 1) (gv_tup rfl (gvs_cons (gv_name 6 sc_joined.nd) (gvs_cons (gv_name 7 sc_joined.nd) (gvs_cons (gv_name 8 sc_joined.nd) (gvs_cons (gv_name 9 sc_joined.nd) gvs_nil))))))
    (bvs_one (bv_ret (ev_tup (av_cons (ev_bin or_addAll p_add (ev_bin or_mul p_mulA (ev_var 2) (ev_var 6)) (ev_bin or_mul p_mulA (ev_var 3) (ev_var 8))) (av_cons (ev_bin or_addAll p_add (ev_bin or_mul p_mulA (ev_var 2) (ev_var 7)) (ev_bin or_mul p_mulA (ev_var 3) (ev_var 9))) (av_cons (ev_bin or_addAll p_add (ev_bin or_mul p_mulA (ev_var 4) (ev_var 6)) (ev_bin or_mul p_mulA (ev_var 5) (ev_var 8))) (av_cons (ev_bin or_addAll p_add (ev_bin or_mul p_mulA (ev_var 4) (ev_var 7)) (ev_bin or_mul p_mulA (ev_var 5) (ev_var 9))) av_nil))))))))))
abbrev s_reduction : Stmt := top 22
abbrev N_reduction : List Str := ["form", "change", "small", "turn", "step"]
theorem sc_reduction : FnScope ["form", "change", "small", "turn", "step"] ["form"] (defScope s_reduction) := ⟨rfl, rfl, rfl, by decide +kernel, rfl, by decide +kernel, by decide +kernel⟩
def b_reduction : MB :=
    (mSeq (mAsg (mCall 1 F_centring (mCons (mVar 0) mNil)) (gN 1))
    (mSeq (mAsg (mCall 2 F_led_by (mCons (mVar 0) (mCons (mVar 1) mNil))) (gN 2))
    (mSeq (mAsg (mTup (mCons (mC (.int 0)) (mCons (mUn oNeg (mC (.int 1))) (mCons (mC (.int 1)) (mCons (mC (.int 0)) mNil))))) (gN 3))
    (mSeq (mWhile (fun ms => slT ms 2 0 + 2) (mNot (mTru (mCall 1 F_is_reduced (mCons (mVar 2) mNil)))) (mSeq (mAsg (mCall 2 F_joined (mCons (mVar 3) (mCons (mCall 1 F_centring (mCons (mCall 2 F_led_by (mCons (mVar 2) (mCons (mVar 3) mNil))) mNil)) mNil))) (gN 4))
    (mSeq (mAsg (mCall 2 F_led_by (mCons (mVar 2) (mCons (mVar 4) mNil))) (gN 2))
    (mAsg (mCall 2 F_joined (mCons (mVar 1) (mCons (mVar 4) mNil))) (gN 1)))))
    (mRet (mTup (mCons (mVar 2) (mCons (mVar 1) mNil))))))))
def F_reduction : MF := mFun 5 1 b_reduction
theorem ok_reduction (B : Blt mg) {f : Addr} {fd : FuncData} (F : Fun K "reduction" "reduction" s_reduction f fd) (d_centring : Knows P w K mg base 1 "centring" 1 F_centring) (d_is_reduced : Knows P w K mg base 1 "is_reduced" 1 F_is_reduced) (d_joined : Knows P w K mg base 1 "joined" 2 F_joined) (d_led_by : Knows P w K mg base 2 "led_by" 2 F_led_by) : FnG P w K mg base CX0 3 f fd ["form"] (spF K 1 F_reduction) :=
  (fn_ok (b := b_reduction) F sc_reduction rfl rfl fun cdv A outer s H E hr =>
    (bvs_cons (bv_set 1 sc_reduction.nd (ev_def d_centring (hr.mono (by decide)) (av_cons (ev_var 0) av_nil)))
    (bvs_cons (bv_set 2 sc_reduction.nd (ev_def d_led_by (hr.mono (by decide)) (av_cons (ev_var 0) (av_cons (ev_var 1) av_nil))))
    (bvs_cons (bv_set 3 sc_reduction.nd (ev_tup (av_cons ev_int (av_cons (ev_un un_neg p_neg ev_int) (av_cons ev_int (av_cons ev_int av_nil))))))
    (bvs_cons (bv_while (fun ms => slT ms 2 0 + 2) (tv_not (tv_val (ev_def d_is_reduced (hr.mono (by decide)) (av_cons (ev_var 2) av_nil)))) (bvs_cons (bv_set 4 sc_reduction.nd (ev_def d_joined (hr.mono (by decide)) (av_cons (ev_var 3) (av_cons (ev_def d_centring (hr.mono (by decide)) (av_cons (ev_def d_led_by (hr.mono (by decide)) (av_cons (ev_var 2) (av_cons (ev_var 3) av_nil))) av_nil)) av_nil))))
    (bvs_cons (bv_set 2 sc_reduction.nd (ev_def d_led_by (hr.mono (by decide)) (av_cons (ev_var 2) (av_cons (ev_var 4) av_nil))))
    (bvs_one (bv_set 1 sc_reduction.nd (ev_def d_joined (hr.mono (by decide)) (av_cons (ev_var 1) (av_cons (ev_var 4) av_nil))))))) PassesOwn.never)
    (bvs_one (bv_ret (ev_tup (av_cons (ev_var 2) (av_cons (ev_var 1) av_nil))))))))))
abbrev s_place_without : Stmt := top 30
abbrev N_place_without : List Str := ["form", "number", "x", "y"]
theorem sc_place_without : FnScope ["form", "number", "x", "y"] ["form", "number"] (defScope s_place_without) := ⟨rfl, rfl, rfl, by decide +kernel, rfl, by decide +kernel, by decide +kernel⟩
def b_place_without : MB :=
    (mFor (iR1 (mCons (mBin oAdd (mVar 1) (mC (.int 1))) mNil)) (gN 2) (mFor (iR1 (mCons (mBin oAdd (mVar 1) (mC (.int 1))) mNil)) (gN 3) (mIfS (mAnd (mTBin oEq (mCB oGcd2 (mCons (mVar 2) (mCons (mVar 3) mNil))) (mC (.int 1))) (mTBin oEq (mCB oGcd2 (mCons (mCall 3 F_value_at (mCons (mVar 0) (mCons (mVar 2) (mCons (mVar 3) mNil)))) (mCons (mVar 1) mNil))) (mC (.int 1)))) (mRet (mTup (mCons (mVar 2) (mCons (mVar 3) mNil)))) mNx)))
def F_place_without : MF := mFun 4 2 b_place_without
theorem ok_place_without (B : Blt mg) {f : Addr} {fd : FuncData} (F : Fun K "place_without" "place_without" s_place_without f fd) (d_value_at : Knows P w K mg base 1 "value_at" 3 F_value_at) : FnG P w K mg base CX0 2 f fd ["form", "number"] (spF K 2 F_place_without) :=
  (fn_ok (b := b_place_without) F sc_place_without rfl rfl fun cdv A outer s H E hr =>
    (bvs_one (bv_for (iv_range1 B.b_range (av_cons (ev_bin or_addAll p_add (ev_var 1) ev_int) av_nil)) (gv_name 2 sc_place_without.nd) (bvs_one (bv_for (iv_range1 B.b_range (av_cons (ev_bin or_addAll p_add (ev_var 1) ev_int) av_nil)) (gv_name 3 sc_place_without.nd) (bvs_one (bv_if (tv_pw (wv_and (tv_cmp (or_eq (hu hr)) p_eq (ev_callF cr_gcd c_gcd2 B.g_gcd (av_cons (ev_var 2) (av_cons (ev_var 3) av_nil))) ev_int (nomark _)) (wv_and1 (tv_cmp (or_eq (hu hr)) p_eq (ev_callF cr_gcd c_gcd2 B.g_gcd (av_cons (ev_def d_value_at (hr.mono (by decide)) (av_cons (ev_var 0) (av_cons (ev_var 2) (av_cons (ev_var 3) av_nil)))) (av_cons (ev_var 1) av_nil))) ev_int (nomark _))))) (bvs_one (bv_ret (ev_tup (av_cons (ev_var 2) (av_cons (ev_var 3) av_nil))))) bvs_nil)) rfl PassesOwn.never)) rfl PassesOwn.never)))
abbrev s_bezout : Stmt := top 5
abbrev N_bezout : List Str := ["number", "other", "s", "t", "u", "v", "quotient", "rest"]
theorem sc_bezout : FnScope ["number", "other", "s", "t", "u", "v", "quotient", "rest"] ["number", "other"] (defScope s_bezout) := ⟨rfl, rfl, rfl, by decide +kernel, rfl, by decide +kernel, by decide +kernel⟩
def b_bezout : MB :=
    (mSeq (mAsg (mTup (mCons (mC (.int 1)) (mCons (mC (.int 0)) (mCons (mC (.int 0)) (mCons (mC (.int 1)) mNil))))) (gT 4 (gsCons (gN 2) (gsCons (gN 3) (gsCons (gN 4) (gsCons (gN 5) gsNil))))))
    (mSeq (mWhile (fun ms => slI ms 1 + 1) (mTBin cGt (mVar 1) (mC (.int 0))) (mSeq (mAsg (mCB oDivmod (mCons (mVar 0) (mCons (mVar 1) mNil))) (gT 2 (gsCons (gN 6) (gsCons (gN 7) gsNil))))
    (mSeq (mPar 0 1 (mCons (mVar 1) (mCons (mVar 7) mNil)))
    (mAsg (mTup (mCons (mVar 4) (mCons (mVar 5) (mCons (mBin oSub (mVar 2) (mBin oMulA (mVar 6) (mVar 4))) (mCons (mBin oSub (mVar 3) (mBin oMulA (mVar 6) (mVar 5))) mNil))))) (gT 4 (gsCons (gN 2) (gsCons (gN 3) (gsCons (gN 4) (gsCons (gN 5) gsNil)))))))))
    (mRet (mTup (mCons (mVar 2) (mCons (mVar 3) mNil))))))
def F_bezout : MF := mFun 8 2 b_bezout
theorem ok_bezout (B : Blt mg) {f : Addr} {fd : FuncData} (F : Fun K "bezout" "bezout" s_bezout f fd) : FnG P w K mg base CX0 1 f fd ["number", "other"] (spF K 2 F_bezout) :=
  (fn_ok (b := b_bezout) F sc_bezout rfl rfl fun cdv A outer s H E hr =>
    (bvs_cons (bv_asg (ev_tup (av_cons ev_int (av_cons ev_int (av_cons ev_int (av_cons ev_int av_nil))))) (gv_tup rfl (gvs_cons (gv_name 2 sc_bezout.nd) (gvs_cons (gv_name 3 sc_bezout.nd) (gvs_cons (gv_name 4 sc_bezout.nd) (gvs_cons (gv_name 5 sc_bezout.nd) gvs_nil))))))
    (bvs_cons (bv_while (fun ms => slI ms 1 + 1) (tv_cmp op_gt (p_cI (p := fun i j => decide (j < i))) (ev_var 1) ev_int (nomark _)) (bvs_cons (bv_asg (ev_callB call_dm c_dm B.b_divmod bt_divmod (av_cons (ev_var 0) (av_cons (ev_var 1) av_nil))) (gv_tup rfl (gvs_cons (gv_name 6 sc_bezout.nd) (gvs_cons (gv_name 7 sc_bezout.nd) gvs_nil))))
    (bvs_cons (bv_par 0 1 rfl sc_bezout.nd (av_cons (ev_var 1) (av_cons (ev_var 7) av_nil)))
    (bvs_one (bv_asg (ev_tup (av_cons (ev_var 4) (av_cons (ev_var 5) (av_cons (ev_bin op_sub p_sub (ev_var 2) (ev_bin or_mul p_mulA (ev_var 6) (ev_var 4))) (av_cons (ev_bin op_sub p_sub (ev_var 3) (ev_bin or_mul p_mulA (ev_var 6) (ev_var 5))) av_nil))))) (gv_tup rfl (gvs_cons (gv_name 2 sc_bezout.nd) (gvs_cons (gv_name 3 sc_bezout.nd) (gvs_cons (gv_name 4 sc_bezout.nd) (gvs_cons (gv_name 5 sc_bezout.nd) gvs_nil))))))))) PassesOwn.never)
    (bvs_one (bv_ret (ev_tup (av_cons (ev_var 2) (av_cons (ev_var 3) av_nil))))))))
abbrev s_change_to_lead_without : Stmt := top 29
abbrev N_change_to_lead_without : List Str := ["form", "number", "small", "change", "x", "y", "s", "t"]
theorem sc_change_to_lead_without : FnScope ["form", "number", "small", "change", "x", "y", "s", "t"] ["form", "number"] (defScope s_change_to_lead_without) := ⟨rfl, rfl, rfl, by decide +kernel, rfl, by decide +kernel, by decide +kernel⟩
def b_change_to_lead_without : MB :=
    (mSeq (mAsg (mCall 1 F_reduction (mCons (mVar 0) mNil)) (gT 2 (gsCons (gN 2) (gsCons (gN 3) gsNil))))
    (mSeq (mAsg (mCall 2 F_place_without (mCons (mVar 2) (mCons (mVar 1) mNil))) (gT 2 (gsCons (gN 4) (gsCons (gN 5) gsNil))))
    (mSeq (mAsg (mCall 2 F_bezout (mCons (mVar 4) (mCons (mVar 5) mNil))) (gT 2 (gsCons (gN 6) (gsCons (gN 7) gsNil))))
    (mRet (mCall 2 F_joined (mCons (mVar 3) (mCons (mTup (mCons (mVar 4) (mCons (mUn oNeg (mVar 7)) (mCons (mVar 5) (mCons (mVar 6) mNil))))) mNil)))))))
def F_change_to_lead_without : MF := mFun 8 2 b_change_to_lead_without
theorem ok_change_to_lead_without (B : Blt mg) {f : Addr} {fd : FuncData} (F : Fun K "change_to_lead_without" "change_to_lead_without" s_change_to_lead_without f fd) (d_bezout : Knows P w K mg base 1 "bezout" 2 F_bezout) (d_joined : Knows P w K mg base 1 "joined" 2 F_joined) (d_place_without : Knows P w K mg base 2 "place_without" 2 F_place_without) (d_reduction : Knows P w K mg base 3 "reduction" 1 F_reduction) : FnG P w K mg base CX0 4 f fd ["form", "number"] (spF K 2 F_change_to_lead_without) :=
  (fn_ok (b := b_change_to_lead_without) F sc_change_to_lead_without rfl rfl fun cdv A outer s H E hr =>
    (bvs_cons (bv_asg (ev_def d_reduction (hr.mono (by decide)) (av_cons (ev_var 0) av_nil)) (gv_tup rfl (gvs_cons (gv_name 2 sc_change_to_lead_without.nd) (gvs_cons (gv_name 3 sc_change_to_lead_without.nd) gvs_nil))))
    (bvs_cons (bv_asg (ev_def d_place_without (hr.mono (by decide)) (av_cons (ev_var 2) (av_cons (ev_var 1) av_nil))) (gv_tup rfl (gvs_cons (gv_name 4 sc_change_to_lead_without.nd) (gvs_cons (gv_name 5 sc_change_to_lead_without.nd) gvs_nil))))
    (bvs_cons (bv_asg (ev_def d_bezout (hr.mono (by decide)) (av_cons (ev_var 4) (av_cons (ev_var 5) av_nil))) (gv_tup rfl (gvs_cons (gv_name 6 sc_change_to_lead_without.nd) (gvs_cons (gv_name 7 sc_change_to_lead_without.nd) gvs_nil))))
    (bvs_one (bv_ret (ev_def d_joined (hr.mono (by decide)) (av_cons (ev_var 3) (av_cons (ev_tup (av_cons (ev_var 4) (av_cons (ev_un un_neg p_neg (ev_var 7)) (av_cons (ev_var 5) (av_cons (ev_var 6) av_nil))))) av_nil)))))))))
abbrev s_uniting : Stmt := top 28
abbrev N_uniting : List Str := ["form", "other", "small", "change", "a", "b", "_", "then", "lead", "middle", "s", "t", "u"]
theorem sc_uniting : FnScope ["form", "other", "small", "change", "a", "b", "_", "then", "lead", "middle", "s", "t", "u"] ["form", "other"] (defScope s_uniting) := ⟨rfl, rfl, rfl, by decide +kernel, rfl, by decide +kernel, by decide +kernel⟩
def b_uniting : MB :=
    (mSeq (mAsg (mCall 1 F_reduction (mCons (mVar 0) mNil)) (gT 2 (gsCons (gN 2) (gsCons (gN 3) gsNil))))
    (mSeq (mAsg (mVar 2) (gT 3 (gsCons (gN 4) (gsCons (gN 5) (gsCons (gN 6) gsNil)))))
    (mSeq (mAsg (mCall 2 F_change_to_lead_without (mCons (mVar 1) (mCons (mVar 4) mNil))) (gN 7))
    (mSeq (mAsg (mCall 2 F_led_by (mCons (mVar 1) (mCons (mVar 7) mNil))) (gT 3 (gsCons (gN 8) (gsCons (gN 9) (gsCons (gN 6) gsNil)))))
    (mSeq (mAsg (mCall 2 F_bezout (mCons (mVar 4) (mCons (mVar 8) mNil))) (gT 2 (gsCons (gN 10) (gsCons (gN 6) gsNil))))
    (mSeq (mAsg (mBin oMod (mBin oMulA (mBin oDiv (mBin oSub (mVar 9) (mVar 5)) (mC (.int 2))) (mVar 10)) (mVar 8)) (gN 11))
    (mSeq (mAsg (mBin oDiv (mBin oSub (mBin oAdd (mVar 5) (mBin oMulA (mBin oMulA (mC (.int 2)) (mVar 4)) (mVar 11))) (mVar 9)) (mBin oMulA (mC (.int 2)) (mVar 8))) (gN 12))
    (mRet (mTup (mCons (mCall 2 F_joined (mCons (mVar 3) (mCons (mTup (mCons (mC (.int 1)) (mCons (mVar 11) (mCons (mC (.int 0)) (mCons (mC (.int 1)) mNil))))) mNil))) (mCons (mCall 2 F_joined (mCons (mVar 7) (mCons (mTup (mCons (mC (.int 1)) (mCons (mVar 12) (mCons (mC (.int 0)) (mCons (mC (.int 1)) mNil))))) mNil))) mNil)))))))))))
def F_uniting : MF := mFun 13 2 b_uniting
theorem ok_uniting (B : Blt mg) {f : Addr} {fd : FuncData} (F : Fun K "uniting" "uniting" s_uniting f fd) (d_bezout : Knows P w K mg base 1 "bezout" 2 F_bezout) (d_change_to_lead_without : Knows P w K mg base 4 "change_to_lead_without" 2 F_change_to_lead_without) (d_joined : Knows P w K mg base 1 "joined" 2 F_joined) (d_led_by : Knows P w K mg base 2 "led_by" 2 F_led_by) (d_reduction : Knows P w K mg base 3 "reduction" 1 F_reduction) : FnG P w K mg base CX0 5 f fd ["form", "other"] (spF K 2 F_uniting) :=
  (fn_ok (b := b_uniting) F sc_uniting rfl rfl fun cdv A outer s H E hr =>
    (bvs_cons (bv_asg (ev_def d_reduction (hr.mono (by decide)) (av_cons (ev_var 0) av_nil)) (gv_tup rfl (gvs_cons (gv_name 2 sc_uniting.nd) (gvs_cons (gv_name 3 sc_uniting.nd) gvs_nil))))
    (bvs_cons (bv_asg (ev_var 2) (gv_tup rfl (gvs_cons (gv_name 4 sc_uniting.nd) (gvs_cons (gv_name 5 sc_uniting.nd) (gvs_cons (gv_name 6 sc_uniting.nd) gvs_nil)))))
    (bvs_cons (bv_set 7 sc_uniting.nd (ev_def d_change_to_lead_without (hr.mono (by decide)) (av_cons (ev_var 1) (av_cons (ev_var 4) av_nil))))
    (bvs_cons (bv_asg (ev_def d_led_by (hr.mono (by decide)) (av_cons (ev_var 1) (av_cons (ev_var 7) av_nil))) (gv_tup rfl (gvs_cons (gv_name 8 sc_uniting.nd) (gvs_cons (gv_name 9 sc_uniting.nd) (gvs_cons (gv_name 6 sc_uniting.nd) gvs_nil)))))
    (bvs_cons (bv_asg (ev_def d_bezout (hr.mono (by decide)) (av_cons (ev_var 4) (av_cons (ev_var 8) av_nil))) (gv_tup rfl (gvs_cons (gv_name 10 sc_uniting.nd) (gvs_cons (gv_name 6 sc_uniting.nd) gvs_nil))))
    (bvs_cons (bv_set 11 sc_uniting.nd (ev_bin op_mod p_mod (ev_bin or_mul p_mulA (ev_bin op_fdivW p_div (ev_bin op_sub p_sub (ev_var 9) (ev_var 5)) ev_int) (ev_var 10)) (ev_var 8)))
    (bvs_cons (bv_set 12 sc_uniting.nd (ev_bin op_fdivW p_div (ev_bin op_sub p_sub (ev_bin or_addAll p_add (ev_var 5) (ev_bin or_mul p_mulA (ev_bin or_mul p_mulA ev_int (ev_var 4)) (ev_var 11))) (ev_var 9)) (ev_bin or_mul p_mulA ev_int (ev_var 8))))
    (bvs_one (bv_ret (ev_tup (av_cons (ev_def d_joined (hr.mono (by decide)) (av_cons (ev_var 3) (av_cons (ev_tup (av_cons ev_int (av_cons (ev_var 11) (av_cons ev_int (av_cons ev_int av_nil))))) av_nil))) (av_cons (ev_def d_joined (hr.mono (by decide)) (av_cons (ev_var 7) (av_cons (ev_tup (av_cons ev_int (av_cons (ev_var 12) (av_cons ev_int (av_cons ev_int av_nil))))) av_nil))) av_nil)))))))))))))
abbrev s_columns : Stmt := top 27
abbrev N_columns : List Str := ["change", "p", "q", "r", "s"]
theorem sc_columns : FnScope ["change", "p", "q", "r", "s"] ["change"] (defScope s_columns) := ⟨rfl, rfl, rfl, by decide +kernel, rfl, by decide +kernel, by decide +kernel⟩
def b_columns : MB :=
    (mSeq (mAsg (mVar 0) (gT 4 (gsCons (gN 1) (gsCons (gN 2) (gsCons (gN 3) (gsCons (gN 4) gsNil))))))
    (mRet (mTup (mCons (mTup (mCons (mVar 1) (mCons (mVar 3) mNil))) (mCons (mTup (mCons (mVar 2) (mCons (mVar 4) mNil))) mNil)))))
def F_columns : MF := mFun 5 1 b_columns
theorem ok_columns (B : Blt mg) {f : Addr} {fd : FuncData} (F : Fun K "columns" "columns" s_columns f fd) : FnG P w K mg base CX0 1 f fd ["change"] (spF K 1 F_columns) :=
  (fn_ok (b := b_columns) F sc_columns rfl rfl fun cdv A outer s H E hr =>
    (bvs_cons (bv_asg (ev_var 0) (gv_tup rfl (gvs_cons (gv_name 1 sc_columns.nd) (gvs_cons (gv_name 2 sc_columns.nd) (gvs_cons (gv_name 3 sc_columns.nd) (gvs_cons (gv_name 4 sc_columns.nd) gvs_nil))))))
    (bvs_one (bv_ret (ev_tup (av_cons (ev_tup (av_cons (ev_var 1) (av_cons (ev_var 3) av_nil))) (av_cons (ev_tup (av_cons (ev_var 2) (av_cons (ev_var 4) av_nil))) av_nil)))))))
abbrev s_discriminant_of : Stmt := top 15
abbrev N_discriminant_of : List Str := ["form", "a", "b", "c"]
theorem sc_discriminant_of : FnScope ["form", "a", "b", "c"] ["form"] (defScope s_discriminant_of) := ⟨rfl, rfl, rfl, by decide +kernel, rfl, by decide +kernel, by decide +kernel⟩
def b_discriminant_of : MB :=
    (mSeq (mDrop (mCall 1 F_check_form (mCons (mVar 0) mNil)))
    (mSeq (mAsg (mVar 0) (gT 3 (gsCons (gN 1) (gsCons (gN 2) (gsCons (gN 3) gsNil)))))
    (mRet (mBin oSub (mBin oMulA (mVar 2) (mVar 2)) (mBin oMulA (mBin oMulA (mC (.int 4)) (mVar 1)) (mVar 3))))))
def F_discriminant_of : MF := mFun 4 1 b_discriminant_of
theorem ok_discriminant_of (B : Blt mg) {f : Addr} {fd : FuncData} (F : Fun K "discriminant_of" "discriminant_of" s_discriminant_of f fd) (d_check_form : Knows P w K mg base 5 "check_form" 1 F_check_form) : FnG P w K mg base CX0 6 f fd ["form"] (spF K 1 F_discriminant_of) :=
  (fn_ok (b := b_discriminant_of) F sc_discriminant_of rfl rfl fun cdv A outer s H E hr =>
    (bvs_cons (bv_expr (ev_def d_check_form (hr.mono (by decide)) (av_cons (ev_var 0) av_nil)))
    (bvs_cons (bv_asg (ev_var 0) (gv_tup rfl (gvs_cons (gv_name 1 sc_discriminant_of.nd) (gvs_cons (gv_name 2 sc_discriminant_of.nd) (gvs_cons (gv_name 3 sc_discriminant_of.nd) gvs_nil)))))
    (bvs_one (bv_ret (ev_bin op_sub p_sub (ev_bin or_mul p_mulA (ev_var 2) (ev_var 2)) (ev_bin or_mul p_mulA (ev_bin or_mul p_mulA ev_int (ev_var 1)) (ev_var 3))))))))
abbrev s_inverse : Stmt := top 19
abbrev N_inverse : List Str := ["change", "p", "q", "r", "s"]
theorem sc_inverse : FnScope ["change", "p", "q", "r", "s"] ["change"] (defScope s_inverse) := ⟨rfl, rfl, rfl, by decide +kernel, rfl, by decide +kernel, by decide +kernel⟩
def b_inverse : MB :=
    (mSeq (mAsg (mVar 0) (gT 4 (gsCons (gN 1) (gsCons (gN 2) (gsCons (gN 3) (gsCons (gN 4) gsNil))))))
    (mRet (mTup (mCons (mVar 4) (mCons (mUn oNeg (mVar 2)) (mCons (mUn oNeg (mVar 3)) (mCons (mVar 1) mNil)))))))
def F_inverse : MF := mFun 5 1 b_inverse
theorem ok_inverse (B : Blt mg) {f : Addr} {fd : FuncData} (F : Fun K "inverse" "inverse" s_inverse f fd) : FnG P w K mg base CX0 1 f fd ["change"] (spF K 1 F_inverse) :=
  (fn_ok (b := b_inverse) F sc_inverse rfl rfl fun cdv A outer s H E hr =>
    (bvs_cons (bv_asg (ev_var 0) (gv_tup rfl (gvs_cons (gv_name 1 sc_inverse.nd) (gvs_cons (gv_name 2 sc_inverse.nd) (gvs_cons (gv_name 3 sc_inverse.nd) (gvs_cons (gv_name 4 sc_inverse.nd) gvs_nil))))))
    (bvs_one (bv_ret (ev_tup (av_cons (ev_var 4) (av_cons (ev_un un_neg p_neg (ev_var 2)) (av_cons (ev_un un_neg p_neg (ev_var 3)) (av_cons (ev_var 1) av_nil)))))))))
abbrev s_composing_numbers : Stmt := top 26
abbrev N_composing_numbers : List Str := ["form", "other", "change", "then", "a", "b", "last", "lead", "c", "upper", "lower", "x", "y", "z", "w"]
theorem sc_composing_numbers : FnScope ["form", "other", "change", "then", "a", "b", "last", "lead", "c", "upper", "lower", "x", "y", "z", "w"] ["form", "other"] (defScope s_composing_numbers) := ⟨rfl, rfl, rfl, by decide +kernel, rfl, by decide +kernel, by decide +kernel⟩
def b_composing_numbers : MB :=
    (mSeq (mDrop (mCall 1 F_check_form (mCons (mVar 0) mNil)))
    (mSeq (mDrop (mCall 1 F_check_form (mCons (mVar 1) mNil)))
    (mSeq (mIfS (mTBin oNe (mCall 1 F_discriminant_of (mCons (mVar 0) mNil)) (mCall 1 F_discriminant_of (mCons (mVar 1) mNil))) mNev mNx)
    (mSeq (mAsg (mCall 2 F_uniting (mCons (mVar 0) (mCons (mVar 1) mNil))) (gT 2 (gsCons (gN 2) (gsCons (gN 3) gsNil))))
    (mSeq (mAsg (mCall 2 F_led_by (mCons (mVar 0) (mCons (mVar 2) mNil))) (gT 3 (gsCons (gN 4) (gsCons (gN 5) (gsCons (gN 6) gsNil)))))
    (mSeq (mAsg (mBin oIx (mCall 2 F_led_by (mCons (mVar 1) (mCons (mVar 3) mNil))) (mC (.int 0))) (gN 7))
    (mSeq (mAsg (mBin oDiv (mVar 6) (mVar 7)) (gN 8))
    (mSeq (mAsg (mLstC mNil) (gN 9))
    (mSeq (mAsg (mLstC mNil) (gN 10))
    (mSeq (mFor (iS (mCall 1 F_columns (mCons (mCall 1 F_inverse (mCons (mVar 2) mNil)) mNil))) (gT 2 (gsCons (gN 11) (gsCons (gN 12) gsNil))) (mFor (iS (mCall 1 F_columns (mCons (mCall 1 F_inverse (mCons (mVar 3) mNil)) mNil))) (gT 2 (gsCons (gN 13) (gsCons (gN 14) gsNil))) (mSeq (mDrop (mApp (mVar 9) (mCons (mBin oSub (mBin oMulA (mVar 11) (mVar 13)) (mBin oMulA (mBin oMulA (mVar 8) (mVar 12)) (mVar 14))) mNil)))
    (mDrop (mApp (mVar 10) (mCons (mBin oAdd (mBin oAdd (mBin oMulA (mBin oMulA (mVar 4) (mVar 11)) (mVar 14)) (mBin oMulA (mBin oMulA (mVar 7) (mVar 12)) (mVar 13))) (mBin oMulA (mBin oMulA (mVar 5) (mVar 12)) (mVar 14))) mNil))))))
    (mRet (mTup (mCons (mTup (mCons (mBin oMulA (mVar 4) (mVar 7)) (mCons (mVar 5) (mCons (mVar 8) mNil)))) (mCons (mCB oTup (mCons (mBin oAddC (mVar 9) (mVar 10)) mNil)) mNil))))))))))))))
def F_composing_numbers : MF := mFrz (mFun 15 2 b_composing_numbers)
theorem ok_composing_numbers (B : Blt mg) {f : Addr} {fd : FuncData} (F : Fun K "composing_numbers" "composing_numbers" s_composing_numbers f fd) (d_check_form : Knows P w K mg base 5 "check_form" 1 F_check_form) (d_columns : Knows P w K mg base 1 "columns" 1 F_columns) (d_discriminant_of : Knows P w K mg base 6 "discriminant_of" 1 F_discriminant_of) (d_inverse : Knows P w K mg base 1 "inverse" 1 F_inverse) (d_led_by : Knows P w K mg base 2 "led_by" 2 F_led_by) (d_uniting : Knows P w K mg base 5 "uniting" 2 F_uniting) (XF : XFacts P K mg cls) : FnG P w K mg base CX0 7 f fd ["form", "other"] (spF K 2 F_composing_numbers) :=
  fn_frz (fn_ok (b := b_composing_numbers) F sc_composing_numbers rfl rfl fun cdv A outer s H E hr =>
    (bvs_cons (bv_expr (ev_def d_check_form (hr.mono (by decide)) (av_cons (ev_var 0) av_nil)))
    (bvs_cons (bv_expr (ev_def d_check_form (hr.mono (by decide)) (av_cons (ev_var 1) av_nil)))
    (bvs_cons (bv_if (tv_cmp (or_ne (hu hr)) p_ne (ev_def d_discriminant_of (hr.mono (by decide)) (av_cons (ev_var 0) av_nil)) (ev_def d_discriminant_of (hr.mono (by decide)) (av_cons (ev_var 1) av_nil)) (nomark _)) (bvs_one bv_never) bvs_nil)
    (bvs_cons (bv_asg (ev_def d_uniting (hr.mono (by decide)) (av_cons (ev_var 0) (av_cons (ev_var 1) av_nil))) (gv_tup rfl (gvs_cons (gv_name 2 sc_composing_numbers.nd) (gvs_cons (gv_name 3 sc_composing_numbers.nd) gvs_nil))))
    (bvs_cons (bv_asg (ev_def d_led_by (hr.mono (by decide)) (av_cons (ev_var 0) (av_cons (ev_var 2) av_nil))) (gv_tup rfl (gvs_cons (gv_name 4 sc_composing_numbers.nd) (gvs_cons (gv_name 5 sc_composing_numbers.nd) (gvs_cons (gv_name 6 sc_composing_numbers.nd) gvs_nil)))))
    (bvs_cons (bv_set 7 sc_composing_numbers.nd (ev_ix (ev_def d_led_by (hr.mono (by decide)) (av_cons (ev_var 1) (av_cons (ev_var 3) av_nil))) ev_int))
    (bvs_cons (bv_set 8 sc_composing_numbers.nd (ev_bin op_fdivW p_div (ev_var 6) (ev_var 7)))
    (bvs_cons (bv_set 9 sc_composing_numbers.nd (ev_lstC av_nil))
    (bvs_cons (bv_set 10 sc_composing_numbers.nd (ev_lstC av_nil))
    (bvs_cons (bv_for (iv_seq (ev_def d_columns (hr.mono (by decide)) (av_cons (ev_def d_inverse (hr.mono (by decide)) (av_cons (ev_var 2) av_nil)) av_nil))) (gv_tup rfl (gvs_cons (gv_name 11 sc_composing_numbers.nd) (gvs_cons (gv_name 12 sc_composing_numbers.nd) gvs_nil))) (bvs_one (bv_for (iv_seq (ev_def d_columns (hr.mono (by decide)) (av_cons (ev_def d_inverse (hr.mono (by decide)) (av_cons (ev_var 3) av_nil)) av_nil))) (gv_tup rfl (gvs_cons (gv_name 13 sc_composing_numbers.nd) (gvs_cons (gv_name 14 sc_composing_numbers.nd) gvs_nil))) (bvs_cons (bv_expr (ev_app (ev_var 9) (av_cons (ev_bin op_sub p_sub (ev_bin or_mul p_mulA (ev_var 11) (ev_var 13)) (ev_bin or_mul p_mulA (ev_bin or_mul p_mulA (ev_var 8) (ev_var 12)) (ev_var 14))) av_nil)))
    (bvs_one (bv_expr (ev_app (ev_var 10) (av_cons (ev_bin or_addAll p_add (ev_bin or_addAll p_add (ev_bin or_mul p_mulA (ev_bin or_mul p_mulA (ev_var 4) (ev_var 11)) (ev_var 14)) (ev_bin or_mul p_mulA (ev_bin or_mul p_mulA (ev_var 7) (ev_var 12)) (ev_var 13))) (ev_bin or_mul p_mulA (ev_bin or_mul p_mulA (ev_var 5) (ev_var 12)) (ev_var 14))) av_nil))))) rfl PassesOwn.never)) rfl PassesOwn.never)
    (bvs_one (bv_ret (ev_tup (av_cons (ev_tup (av_cons (ev_bin or_mul p_mulA (ev_var 4) (ev_var 7)) (av_cons (ev_var 5) (av_cons (ev_var 8) av_nil)))) (av_cons (ev_callTy call_tuple_of c_tuple B.b_tuple bt_tuple (av_cons (ev_bin or_addAll p_addC (ev_var 9) (ev_var 10)) av_nil)) av_nil))))))))))))))))
def z_composing_numbers : MX :=
    (zThen (mDrop (mCall 1 F_check_form (mCons (mVar 0) mNil)))
    (zThen (mDrop (mCall 1 F_check_form (mCons (mVar 1) mNil)))
    (zIf (mTBin oNe (mCall 1 F_discriminant_of (mCons (mVar 0) mNil)) (mCall 1 F_discriminant_of (mCons (mVar 1) mNil))) (zRaise "OtherDiscriminant" (mCons (mVar 1) mNil)) zNo)))
def Z_composing_numbers : MZ := zFun 15 2 z_composing_numbers
theorem okx_composing_numbers (B : Blt mg) {f : Addr} {fd : FuncData} (F : Fun K "composing_numbers" "composing_numbers" s_composing_numbers f fd) (d_check_form : Knows P w K mg base 5 "check_form" 1 F_check_form) (d_columns : Knows P w K mg base 1 "columns" 1 F_columns) (d_discriminant_of : Knows P w K mg base 6 "discriminant_of" 1 F_discriminant_of) (d_inverse : Knows P w K mg base 1 "inverse" 1 F_inverse) (d_led_by : Knows P w K mg base 2 "led_by" 2 F_led_by) (d_uniting : Knows P w K mg base 5 "uniting" 2 F_uniting) (XF : XFacts P K mg cls) : FnG P w K mg base (L2.CX P w) 7 f fd ["form", "other"] (spX K (tau cls) 2 Z_composing_numbers) :=
  (fnX_ok (z := z_composing_numbers) F sc_composing_numbers rfl rfl fun cdv A outer s H E W hr tk hp =>
    (xs_then (PS.nox (bv_expr (ev_def d_check_form (hr.mono (by decide)) (av_cons (ev_var 0) av_nil))))
    (xs_then (PS.nox (bv_expr (ev_def d_check_form (hr.mono (by decide)) (av_cons (ev_var 1) av_nil))))
    (xs_here (xb_if (PT.nox (tv_cmp (or_ne (hu hr)) p_ne (ev_def d_discriminant_of (hr.mono (by decide)) (av_cons (ev_var 0) av_nil)) (ev_def d_discriminant_of (hr.mono (by decide)) (av_cons (ev_var 1) av_nil)) (nomark _))) (xs_here (xb_raise (XF.O "OtherDiscriminant" rfl) tk hr (PA.nox (av_cons (ev_var 1) av_nil)))) xs_no)))))
abbrev s_reduced : Stmt := top 20
abbrev N_reduced : List Str := ["form", "small", "_"]
theorem sc_reduced : FnScope ["form", "small", "_"] ["form"] (defScope s_reduced) := ⟨rfl, rfl, rfl, by decide +kernel, rfl, by decide +kernel, by decide +kernel⟩
def b_reduced : MB :=
    (mSeq (mDrop (mCall 1 F_check_form (mCons (mVar 0) mNil)))
    (mSeq (mAsg (mCall 1 F_reduction (mCons (mVar 0) mNil)) (gT 2 (gsCons (gN 1) (gsCons (gN 2) gsNil))))
    (mRet (mVar 1))))
def F_reduced : MF := mFun 3 1 b_reduced
theorem ok_reduced (B : Blt mg) {f : Addr} {fd : FuncData} (F : Fun K "reduced" "reduced" s_reduced f fd) (d_check_form : Knows P w K mg base 5 "check_form" 1 F_check_form) (d_reduction : Knows P w K mg base 3 "reduction" 1 F_reduction) : FnG P w K mg base CX0 6 f fd ["form"] (spF K 1 F_reduced) :=
  (fn_ok (b := b_reduced) F sc_reduced rfl rfl fun cdv A outer s H E hr =>
    (bvs_cons (bv_expr (ev_def d_check_form (hr.mono (by decide)) (av_cons (ev_var 0) av_nil)))
    (bvs_cons (bv_asg (ev_def d_reduction (hr.mono (by decide)) (av_cons (ev_var 0) av_nil)) (gv_tup rfl (gvs_cons (gv_name 1 sc_reduced.nd) (gvs_cons (gv_name 2 sc_reduced.nd) gvs_nil))))
    (bvs_one (bv_ret (ev_var 1))))))
abbrev s_composed : Stmt := top 25
abbrev N_composed : List Str := ["form", "other", "third", "_"]
theorem sc_composed : FnScope ["form", "other", "third", "_"] ["form", "other"] (defScope s_composed) := ⟨rfl, rfl, rfl, by decide +kernel, rfl, by decide +kernel, by decide +kernel⟩
def b_composed : MB :=
    (mSeq (mAsg (mCall 2 F_composing_numbers (mCons (mVar 0) (mCons (mVar 1) mNil))) (gT 2 (gsCons (gN 2) (gsCons (gN 3) gsNil))))
    (mRet (mCall 1 F_reduced (mCons (mVar 2) mNil))))
def F_composed : MF := mFun 4 2 b_composed
theorem ok_composed (B : Blt mg) {f : Addr} {fd : FuncData} (F : Fun K "composed" "composed" s_composed f fd) (d_composing_numbers : Knows P w K mg base 7 "composing_numbers" 2 F_composing_numbers) (d_reduced : Knows P w K mg base 6 "reduced" 1 F_reduced) (XF : XFacts P K mg cls) (x_composing_numbers : KnowsX P w K mg base (tau cls) 7 "composing_numbers" 2 Z_composing_numbers) : FnG P w K mg base CX0 8 f fd ["form", "other"] (spF K 2 F_composed) :=
  (fn_ok (b := b_composed) F sc_composed rfl rfl fun cdv A outer s H E hr =>
    (bvs_cons (bv_asg (ev_def d_composing_numbers (hr.mono (by decide)) (av_cons (ev_var 0) (av_cons (ev_var 1) av_nil))) (gv_tup rfl (gvs_cons (gv_name 2 sc_composed.nd) (gvs_cons (gv_name 3 sc_composed.nd) gvs_nil))))
    (bvs_one (bv_ret (ev_def d_reduced (hr.mono (by decide)) (av_cons (ev_var 2) av_nil))))))
def z_composed : MX :=
    (zS (yCall 2 Z_composing_numbers (mCons (mVar 0) (mCons (mVar 1) mNil))))
def Z_composed : MZ := zFun 4 2 z_composed
theorem okx_composed (B : Blt mg) {f : Addr} {fd : FuncData} (F : Fun K "composed" "composed" s_composed f fd) (d_composing_numbers : Knows P w K mg base 7 "composing_numbers" 2 F_composing_numbers) (d_reduced : Knows P w K mg base 6 "reduced" 1 F_reduced) (XF : XFacts P K mg cls) (x_composing_numbers : KnowsX P w K mg base (tau cls) 7 "composing_numbers" 2 Z_composing_numbers) : FnG P w K mg base (L2.CX P w) 8 f fd ["form", "other"] (spX K (tau cls) 2 Z_composed) :=
  (fnX_ok (z := z_composed) F sc_composed rfl rfl fun cdv A outer s H E W hr tk hp =>
    (xs_here (xb_asg (xe_call x_composing_numbers tk (hr.mono (by decide)) (PA.nox (av_cons (ev_var 0) (av_cons (ev_var 1) av_nil)))) (gv_tup rfl (gvs_cons (gv_name 2 sc_composed.nd) (gvs_cons (gv_name 3 sc_composed.nd) gvs_nil))))))
abbrev s__law_draw : Stmt := top 33
abbrev N__law_draw : List Str := ["well", "few", "figure", "mixed"]
theorem sc__law_draw : FnScope ["well", "few", "figure", "mixed"] ["well", "few"] (defScope s__law_draw) := ⟨rfl, rfl, rfl, by decide +kernel, rfl, by decide +kernel, by decide +kernel⟩
def b__law_draw : MB :=
    (mSeq (mIfS (mTBin cGt (mBin oIx (mVar 0) (mC (.int 0))) (mC (.int 0))) (mSeq (mAsg (mCB oDivmod (mCons (mBin oIx (mVar 0) (mC (.int 0))) (mCons (mVar 1) mNil))) (gT 2 (gsCons (gSubD (mVar 0) (mC (.int 0))) (gsCons (gN 2) gsNil))))
    (mRet (mVar 2))) mNx)
    (mSeq (mAsg (mBin oAdd (mBin oIx (mVar 0) (mC (.int 2))) (mC (.int 1))) (gSubD (mVar 0) (mC (.int 2))))
    (mSeq (mAsg (mBin oMod (mCB oInt (mCons (mBin oAdd (mBin oMulA (mBin oIx (mVar 0) (mC (.int 1))) (mC (.int 48271))) (mBin oMulA (mC (.int 15013)) (mBin oIx (mVar 0) (mC (.int 2))))) mNil)) (mC (.int 2147483563))) (gN 3))
    (mSeq (mAsg (mBin oMod (mCB oInt (mCons (mBin oAdd (mBin oMulA (mVar 3) (mBin oAdd (mBin oMod (mCB oInt (mCons (mVar 3) mNil)) (mC (.int 4999))) (mC (.int 20011)))) (mBin oIx (mVar 0) (mC (.int 2)))) mNil)) (mC (.int 2147483563))) (gSubD (mVar 0) (mC (.int 1))))
    (mRet (mBin oMod (mCB oInt (mCons (mBin oDiv (mBin oIx (mVar 0) (mC (.int 1))) (mC (.int 977))) mNil)) (mVar 1)))))))
def F__law_draw : MF := mFun 4 2 b__law_draw
theorem ok__law_draw (B : Blt mg) {f : Addr} {fd : FuncData} (F : Fun K "_law_draw" "_law_draw" s__law_draw f fd) : FnG P w K mg base CX0 1 f fd ["well", "few"] (spF K 2 F__law_draw) :=
  (fn_ok (b := b__law_draw) F sc__law_draw rfl rfl fun cdv A outer s H E hr =>
    (bvs_cons (bv_if (tv_cmp op_gt (p_cI (p := fun i j => decide (j < i))) (ev_ix (ev_var 0) ev_int) ev_int (nomark _)) (bvs_cons (bv_asg (ev_callB call_dm c_dm B.b_divmod bt_divmod (av_cons (ev_ix (ev_var 0) ev_int) (av_cons (ev_var 1) av_nil))) (gv_tup rfl (gvs_cons (gv_sub (ev_var 0) ev_int) (gvs_cons (gv_name 2 sc__law_draw.nd) gvs_nil))))
    (bvs_one (bv_ret (ev_var 2)))) bvs_nil)
    (bvs_cons (bv_asg (ev_bin or_addAll p_add (ev_ix (ev_var 0) ev_int) ev_int) (gv_sub (ev_var 0) ev_int))
    (bvs_cons (bv_set 3 sc__law_draw.nd (ev_bin op_mod p_mod (ev_callTy call_int1 c_int B.b_int bt_int (av_cons (ev_bin or_addAll p_add (ev_bin or_mul p_mulA (ev_ix (ev_var 0) ev_int) ev_int) (ev_bin or_mul p_mulA ev_int (ev_ix (ev_var 0) ev_int))) av_nil)) ev_int))
    (bvs_cons (bv_asg (ev_bin op_mod p_mod (ev_callTy call_int1 c_int B.b_int bt_int (av_cons (ev_bin or_addAll p_add (ev_bin or_mul p_mulA (ev_var 3) (ev_bin or_addAll p_add (ev_bin op_mod p_mod (ev_callTy call_int1 c_int B.b_int bt_int (av_cons (ev_var 3) av_nil)) ev_int) ev_int)) (ev_ix (ev_var 0) ev_int)) av_nil)) ev_int) (gv_sub (ev_var 0) ev_int))
    (bvs_one (bv_ret (ev_bin op_mod p_mod (ev_callTy call_int1 c_int B.b_int bt_int (av_cons (ev_bin op_fdivW p_div (ev_ix (ev_var 0) ev_int) ev_int) av_nil)) (ev_var 1)))))))))
abbrev s__law_one : Stmt := top 34
abbrev N__law_one : List Str := ["well", "some"]
theorem sc__law_one : FnScope ["well", "some"] ["well", "some"] (defScope s__law_one) := ⟨rfl, rfl, rfl, by decide +kernel, rfl, by decide +kernel, by decide +kernel⟩
def b__law_one : MB :=
    (mRet (mBin oIx (mVar 1) (mCall 2 F__law_draw (mCons (mVar 0) (mCons (mCB oLen (mCons (mVar 1) mNil)) mNil)))))
def F__law_one : MF := mFun 2 2 b__law_one
theorem ok__law_one (B : Blt mg) {f : Addr} {fd : FuncData} (F : Fun K "_law_one" "_law_one" s__law_one f fd) (d__law_draw : Knows P w K mg base 1 "_law_draw" 2 F__law_draw) : FnG P w K mg base CX0 2 f fd ["well", "some"] (spF K 2 F__law_one) :=
  (fn_ok (b := b__law_one) F sc__law_one rfl rfl fun cdv A outer s H E hr =>
    (bvs_one (bv_ret (ev_ix (ev_var 1) (ev_def d__law_draw (hr.mono (by decide)) (av_cons (ev_var 0) (av_cons (ev_callB call_len c_len B.b_len bt_len (av_cons (ev_var 1) av_nil)) av_nil)))))))
abbrev s__law_disc : Stmt := top 39
abbrev N__law_disc : List Str := ["well", "some", "more", "great", "number"]
theorem sc__law_disc : FnScope ["well", "some", "more", "great", "number"] ["well"] (defScope s__law_disc) := ⟨rfl, rfl, rfl, by decide +kernel, rfl, by decide +kernel, by decide +kernel⟩
def b__law_disc : MB :=
    (mSeq (mIfS (mTBin oEq (mCall 2 F__law_draw (mCons (mVar 0) (mCons (mC (.int 4)) mNil))) (mC (.int 0))) (mRet (mCall 2 F__law_one (mCons (mVar 0) (mCons (mComp (iR2 (mCons (mC (.int 3)) (mCons (mC (.int 401)) mNil))) (gN 4) (mTBin (oIn false) (mBin oMod (mCB oInt (mCons (mVar 4) mNil)) (mC (.int 4))) (mTup (mCons (mC (.int 0)) (mCons (mC (.int 3)) mNil)))) (mBin oSub (mC (.int 0)) (mVar 4)) [4]) mNil)))) mNx)
    (mSeq (mAsg (mTup (mCons (mUn oNeg (mC (.int 23))) (mCons (mUn oNeg (mC (.int 20))) (mCons (mUn oNeg (mC (.int 56))) (mCons (mUn oNeg (mC (.int 3))) (mCons (mUn oNeg (mC (.int 4))) (mCons (mUn oNeg (mC (.int 7))) (mCons (mUn oNeg (mC (.int 8))) (mCons (mUn oNeg (mC (.int 11))) (mCons (mUn oNeg (mC (.int 12))) (mCons (mUn oNeg (mC (.int 15))) (mCons (mUn oNeg (mC (.int 16))) (mCons (mUn oNeg (mC (.int 24))) (mCons (mUn oNeg (mC (.int 27))) (mCons (mUn oNeg (mC (.int 28))) (mCons (mUn oNeg (mC (.int 31))) (mCons (mUn oNeg (mC (.int 32))) (mCons (mUn oNeg (mC (.int 35))) (mCons (mUn oNeg (mC (.int 36))) (mCons (mUn oNeg (mC (.int 39))) (mCons (mUn oNeg (mC (.int 40))) (mCons (mUn oNeg (mC (.int 43))) (mCons (mUn oNeg (mC (.int 44))) mNil))))))))))))))))))))))) (gN 1))
    (mSeq (mAsg (mTup (mCons (mUn oNeg (mC (.int 47))) (mCons (mUn oNeg (mC (.int 48))) (mCons (mUn oNeg (mC (.int 55))) (mCons (mUn oNeg (mC (.int 63))) (mCons (mUn oNeg (mC (.int 68))) (mCons (mUn oNeg (mC (.int 71))) (mCons (mUn oNeg (mC (.int 75))) (mCons (mUn oNeg (mC (.int 80))) (mCons (mUn oNeg (mC (.int 84))) (mCons (mUn oNeg (mC (.int 87))) (mCons (mUn oNeg (mC (.int 95))) (mCons (mUn oNeg (mC (.int 96))) (mCons (mUn oNeg (mC (.int 99))) (mCons (mUn oNeg (mC (.int 104))) (mCons (mUn oNeg (mC (.int 108))) (mCons (mUn oNeg (mC (.int 119))) (mCons (mUn oNeg (mC (.int 120))) (mCons (mUn oNeg (mC (.int 128))) (mCons (mUn oNeg (mC (.int 144))) (mCons (mUn oNeg (mC (.int 163))) mNil))))))))))))))))))))) (gN 2))
    (mSeq (mAsg (mTup (mCons (mUn oNeg (mC (.int 168))) (mCons (mUn oNeg (mC (.int 180))) (mCons (mUn oNeg (mC (.int 195))) (mCons (mUn oNeg (mC (.int 200))) (mCons (mUn oNeg (mC (.int 231))) (mCons (mUn oNeg (mC (.int 239))) (mCons (mUn oNeg (mC (.int 240))) (mCons (mUn oNeg (mC (.int 260))) (mCons (mUn oNeg (mC (.int 264))) (mCons (mUn oNeg (mC (.int 311))) (mCons (mUn oNeg (mC (.int 312))) (mCons (mUn oNeg (mC (.int 340))) (mCons (mUn oNeg (mC (.int 372))) (mCons (mUn oNeg (mC (.int 384))) (mCons (mUn oNeg (mC (.int 399))) (mCons (mUn oNeg (mC (.int 400))) mNil))))))))))))))))) (gN 3))
    (mRet (mCall 2 F__law_one (mCons (mVar 0) (mCons (mBin oIx (mTup (mCons (mVar 1) (mCons (mVar 1) (mCons (mVar 2) (mCons (mVar 3) mNil))))) (mCall 2 F__law_draw (mCons (mVar 0) (mCons (mC (.int 4)) mNil)))) mNil))))))))
def F__law_disc : MF := mFun 5 1 b__law_disc
theorem ok__law_disc (B : Blt mg) {f : Addr} {fd : FuncData} (F : Fun K "_law_disc" "_law_disc" s__law_disc f fd) (d__law_draw : Knows P w K mg base 1 "_law_draw" 2 F__law_draw) (d__law_one : Knows P w K mg base 2 "_law_one" 2 F__law_one) : FnG P w K mg base CX0 3 f fd ["well"] (spF K 1 F__law_disc) :=
  (fn_ok (b := b__law_disc) F sc__law_disc rfl rfl fun cdv A outer s H E hr =>
    (bvs_cons (bv_if (tv_cmp (or_eq (hu hr)) p_eq (ev_def d__law_draw (hr.mono (by decide)) (av_cons (ev_var 0) (av_cons ev_int av_nil))) ev_int (nomark _)) (bvs_one (bv_ret (ev_def d__law_one (hr.mono (by decide)) (av_cons (ev_var 0) (av_cons (ev_lc rfl sc__law_disc.nd (iv_range2 B.b_range (av_cons ev_int (av_cons ev_int av_nil))) (tg_name (by decide)) (blkOk_by (own := [("number", 4)]) (N := N__law_disc) (sc := defScope s__law_disc) (by decide +kernel)) rfl (fun _ _ _ _ _ => pg_name (i := 4) sc__law_disc.nd rfl (Or.inl rfl)) (fun _ _ _ _ _ => tvs_one (tv_cmp (op_inP (hu65 hr)) (p_in (neg := false)) (ev_bin op_mod p_mod (ev_callTy call_int1 c_int B.b_int bt_int (av_cons (ev_var 4) av_nil)) ev_int) (ev_tup (av_cons ev_int (av_cons ev_int av_nil))) (by with_unfolding_all rfl))) (fun _ _ _ _ _ => (ev_bin op_sub p_sub ev_int (ev_var 4)))) av_nil))))) bvs_nil)
    (bvs_cons (bv_set 1 sc__law_disc.nd (ev_tup (av_cons (ev_un un_neg p_neg ev_int) (av_cons (ev_un un_neg p_neg ev_int) (av_cons (ev_un un_neg p_neg ev_int) (av_cons (ev_un un_neg p_neg ev_int) (av_cons (ev_un un_neg p_neg ev_int) (av_cons (ev_un un_neg p_neg ev_int) (av_cons (ev_un un_neg p_neg ev_int) (av_cons (ev_un un_neg p_neg ev_int) (av_cons (ev_un un_neg p_neg ev_int) (av_cons (ev_un un_neg p_neg ev_int) (av_cons (ev_un un_neg p_neg ev_int) (av_cons (ev_un un_neg p_neg ev_int) (av_cons (ev_un un_neg p_neg ev_int) (av_cons (ev_un un_neg p_neg ev_int) (av_cons (ev_un un_neg p_neg ev_int) (av_cons (ev_un un_neg p_neg ev_int) (av_cons (ev_un un_neg p_neg ev_int) (av_cons (ev_un un_neg p_neg ev_int) (av_cons (ev_un un_neg p_neg ev_int) (av_cons (ev_un un_neg p_neg ev_int) (av_cons (ev_un un_neg p_neg ev_int) (av_cons (ev_un un_neg p_neg ev_int) av_nil))))))))))))))))))))))))
    (bvs_cons (bv_set 2 sc__law_disc.nd (ev_tup (av_cons (ev_un un_neg p_neg ev_int) (av_cons (ev_un un_neg p_neg ev_int) (av_cons (ev_un un_neg p_neg ev_int) (av_cons (ev_un un_neg p_neg ev_int) (av_cons (ev_un un_neg p_neg ev_int) (av_cons (ev_un un_neg p_neg ev_int) (av_cons (ev_un un_neg p_neg ev_int) (av_cons (ev_un un_neg p_neg ev_int) (av_cons (ev_un un_neg p_neg ev_int) (av_cons (ev_un un_neg p_neg ev_int) (av_cons (ev_un un_neg p_neg ev_int) (av_cons (ev_un un_neg p_neg ev_int) (av_cons (ev_un un_neg p_neg ev_int) (av_cons (ev_un un_neg p_neg ev_int) (av_cons (ev_un un_neg p_neg ev_int) (av_cons (ev_un un_neg p_neg ev_int) (av_cons (ev_un un_neg p_neg ev_int) (av_cons (ev_un un_neg p_neg ev_int) (av_cons (ev_un un_neg p_neg ev_int) (av_cons (ev_un un_neg p_neg ev_int) av_nil))))))))))))))))))))))
    (bvs_cons (bv_set 3 sc__law_disc.nd (ev_tup (av_cons (ev_un un_neg p_neg ev_int) (av_cons (ev_un un_neg p_neg ev_int) (av_cons (ev_un un_neg p_neg ev_int) (av_cons (ev_un un_neg p_neg ev_int) (av_cons (ev_un un_neg p_neg ev_int) (av_cons (ev_un un_neg p_neg ev_int) (av_cons (ev_un un_neg p_neg ev_int) (av_cons (ev_un un_neg p_neg ev_int) (av_cons (ev_un un_neg p_neg ev_int) (av_cons (ev_un un_neg p_neg ev_int) (av_cons (ev_un un_neg p_neg ev_int) (av_cons (ev_un un_neg p_neg ev_int) (av_cons (ev_un un_neg p_neg ev_int) (av_cons (ev_un un_neg p_neg ev_int) (av_cons (ev_un un_neg p_neg ev_int) (av_cons (ev_un un_neg p_neg ev_int) av_nil))))))))))))))))))
    (bvs_one (bv_ret (ev_def d__law_one (hr.mono (by decide)) (av_cons (ev_var 0) (av_cons (ev_ix (ev_tup (av_cons (ev_var 1) (av_cons (ev_var 1) (av_cons (ev_var 2) (av_cons (ev_var 3) av_nil))))) (ev_def d__law_draw (hr.mono (by decide)) (av_cons (ev_var 0) (av_cons ev_int av_nil)))) av_nil))))))))))
abbrev s__law_value : Stmt := top 40
abbrev N__law_value : List Str := ["form", "x", "y"]
theorem sc__law_value : FnScope ["form", "x", "y"] ["form", "x", "y"] (defScope s__law_value) := ⟨rfl, rfl, rfl, by decide +kernel, rfl, by decide +kernel, by decide +kernel⟩
def b__law_value : MB :=
    (mRet (mBin oAdd (mBin oAdd (mBin oMulA (mBin oMulA (mBin oIx (mVar 0) (mC (.int 0))) (mVar 1)) (mVar 1)) (mBin oMulA (mBin oMulA (mBin oIx (mVar 0) (mC (.int 1))) (mVar 1)) (mVar 2))) (mBin oMulA (mBin oMulA (mBin oIx (mVar 0) (mC (.int 2))) (mVar 2)) (mVar 2))))
def F__law_value : MF := mFun 3 3 b__law_value
theorem ok__law_value (B : Blt mg) {f : Addr} {fd : FuncData} (F : Fun K "_law_value" "_law_value" s__law_value f fd) : FnG P w K mg base CX0 1 f fd ["form", "x", "y"] (spF K 3 F__law_value) :=
  (fn_ok (b := b__law_value) F sc__law_value rfl rfl fun cdv A outer s H E hr =>
    (bvs_one (bv_ret (ev_bin or_addAll p_add (ev_bin or_addAll p_add (ev_bin or_mul p_mulA (ev_bin or_mul p_mulA (ev_ix (ev_var 0) ev_int) (ev_var 1)) (ev_var 1)) (ev_bin or_mul p_mulA (ev_bin or_mul p_mulA (ev_ix (ev_var 0) ev_int) (ev_var 1)) (ev_var 2))) (ev_bin or_mul p_mulA (ev_bin or_mul p_mulA (ev_ix (ev_var 0) ev_int) (ev_var 2)) (ev_var 2))))))
abbrev s__law_led : Stmt := top 43
abbrev N__law_led : List Str := ["form", "change", "p", "q", "r", "s", "middle"]
theorem sc__law_led : FnScope ["form", "change", "p", "q", "r", "s", "middle"] ["form", "change"] (defScope s__law_led) := ⟨rfl, rfl, rfl, by decide +kernel, rfl, by decide +kernel, by decide +kernel⟩
def b__law_led : MB :=
    (mSeq (mAsg (mVar 1) (gT 4 (gsCons (gN 2) (gsCons (gN 3) (gsCons (gN 4) (gsCons (gN 5) gsNil))))))
    (mSeq (mAsg (mBin oAdd (mBin oAdd (mBin oMulA (mBin oMulA (mBin oMulA (mC (.int 2)) (mBin oIx (mVar 0) (mC (.int 0)))) (mVar 2)) (mVar 3)) (mBin oMulA (mBin oIx (mVar 0) (mC (.int 1))) (mBin oAdd (mBin oMulA (mVar 2) (mVar 5)) (mBin oMulA (mVar 3) (mVar 4))))) (mBin oMulA (mBin oMulA (mBin oMulA (mC (.int 2)) (mBin oIx (mVar 0) (mC (.int 2)))) (mVar 4)) (mVar 5))) (gN 6))
    (mRet (mTup (mCons (mCall 3 F__law_value (mCons (mVar 0) (mCons (mVar 2) (mCons (mVar 4) mNil)))) (mCons (mVar 6) (mCons (mCall 3 F__law_value (mCons (mVar 0) (mCons (mVar 3) (mCons (mVar 5) mNil)))) mNil)))))))
def F__law_led : MF := mFun 7 2 b__law_led
theorem ok__law_led (B : Blt mg) {f : Addr} {fd : FuncData} (F : Fun K "_law_led" "_law_led" s__law_led f fd) (d__law_value : Knows P w K mg base 1 "_law_value" 3 F__law_value) : FnG P w K mg base CX0 2 f fd ["form", "change"] (spF K 2 F__law_led) :=
  (fn_ok (b := b__law_led) F sc__law_led rfl rfl fun cdv A outer s H E hr =>
    (bvs_cons (bv_asg (ev_var 1) (gv_tup rfl (gvs_cons (gv_name 2 sc__law_led.nd) (gvs_cons (gv_name 3 sc__law_led.nd) (gvs_cons (gv_name 4 sc__law_led.nd) (gvs_cons (gv_name 5 sc__law_led.nd) gvs_nil))))))
    (bvs_cons (bv_set 6 sc__law_led.nd (ev_bin or_addAll p_add (ev_bin or_addAll p_add (ev_bin or_mul p_mulA (ev_bin or_mul p_mulA (ev_bin or_mul p_mulA ev_int (ev_ix (ev_var 0) ev_int)) (ev_var 2)) (ev_var 3)) (ev_bin or_mul p_mulA (ev_ix (ev_var 0) ev_int) (ev_bin or_addAll p_add (ev_bin or_mul p_mulA (ev_var 2) (ev_var 5)) (ev_bin or_mul p_mulA (ev_var 3) (ev_var 4))))) (ev_bin or_mul p_mulA (ev_bin or_mul p_mulA (ev_bin or_mul p_mulA ev_int (ev_ix (ev_var 0) ev_int)) (ev_var 4)) (ev_var 5))))
    (bvs_one (bv_ret (ev_tup (av_cons (ev_def d__law_value (hr.mono (by decide)) (av_cons (ev_var 0) (av_cons (ev_var 2) (av_cons (ev_var 4) av_nil)))) (av_cons (ev_var 6) (av_cons (ev_def d__law_value (hr.mono (by decide)) (av_cons (ev_var 0) (av_cons (ev_var 3) (av_cons (ev_var 5) av_nil)))) av_nil)))))))))
abbrev s__law_both : Stmt := top 44
abbrev N__law_both : List Str := ["one", "two"]
theorem sc__law_both : FnScope ["one", "two"] ["one", "two"] (defScope s__law_both) := ⟨rfl, rfl, rfl, by decide +kernel, rfl, by decide +kernel, by decide +kernel⟩
def b__law_both : MB :=
    (mRet (mTup (mCons (mBin oAdd (mBin oMulA (mBin oIx (mVar 0) (mC (.int 0))) (mBin oIx (mVar 1) (mC (.int 0)))) (mBin oMulA (mBin oIx (mVar 0) (mC (.int 1))) (mBin oIx (mVar 1) (mC (.int 2))))) (mCons (mBin oAdd (mBin oMulA (mBin oIx (mVar 0) (mC (.int 0))) (mBin oIx (mVar 1) (mC (.int 1)))) (mBin oMulA (mBin oIx (mVar 0) (mC (.int 1))) (mBin oIx (mVar 1) (mC (.int 3))))) (mCons (mBin oAdd (mBin oMulA (mBin oIx (mVar 0) (mC (.int 2))) (mBin oIx (mVar 1) (mC (.int 0)))) (mBin oMulA (mBin oIx (mVar 0) (mC (.int 3))) (mBin oIx (mVar 1) (mC (.int 2))))) (mCons (mBin oAdd (mBin oMulA (mBin oIx (mVar 0) (mC (.int 2))) (mBin oIx (mVar 1) (mC (.int 1)))) (mBin oMulA (mBin oIx (mVar 0) (mC (.int 3))) (mBin oIx (mVar 1) (mC (.int 3))))) mNil))))))
def F__law_both : MF := mFun 2 2 b__law_both
theorem ok__law_both (B : Blt mg) {f : Addr} {fd : FuncData} (F : Fun K "_law_both" "_law_both" s__law_both f fd) : FnG P w K mg base CX0 1 f fd ["one", "two"] (spF K 2 F__law_both) :=
  (fn_ok (b := b__law_both) F sc__law_both rfl rfl fun cdv A outer s H E hr =>
    (bvs_one (bv_ret (ev_tup (av_cons (ev_bin or_addAll p_add (ev_bin or_mul p_mulA (ev_ix (ev_var 0) ev_int) (ev_ix (ev_var 1) ev_int)) (ev_bin or_mul p_mulA (ev_ix (ev_var 0) ev_int) (ev_ix (ev_var 1) ev_int))) (av_cons (ev_bin or_addAll p_add (ev_bin or_mul p_mulA (ev_ix (ev_var 0) ev_int) (ev_ix (ev_var 1) ev_int)) (ev_bin or_mul p_mulA (ev_ix (ev_var 0) ev_int) (ev_ix (ev_var 1) ev_int))) (av_cons (ev_bin or_addAll p_add (ev_bin or_mul p_mulA (ev_ix (ev_var 0) ev_int) (ev_ix (ev_var 1) ev_int)) (ev_bin or_mul p_mulA (ev_ix (ev_var 0) ev_int) (ev_ix (ev_var 1) ev_int))) (av_cons (ev_bin or_addAll p_add (ev_bin or_mul p_mulA (ev_ix (ev_var 0) ev_int) (ev_ix (ev_var 1) ev_int)) (ev_bin or_mul p_mulA (ev_ix (ev_var 0) ev_int) (ev_ix (ev_var 1) ev_int))) av_nil))))))))
abbrev s__law_change : Stmt := top 45
abbrev N__law_change : List Str := ["well", "most", "great", "found", "spot", "turn", "step"]
theorem sc__law_change : FnScope ["well", "most", "great", "found", "spot", "turn", "step"] ["well", "most", "great"] (defScope s__law_change) := ⟨rfl, rfl, rfl, by decide +kernel, rfl, by decide +kernel, by decide +kernel⟩
def b__law_change : MB :=
    (mSeq (mPar 3 4 (mCons (mTup (mCons (mC (.int 1)) (mCons (mC (.int 0)) (mCons (mC (.int 0)) (mCons (mC (.int 1)) mNil))))) (mCons (mIf (mTru (mVar 2)) (mCall 2 F__law_draw (mCons (mVar 0) (mCons (mC (.int 12)) mNil))) (mC (.int 12))) mNil)))
    (mSeq (mFor (iR1 (mCons (mCall 2 F__law_draw (mCons (mVar 0) (mCons (mBin oAdd (mVar 1) (mC (.int 1))) mNil))) mNil)) (gN 5) (mSeq (mAsg (mBin oSub (mCall 2 F__law_draw (mCons (mVar 0) (mCons (mC (.int 7)) mNil))) (mC (.int 3))) (gN 6))
    (mSeq (mIfS (mTBin oEq (mVar 5) (mVar 4)) (mAsg (mCall 2 F__law_one (mCons (mVar 0) (mCons (mTup (mCons (mBin oPow (mC (.int 10)) (mC (.int 6))) (mCons (mUn oNeg (mBin oPow (mC (.int 10)) (mC (.int 9)))) (mCons (mBin oAdd (mBin oPow (mC (.int 10)) (mC (.int 10))) (mC (.int 7))) mNil)))) mNil))) (gN 6)) mNx)
    (mAsg (mCall 2 F__law_both (mCons (mVar 3) (mCons (mCall 2 F__law_one (mCons (mVar 0) (mCons (mTup (mCons (mTup (mCons (mC (.int 0)) (mCons (mUn oNeg (mC (.int 1))) (mCons (mC (.int 1)) (mCons (mC (.int 0)) mNil))))) (mCons (mTup (mCons (mC (.int 1)) (mCons (mVar 6) (mCons (mC (.int 0)) (mCons (mC (.int 1)) mNil))))) (mCons (mTup (mCons (mC (.int 1)) (mCons (mC (.int 0)) (mCons (mVar 6) (mCons (mC (.int 1)) mNil))))) mNil)))) mNil))) mNil))) (gN 3)))))
    (mRet (mVar 3))))
def F__law_change : MF := mFun 7 3 b__law_change
theorem ok__law_change (B : Blt mg) {f : Addr} {fd : FuncData} (F : Fun K "_law_change" "_law_change" s__law_change f fd) (d__law_both : Knows P w K mg base 1 "_law_both" 2 F__law_both) (d__law_draw : Knows P w K mg base 1 "_law_draw" 2 F__law_draw) (d__law_one : Knows P w K mg base 2 "_law_one" 2 F__law_one) : FnG P w K mg base CX0 3 f fd ["well", "most", "great"] (spF K 3 F__law_change) :=
  (fn_ok (b := b__law_change) F sc__law_change rfl rfl fun cdv A outer s H E hr =>
    (bvs_cons (bv_par 3 4 rfl sc__law_change.nd (av_cons (ev_tup (av_cons ev_int (av_cons ev_int (av_cons ev_int (av_cons ev_int av_nil))))) (av_cons (ev_if (tv_val (ev_var 2)) (ev_def d__law_draw (hr.mono (by decide)) (av_cons (ev_var 0) (av_cons ev_int av_nil))) ev_int) av_nil)))
    (bvs_cons (bv_for (iv_range1 B.b_range (av_cons (ev_def d__law_draw (hr.mono (by decide)) (av_cons (ev_var 0) (av_cons (ev_bin or_addAll p_add (ev_var 1) ev_int) av_nil))) av_nil)) (gv_name 5 sc__law_change.nd) (bvs_cons (bv_set 6 sc__law_change.nd (ev_bin op_sub p_sub (ev_def d__law_draw (hr.mono (by decide)) (av_cons (ev_var 0) (av_cons ev_int av_nil))) ev_int))
    (bvs_cons (bv_if (tv_cmp (or_eq (hu hr)) p_eq (ev_var 5) (ev_var 4) (nomark _)) (bvs_one (bv_set 6 sc__law_change.nd (ev_def d__law_one (hr.mono (by decide)) (av_cons (ev_var 0) (av_cons (ev_tup (av_cons (ev_bin op_pow p_pow ev_int ev_int) (av_cons (ev_un un_neg p_neg (ev_bin op_pow p_pow ev_int ev_int)) (av_cons (ev_bin or_addAll p_add (ev_bin op_pow p_pow ev_int ev_int) ev_int) av_nil)))) av_nil))))) bvs_nil)
    (bvs_one (bv_set 3 sc__law_change.nd (ev_def d__law_both (hr.mono (by decide)) (av_cons (ev_var 3) (av_cons (ev_def d__law_one (hr.mono (by decide)) (av_cons (ev_var 0) (av_cons (ev_tup (av_cons (ev_tup (av_cons ev_int (av_cons (ev_un un_neg p_neg ev_int) (av_cons ev_int (av_cons ev_int av_nil))))) (av_cons (ev_tup (av_cons ev_int (av_cons (ev_var 6) (av_cons ev_int (av_cons ev_int av_nil))))) (av_cons (ev_tup (av_cons ev_int (av_cons ev_int (av_cons (ev_var 6) (av_cons ev_int av_nil))))) av_nil)))) av_nil))) av_nil))))))) rfl PassesOwn.never)
    (bvs_one (bv_ret (ev_var 3))))))
abbrev s__law_root : Stmt := top 37
abbrev N__law_root : List Str := ["number", "low", "high", "half"]
theorem sc__law_root : FnScope ["number", "low", "high", "half"] ["number"] (defScope s__law_root) := ⟨rfl, rfl, rfl, by decide +kernel, rfl, by decide +kernel, by decide +kernel⟩
def b__law_root : MB :=
    (mSeq (mAsg (mTup (mCons (mC (.int 0)) (mCons (mC (.int 1)) mNil))) (gT 2 (gsCons (gN 1) (gsCons (gN 2) gsNil))))
    (mSeq (mWhile (fun ms => slI ms 0 + 3) (mTBin cLe (mBin oMulA (mVar 2) (mVar 2)) (mVar 0)) (mAsg (mBin oMulA (mC (.int 2)) (mVar 2)) (gN 2)))
    (mSeq (mWhile (fun ms => slI ms 2 + 2) (mTBin cGt (mBin oSub (mVar 2) (mVar 1)) (mC (.int 1))) (mSeq (mAsg (mBin oDiv (mBin oAdd (mVar 1) (mVar 2)) (mC (.int 2))) (gN 3))
    (mIfS (mTBin cLe (mBin oMulA (mVar 3) (mVar 3)) (mVar 0)) (mAsg (mVar 3) (gN 1)) (mAsg (mVar 3) (gN 2)))))
    (mRet (mVar 1)))))
def F__law_root : MF := mFun 4 1 b__law_root
theorem ok__law_root (B : Blt mg) {f : Addr} {fd : FuncData} (F : Fun K "_law_root" "_law_root" s__law_root f fd) : FnG P w K mg base CX0 1 f fd ["number"] (spF K 1 F__law_root) :=
  (fn_ok (b := b__law_root) F sc__law_root rfl rfl fun cdv A outer s H E hr =>
    (bvs_cons (bv_asg (ev_tup (av_cons ev_int (av_cons ev_int av_nil))) (gv_tup rfl (gvs_cons (gv_name 1 sc__law_root.nd) (gvs_cons (gv_name 2 sc__law_root.nd) gvs_nil))))
    (bvs_cons (bv_while (fun ms => slI ms 0 + 3) (tv_cmp op_le (p_cI (p := fun i j => decide (i ≤ j))) (ev_bin or_mul p_mulA (ev_var 2) (ev_var 2)) (ev_var 0) (nomark _)) (bvs_one (bv_set 2 sc__law_root.nd (ev_bin or_mul p_mulA ev_int (ev_var 2)))) PassesOwn.never)
    (bvs_cons (bv_while (fun ms => slI ms 2 + 2) (tv_cmp op_gt (p_cI (p := fun i j => decide (j < i))) (ev_bin op_sub p_sub (ev_var 2) (ev_var 1)) ev_int (nomark _)) (bvs_cons (bv_set 3 sc__law_root.nd (ev_bin op_fdivW p_div (ev_bin or_addAll p_add (ev_var 1) (ev_var 2)) ev_int))
    (bvs_one (bv_if (tv_cmp op_le (p_cI (p := fun i j => decide (i ≤ j))) (ev_bin or_mul p_mulA (ev_var 3) (ev_var 3)) (ev_var 0) (nomark _)) (bvs_one (bv_set 1 sc__law_root.nd (ev_var 3))) (bvs_one (bv_set 2 sc__law_root.nd (ev_var 3)))))) PassesOwn.never)
    (bvs_one (bv_ret (ev_var 1)))))))
abbrev s__law_is_whole : Stmt := top 35
abbrev N__law_is_whole : List Str := ["thing"]
theorem sc__law_is_whole : FnScope ["thing"] ["thing"] (defScope s__law_is_whole) := ⟨rfl, rfl, rfl, by decide +kernel, rfl, by decide +kernel, by decide +kernel⟩
def b__law_is_whole : MB :=
    (mRet (mAndV (mCB oIsi (mCons (mVar 0) (mCons (mC (.ty "int")) mNil))) (mNotV (mCB oIsi (mCons (mVar 0) (mCons (mC (.ty "bool")) mNil))))))
def F__law_is_whole : MF := mFun 1 1 b__law_is_whole
theorem ok__law_is_whole (B : Blt mg) {f : Addr} {fd : FuncData} (F : Fun K "_law_is_whole" "_law_is_whole" s__law_is_whole f fd) : FnG P w K mg base CX0 1 f fd ["thing"] (spF K 1 F__law_is_whole) :=
  (fn_ok (b := b__law_is_whole) F sc__law_is_whole rfl rfl fun cdv A outer s H E hr =>
    (bvs_one (bv_ret (ev_and (ev_callB call_isi c_isi B.b_isinstance bt_isinstance (av_cons (ev_var 0) (av_cons (ev_ty B.b_int bt_int) av_nil))) (ev_one (ev_not (ev_callB call_isi c_isi B.b_isinstance bt_isinstance (av_cons (ev_var 0) (av_cons (ev_ty B.b_bool bt_bool) av_nil)))))))))
abbrev s__law_is_discriminant : Stmt := top 38
abbrev N__law_is_discriminant : List Str := ["thing"]
theorem sc__law_is_discriminant : FnScope ["thing"] ["thing"] (defScope s__law_is_discriminant) := ⟨rfl, rfl, rfl, by decide +kernel, rfl, by decide +kernel, by decide +kernel⟩
def b__law_is_discriminant : MB :=
    (mRet (mAndV (mCall 1 F__law_is_whole (mCons (mVar 0) mNil)) (mAndV (mChain cLe cLe (mUn oNeg (mC (.int 400))) (mVar 0) (mUn oNeg (mC (.int 3)))) (mBin (oB cLt) (mBin oMod (mCB oInt (mCons (mVar 0) mNil)) (mC (.int 4))) (mC (.int 2))))))
def F__law_is_discriminant : MF := mFun 1 1 b__law_is_discriminant
theorem ok__law_is_discriminant (B : Blt mg) {f : Addr} {fd : FuncData} (F : Fun K "_law_is_discriminant" "_law_is_discriminant" s__law_is_discriminant f fd) (d__law_is_whole : Knows P w K mg base 1 "_law_is_whole" 1 F__law_is_whole) : FnG P w K mg base CX0 2 f fd ["thing"] (spF K 1 F__law_is_discriminant) :=
  (fn_ok (b := b__law_is_discriminant) F sc__law_is_discriminant rfl rfl fun cdv A outer s H E hr =>
    (bvs_one (bv_ret (ev_and (ev_def d__law_is_whole (hr.mono (by decide)) (av_cons (ev_var 0) av_nil)) (ev_and (ev_chain op_le (p_cI (p := fun i j => decide (i ≤ j))) op_le (p_cI (p := fun i j => decide (i ≤ j))) (ev_un un_neg p_neg ev_int) (ev_var 0) (ev_un un_neg p_neg ev_int)) (ev_one (ev_cmp op_lt (p_cI (p := fun i j => decide (i < j))) (ev_bin op_mod p_mod (ev_callTy call_int1 c_int B.b_int bt_int (av_cons (ev_var 0) av_nil)) ev_int) ev_int (nomark _))))))))
abbrev s__law_disc_of : Stmt := top 41
abbrev N__law_disc_of : List Str := ["form"]
theorem sc__law_disc_of : FnScope ["form"] ["form"] (defScope s__law_disc_of) := ⟨rfl, rfl, rfl, by decide +kernel, rfl, by decide +kernel, by decide +kernel⟩
def b__law_disc_of : MB :=
    (mRet (mBin oSub (mBin oMulA (mBin oIx (mVar 0) (mC (.int 1))) (mBin oIx (mVar 0) (mC (.int 1)))) (mBin oMulA (mBin oMulA (mC (.int 4)) (mBin oIx (mVar 0) (mC (.int 0)))) (mBin oIx (mVar 0) (mC (.int 2))))))
def F__law_disc_of : MF := mFun 1 1 b__law_disc_of
theorem ok__law_disc_of (B : Blt mg) {f : Addr} {fd : FuncData} (F : Fun K "_law_disc_of" "_law_disc_of" s__law_disc_of f fd) : FnG P w K mg base CX0 1 f fd ["form"] (spF K 1 F__law_disc_of) :=
  (fn_ok (b := b__law_disc_of) F sc__law_disc_of rfl rfl fun cdv A outer s H E hr =>
    (bvs_one (bv_ret (ev_bin op_sub p_sub (ev_bin or_mul p_mulA (ev_ix (ev_var 0) ev_int) (ev_ix (ev_var 0) ev_int)) (ev_bin or_mul p_mulA (ev_bin or_mul p_mulA ev_int (ev_ix (ev_var 0) ev_int)) (ev_ix (ev_var 0) ev_int))))))
abbrev s__law_gcd : Stmt := top 36
abbrev N__law_gcd : List Str := ["one", "two"]
theorem sc__law_gcd : FnScope ["one", "two"] ["one", "two"] (defScope s__law_gcd) := ⟨rfl, rfl, rfl, by decide +kernel, rfl, by decide +kernel, by decide +kernel⟩
def b__law_gcd : MB :=
    (mSeq (mPar 0 1 (mCons (mCB oAbs (mCons (mVar 0) mNil)) (mCons (mCB oAbs (mCons (mVar 1) mNil)) mNil)))
    (mSeq (mWhile (fun ms => slI ms 1 + 1) (mTBin cGt (mVar 1) (mC (.int 0))) (mPar 0 1 (mCons (mVar 1) (mCons (mBin oMod (mCB oInt (mCons (mVar 0) mNil)) (mVar 1)) mNil))))
    (mRet (mVar 0))))
def F__law_gcd : MF := mFun 2 2 b__law_gcd
theorem ok__law_gcd (B : Blt mg) {f : Addr} {fd : FuncData} (F : Fun K "_law_gcd" "_law_gcd" s__law_gcd f fd) : FnG P w K mg base CX0 1 f fd ["one", "two"] (spF K 2 F__law_gcd) :=
  (fn_ok (b := b__law_gcd) F sc__law_gcd rfl rfl fun cdv A outer s H E hr =>
    (bvs_cons (bv_par 0 1 rfl sc__law_gcd.nd (av_cons (ev_callB call_abs c_abs B.b_abs bt_abs (av_cons (ev_var 0) av_nil)) (av_cons (ev_callB call_abs c_abs B.b_abs bt_abs (av_cons (ev_var 1) av_nil)) av_nil)))
    (bvs_cons (bv_while (fun ms => slI ms 1 + 1) (tv_cmp op_gt (p_cI (p := fun i j => decide (j < i))) (ev_var 1) ev_int (nomark _)) (bvs_one (bv_par 0 1 rfl sc__law_gcd.nd (av_cons (ev_var 1) (av_cons (ev_bin op_mod p_mod (ev_callTy call_int1 c_int B.b_int bt_int (av_cons (ev_var 0) av_nil)) (ev_var 1)) av_nil)))) PassesOwn.never)
    (bvs_one (bv_ret (ev_var 0))))))
abbrev s__law_is_form : Stmt := top 42
abbrev N__law_is_form : List Str := ["thing", "x"]
theorem sc__law_is_form : FnScope ["thing", "x"] ["thing"] (defScope s__law_is_form) := ⟨rfl, rfl, rfl, by decide +kernel, rfl, by decide +kernel, by decide +kernel⟩
def b__law_is_form : MB :=
    (mSeq (mIfS (mOr (mNot (mTru (mCB oIsi (mCons (mVar 0) (mCons (mC (.ty "tuple")) mNil))))) (mOr (mTBin oNe (mCB oLen (mCons (mVar 0) mNil)) (mC (.int 3))) (mNot (mTru (mCB oAll (mCons (mComp (iS (mVar 0)) (gN 1) mYes (mCall 1 F__law_is_whole (mCons (mVar 1) mNil)) [1]) mNil)))))) (mRet (mC (.bl false))) mNx)
    (mSeq (mIfS (mOr (mTBin oNe (mCall 2 F__law_gcd (mCons (mBin oIx (mVar 0) (mC (.int 0))) (mCons (mCall 2 F__law_gcd (mCons (mBin oIx (mVar 0) (mC (.int 1))) (mCons (mBin oIx (mVar 0) (mC (.int 2))) mNil))) mNil))) (mC (.int 1))) (mTBin cLt (mBin oIx (mVar 0) (mC (.int 0))) (mC (.int 1)))) (mRet (mC (.bl false))) mNx)
    (mRet (mCall 1 F__law_is_discriminant (mCons (mCall 1 F__law_disc_of (mCons (mVar 0) mNil)) mNil)))))
def F__law_is_form : MF := mFun 2 1 b__law_is_form
theorem ok__law_is_form (B : Blt mg) {f : Addr} {fd : FuncData} (F : Fun K "_law_is_form" "_law_is_form" s__law_is_form f fd) (d__law_disc_of : Knows P w K mg base 1 "_law_disc_of" 1 F__law_disc_of) (d__law_gcd : Knows P w K mg base 1 "_law_gcd" 2 F__law_gcd) (d__law_is_discriminant : Knows P w K mg base 2 "_law_is_discriminant" 1 F__law_is_discriminant) (d__law_is_whole : Knows P w K mg base 1 "_law_is_whole" 1 F__law_is_whole) : FnG P w K mg base CX0 3 f fd ["thing"] (spF K 1 F__law_is_form) :=
  (fn_ok (b := b__law_is_form) F sc__law_is_form rfl rfl fun cdv A outer s H E hr =>
    (bvs_cons (bv_if (tv_pw (wv_or (tv_not (tv_val (ev_callB call_isi c_isi B.b_isinstance bt_isinstance (av_cons (ev_var 0) (av_cons (ev_ty B.b_tuple bt_tuple) av_nil))))) (wv_or (tv_cmp (or_ne (hu hr)) p_ne (ev_callB call_len c_len B.b_len bt_len (av_cons (ev_var 0) av_nil)) ev_int (nomark _)) (wv_or1 (tv_not (tv_val (ev_callB (cr_all rfl) c_all B.b_all bt_all (av_cons (ev_lc rfl sc__law_is_form.nd (iv_seq (ev_var 0)) (tg_name (by decide)) (blkOk_by (own := [("x", 1)]) (N := N__law_is_form) (sc := defScope s__law_is_form) (by decide +kernel)) rfl (fun _ _ _ _ _ => pg_name (i := 1) sc__law_is_form.nd rfl (Or.inl rfl)) (fun _ _ _ _ _ => tvs_nil) (fun _ _ _ _ _ => (ev_def d__law_is_whole (hr.mono (by decide)) (av_cons (ev_var 1) av_nil)))) av_nil)))))))) (bvs_one (bv_ret ev_bl)) bvs_nil)
    (bvs_cons (bv_if (tv_pw (wv_or (tv_cmp (or_ne (hu hr)) p_ne (ev_def d__law_gcd (hr.mono (by decide)) (av_cons (ev_ix (ev_var 0) ev_int) (av_cons (ev_def d__law_gcd (hr.mono (by decide)) (av_cons (ev_ix (ev_var 0) ev_int) (av_cons (ev_ix (ev_var 0) ev_int) av_nil))) av_nil))) ev_int (nomark _)) (wv_or1 (tv_cmp op_lt (p_cI (p := fun i j => decide (i < j))) (ev_ix (ev_var 0) ev_int) ev_int (nomark _))))) (bvs_one (bv_ret ev_bl)) bvs_nil)
    (bvs_one (bv_ret (ev_def d__law_is_discriminant (hr.mono (by decide)) (av_cons (ev_def d__law_disc_of (hr.mono (by decide)) (av_cons (ev_var 0) av_nil)) av_nil)))))))
abbrev s__law_is_reduced : Stmt := top 48
abbrev N__law_is_reduced : List Str := ["form", "a", "b", "c"]
theorem sc__law_is_reduced : FnScope ["form", "a", "b", "c"] ["form"] (defScope s__law_is_reduced) := ⟨rfl, rfl, rfl, by decide +kernel, rfl, by decide +kernel, by decide +kernel⟩
def b__law_is_reduced : MB :=
    (mSeq (mAsg (mVar 0) (gT 3 (gsCons (gN 1) (gsCons (gN 2) (gsCons (gN 3) gsNil)))))
    (mRet (mAndV (mChain3 cLe cLe cLe (mBin oSub (mC (.int 0)) (mVar 1)) (mVar 2) (mVar 1) (mVar 3)) (mOrV (mBin (oB cGe) (mVar 2) (mC (.int 0))) (mAndV (mBin (oB oNe) (mBin oSub (mC (.int 0)) (mVar 2)) (mVar 1)) (mBin (oB oNe) (mVar 1) (mVar 3)))))))
def F__law_is_reduced : MF := mFun 4 1 b__law_is_reduced
theorem ok__law_is_reduced (B : Blt mg) {f : Addr} {fd : FuncData} (F : Fun K "_law_is_reduced" "_law_is_reduced" s__law_is_reduced f fd) : FnG P w K mg base CX0 1 f fd ["form"] (spF K 1 F__law_is_reduced) :=
  (fn_ok (b := b__law_is_reduced) F sc__law_is_reduced rfl rfl fun cdv A outer s H E hr =>
    (bvs_cons (bv_asg (ev_var 0) (gv_tup rfl (gvs_cons (gv_name 1 sc__law_is_reduced.nd) (gvs_cons (gv_name 2 sc__law_is_reduced.nd) (gvs_cons (gv_name 3 sc__law_is_reduced.nd) gvs_nil)))))
    (bvs_one (bv_ret (ev_and (ev_chain3 op_le (p_cI (p := fun i j => decide (i ≤ j))) op_le (p_cI (p := fun i j => decide (i ≤ j))) op_le (p_cI (p := fun i j => decide (i ≤ j))) (ev_bin op_sub p_sub ev_int (ev_var 1)) (ev_var 2) (ev_var 1) (ev_var 3)) (ev_one (ev_or (ev_cmp op_ge (p_cI (p := fun i j => decide (j ≤ i))) (ev_var 2) ev_int (nomark _)) (ev_one (ev_and (ev_cmp (or_ne (hu hr)) p_ne (ev_bin op_sub p_sub ev_int (ev_var 2)) (ev_var 1) (nomark _)) (ev_one (ev_cmp (or_ne (hu hr)) p_ne (ev_var 1) (ev_var 3) (nomark _))))))))))))
abbrev s__law_classes : Stmt := top 49
abbrev N__law_classes : List Str := ["number", "found", "a", "b", "form"]
theorem sc__law_classes : FnScope ["number", "found", "a", "b", "form"] ["number"] (defScope s__law_classes) := ⟨rfl, rfl, rfl, by decide +kernel, rfl, by decide +kernel, by decide +kernel⟩
def b__law_classes : MB :=
    (mSeq (mAsg (mLstC mNil) (gN 1))
    (mSeq (mFor (iR2 (mCons (mC (.int 1)) (mCons (mBin oAdd (mCall 1 F__law_root (mCons (mBin oDiv (mBin oSub (mC (.int 0)) (mVar 0)) (mC (.int 3))) mNil)) (mC (.int 1))) mNil))) (gN 2) (mFor (iR2 (mCons (mBin oSub (mC (.int 0)) (mVar 2)) (mCons (mBin oAdd (mVar 2) (mC (.int 1))) mNil))) (gN 3) (mIfS (mTBin oEq (mBin oMod (mCB oInt (mCons (mBin oSub (mBin oMulA (mVar 3) (mVar 3)) (mVar 0)) mNil)) (mBin oMulA (mC (.int 4)) (mVar 2))) (mC (.int 0))) (mSeq (mAsg (mTup (mCons (mVar 2) (mCons (mVar 3) (mCons (mBin oDiv (mBin oSub (mBin oMulA (mVar 3) (mVar 3)) (mVar 0)) (mBin oMulA (mC (.int 4)) (mVar 2))) mNil)))) (gN 4))
    (mIfS (mAnd (mTru (mCall 1 F__law_is_form (mCons (mVar 4) mNil))) (mTru (mCall 1 F__law_is_reduced (mCons (mVar 4) mNil)))) (mDrop (mApp (mVar 1) (mCons (mVar 4) mNil))) mNx)) mNx)))
    (mRet (mVar 1))))
def F__law_classes : MF := mFrz (mFun 5 1 b__law_classes)
theorem ok__law_classes (B : Blt mg) {f : Addr} {fd : FuncData} (F : Fun K "_law_classes" "_law_classes" s__law_classes f fd) (d__law_is_form : Knows P w K mg base 3 "_law_is_form" 1 F__law_is_form) (d__law_is_reduced : Knows P w K mg base 1 "_law_is_reduced" 1 F__law_is_reduced) (d__law_root : Knows P w K mg base 1 "_law_root" 1 F__law_root) : FnG P w K mg base CX0 4 f fd ["number"] (spF K 1 F__law_classes) :=
  fn_frz (fn_ok (b := b__law_classes) F sc__law_classes rfl rfl fun cdv A outer s H E hr =>
    (bvs_cons (bv_set 1 sc__law_classes.nd (ev_lstC av_nil))
    (bvs_cons (bv_for (iv_range2 B.b_range (av_cons ev_int (av_cons (ev_bin or_addAll p_add (ev_def d__law_root (hr.mono (by decide)) (av_cons (ev_bin op_fdivW p_div (ev_bin op_sub p_sub ev_int (ev_var 0)) ev_int) av_nil)) ev_int) av_nil))) (gv_name 2 sc__law_classes.nd) (bvs_one (bv_for (iv_range2 B.b_range (av_cons (ev_bin op_sub p_sub ev_int (ev_var 2)) (av_cons (ev_bin or_addAll p_add (ev_var 2) ev_int) av_nil))) (gv_name 3 sc__law_classes.nd) (bvs_one (bv_if (tv_cmp (or_eq (hu hr)) p_eq (ev_bin op_mod p_mod (ev_callTy call_int1 c_int B.b_int bt_int (av_cons (ev_bin op_sub p_sub (ev_bin or_mul p_mulA (ev_var 3) (ev_var 3)) (ev_var 0)) av_nil)) (ev_bin or_mul p_mulA ev_int (ev_var 2))) ev_int (nomark _)) (bvs_cons (bv_set 4 sc__law_classes.nd (ev_tup (av_cons (ev_var 2) (av_cons (ev_var 3) (av_cons (ev_bin op_fdivW p_div (ev_bin op_sub p_sub (ev_bin or_mul p_mulA (ev_var 3) (ev_var 3)) (ev_var 0)) (ev_bin or_mul p_mulA ev_int (ev_var 2))) av_nil)))))
    (bvs_one (bv_if (tv_pw (wv_and (tv_val (ev_def d__law_is_form (hr.mono (by decide)) (av_cons (ev_var 4) av_nil))) (wv_and1 (tv_val (ev_def d__law_is_reduced (hr.mono (by decide)) (av_cons (ev_var 4) av_nil)))))) (bvs_one (bv_expr (ev_app (ev_var 1) (av_cons (ev_var 4) av_nil)))) bvs_nil))) bvs_nil)) rfl PassesOwn.never)) rfl PassesOwn.never)
    (bvs_one (bv_ret (ev_var 1))))))
abbrev s__law_form : Stmt := top 50
abbrev N__law_form : List Str := ["well", "number", "great"]
theorem sc__law_form : FnScope ["well", "number", "great"] ["well", "number", "great"] (defScope s__law_form) := ⟨rfl, rfl, rfl, by decide +kernel, rfl, by decide +kernel, by decide +kernel⟩
def b__law_form : MB :=
    (mRet (mCall 2 F__law_led (mCons (mCall 2 F__law_one (mCons (mVar 0) (mCons (mCall 1 F__law_classes (mCons (mVar 1) mNil)) mNil))) (mCons (mCall 3 F__law_change (mCons (mVar 0) (mCons (mC (.int 4)) (mCons (mVar 2) mNil)))) mNil))))
def F__law_form : MF := mFun 3 3 b__law_form
theorem ok__law_form (B : Blt mg) {f : Addr} {fd : FuncData} (F : Fun K "_law_form" "_law_form" s__law_form f fd) (d__law_change : Knows P w K mg base 3 "_law_change" 3 F__law_change) (d__law_classes : Knows P w K mg base 4 "_law_classes" 1 F__law_classes) (d__law_led : Knows P w K mg base 2 "_law_led" 2 F__law_led) (d__law_one : Knows P w K mg base 2 "_law_one" 2 F__law_one) : FnG P w K mg base CX0 5 f fd ["well", "number", "great"] (spF K 3 F__law_form) :=
  (fn_ok (b := b__law_form) F sc__law_form rfl rfl fun cdv A outer s H E hr =>
    (bvs_one (bv_ret (ev_def d__law_led (hr.mono (by decide)) (av_cons (ev_def d__law_one (hr.mono (by decide)) (av_cons (ev_var 0) (av_cons (ev_def d__law_classes (hr.mono (by decide)) (av_cons (ev_var 1) av_nil)) av_nil))) (av_cons (ev_def d__law_change (hr.mono (by decide)) (av_cons (ev_var 0) (av_cons ev_int (av_cons (ev_var 2) av_nil)))) av_nil))))))
abbrev s__law_way_down : Stmt := top 46
abbrev N__law_way_down : List Str := ["form", "found", "here", "step"]
theorem sc__law_way_down : FnScope ["form", "found", "here", "step"] ["form"] (defScope s__law_way_down) := ⟨rfl, rfl, rfl, by decide +kernel, rfl, by decide +kernel, by decide +kernel⟩
def b__law_way_down : MB :=
    (mSeq (mPar 1 2 (mCons (mTup (mCons (mC (.int 1)) (mCons (mC (.int 0)) (mCons (mC (.int 0)) (mCons (mC (.int 1)) mNil))))) (mCons (mVar 0) mNil)))
    (mWhile (fun ms => slT ms 2 0 + 2) (mTru (mC (.bl true))) (mSeq (mAsg (mBin oDiv (mBin oSub (mBin oIx (mVar 2) (mC (.int 0))) (mBin oIx (mVar 2) (mC (.int 1)))) (mBin oMulA (mC (.int 2)) (mBin oIx (mVar 2) (mC (.int 0))))) (gN 3))
    (mSeq (mAsg (mCall 2 F__law_both (mCons (mVar 1) (mCons (mTup (mCons (mC (.int 1)) (mCons (mVar 3) (mCons (mC (.int 0)) (mCons (mC (.int 1)) mNil))))) mNil))) (gN 1))
    (mSeq (mAsg (mCall 2 F__law_led (mCons (mVar 2) (mCons (mTup (mCons (mC (.int 1)) (mCons (mVar 3) (mCons (mC (.int 0)) (mCons (mC (.int 1)) mNil))))) mNil))) (gN 2))
    (mSeq (mIfS (mOr (mTBin cLt (mBin oIx (mVar 2) (mC (.int 0))) (mBin oIx (mVar 2) (mC (.int 2)))) (mAnd (mTBin oEq (mBin oIx (mVar 2) (mC (.int 0))) (mBin oIx (mVar 2) (mC (.int 2)))) (mTBin cGe (mBin oIx (mVar 2) (mC (.int 1))) (mC (.int 0))))) (mRet (mVar 1)) mNx)
    (mSeq (mAsg (mCall 2 F__law_both (mCons (mVar 1) (mCons (mTup (mCons (mC (.int 0)) (mCons (mUn oNeg (mC (.int 1))) (mCons (mC (.int 1)) (mCons (mC (.int 0)) mNil))))) mNil))) (gN 1))
    (mAsg (mCall 2 F__law_led (mCons (mVar 2) (mCons (mTup (mCons (mC (.int 0)) (mCons (mUn oNeg (mC (.int 1))) (mCons (mC (.int 1)) (mCons (mC (.int 0)) mNil))))) mNil))) (gN 2)))))))))
def F__law_way_down : MF := mFun 4 1 b__law_way_down
theorem ok__law_way_down (B : Blt mg) {f : Addr} {fd : FuncData} (F : Fun K "_law_way_down" "_law_way_down" s__law_way_down f fd) (d__law_both : Knows P w K mg base 1 "_law_both" 2 F__law_both) (d__law_led : Knows P w K mg base 2 "_law_led" 2 F__law_led) : FnG P w K mg base CX0 3 f fd ["form"] (spF K 1 F__law_way_down) :=
  (fn_ok (b := b__law_way_down) F sc__law_way_down rfl rfl fun cdv A outer s H E hr =>
    (bvs_cons (bv_par 1 2 rfl sc__law_way_down.nd (av_cons (ev_tup (av_cons ev_int (av_cons ev_int (av_cons ev_int (av_cons ev_int av_nil))))) (av_cons (ev_var 0) av_nil)))
    (bvs_one (bv_while (fun ms => slT ms 2 0 + 2) (tv_val ev_bl) (bvs_cons (bv_set 3 sc__law_way_down.nd (ev_bin op_fdivW p_div (ev_bin op_sub p_sub (ev_ix (ev_var 2) ev_int) (ev_ix (ev_var 2) ev_int)) (ev_bin or_mul p_mulA ev_int (ev_ix (ev_var 2) ev_int))))
    (bvs_cons (bv_set 1 sc__law_way_down.nd (ev_def d__law_both (hr.mono (by decide)) (av_cons (ev_var 1) (av_cons (ev_tup (av_cons ev_int (av_cons (ev_var 3) (av_cons ev_int (av_cons ev_int av_nil))))) av_nil))))
    (bvs_cons (bv_set 2 sc__law_way_down.nd (ev_def d__law_led (hr.mono (by decide)) (av_cons (ev_var 2) (av_cons (ev_tup (av_cons ev_int (av_cons (ev_var 3) (av_cons ev_int (av_cons ev_int av_nil))))) av_nil))))
    (bvs_cons (bv_if (tv_pw (wv_or (tv_cmp op_lt (p_cI (p := fun i j => decide (i < j))) (ev_ix (ev_var 2) ev_int) (ev_ix (ev_var 2) ev_int) (nomark _)) (wv_or1 (tv_pw (wv_and (tv_cmp (or_eq (hu hr)) p_eq (ev_ix (ev_var 2) ev_int) (ev_ix (ev_var 2) ev_int) (nomark _)) (wv_and1 (tv_cmp op_ge (p_cI (p := fun i j => decide (j ≤ i))) (ev_ix (ev_var 2) ev_int) ev_int (nomark _)))))))) (bvs_one (bv_ret (ev_var 1))) bvs_nil)
    (bvs_cons (bv_set 1 sc__law_way_down.nd (ev_def d__law_both (hr.mono (by decide)) (av_cons (ev_var 1) (av_cons (ev_tup (av_cons ev_int (av_cons (ev_un un_neg p_neg ev_int) (av_cons ev_int (av_cons ev_int av_nil))))) av_nil))))
    (bvs_one (bv_set 2 sc__law_way_down.nd (ev_def d__law_led (hr.mono (by decide)) (av_cons (ev_var 2) (av_cons (ev_tup (av_cons ev_int (av_cons (ev_un un_neg p_neg ev_int) (av_cons ev_int (av_cons ev_int av_nil))))) av_nil)))))))))) PassesOwn.never))))
abbrev s__law_reduced : Stmt := top 47
abbrev N__law_reduced : List Str := ["form"]
theorem sc__law_reduced : FnScope ["form"] ["form"] (defScope s__law_reduced) := ⟨rfl, rfl, rfl, by decide +kernel, rfl, by decide +kernel, by decide +kernel⟩
def b__law_reduced : MB :=
    (mRet (mCall 2 F__law_led (mCons (mVar 0) (mCons (mCall 1 F__law_way_down (mCons (mVar 0) mNil)) mNil))))
def F__law_reduced : MF := mFun 1 1 b__law_reduced
theorem ok__law_reduced (B : Blt mg) {f : Addr} {fd : FuncData} (F : Fun K "_law_reduced" "_law_reduced" s__law_reduced f fd) (d__law_led : Knows P w K mg base 2 "_law_led" 2 F__law_led) (d__law_way_down : Knows P w K mg base 3 "_law_way_down" 1 F__law_way_down) : FnG P w K mg base CX0 4 f fd ["form"] (spF K 1 F__law_reduced) :=
  (fn_ok (b := b__law_reduced) F sc__law_reduced rfl rfl fun cdv A outer s H E hr =>
    (bvs_one (bv_ret (ev_def d__law_led (hr.mono (by decide)) (av_cons (ev_var 0) (av_cons (ev_def d__law_way_down (hr.mono (by decide)) (av_cons (ev_var 0) av_nil)) av_nil))))))
abbrev s__law_completed : Stmt := top 51
abbrev N__law_completed : List Str := ["x", "y", "one", "two", "p", "q", "r", "s", "times"]
theorem sc__law_completed : FnScope ["x", "y", "one", "two", "p", "q", "r", "s", "times"] ["x", "y"] (defScope s__law_completed) := ⟨rfl, rfl, rfl, by decide +kernel, rfl, by decide +kernel, by decide +kernel⟩
def b__law_completed : MB :=
    (mSeq (mAsg (mTup (mCons (mVar 0) (mCons (mVar 1) (mCons (mC (.int 1)) (mCons (mC (.int 0)) (mCons (mC (.int 0)) (mCons (mC (.int 1)) mNil))))))) (gT 6 (gsCons (gN 2) (gsCons (gN 3) (gsCons (gN 4) (gsCons (gN 5) (gsCons (gN 6) (gsCons (gN 7) gsNil))))))))
    (mSeq (mWhile (fun ms => slI ms 3 + 2) (mTBin oNe (mVar 3) (mC (.int 0))) (mSeq (mAsg (mBin oDiv (mVar 2) (mVar 3)) (gN 8))
    (mAsg (mTup (mCons (mVar 3) (mCons (mBin oSub (mVar 2) (mBin oMulA (mVar 8) (mVar 3))) (mCons (mVar 6) (mCons (mVar 7) (mCons (mBin oSub (mVar 4) (mBin oMulA (mVar 8) (mVar 6))) (mCons (mBin oSub (mVar 5) (mBin oMulA (mVar 8) (mVar 7))) mNil))))))) (gT 6 (gsCons (gN 2) (gsCons (gN 3) (gsCons (gN 4) (gsCons (gN 5) (gsCons (gN 6) (gsCons (gN 7) gsNil))))))))))
    (mRet (mTup (mCons (mVar 0) (mCons (mBin oSub (mC (.int 0)) (mBin oMulA (mVar 5) (mVar 2))) (mCons (mVar 1) (mCons (mBin oMulA (mVar 4) (mVar 2)) mNil))))))))
def F__law_completed : MF := mFun 9 2 b__law_completed
theorem ok__law_completed (B : Blt mg) {f : Addr} {fd : FuncData} (F : Fun K "_law_completed" "_law_completed" s__law_completed f fd) : FnG P w K mg base CX0 1 f fd ["x", "y"] (spF K 2 F__law_completed) :=
  (fn_ok (b := b__law_completed) F sc__law_completed rfl rfl fun cdv A outer s H E hr =>
    (bvs_cons (bv_asg (ev_tup (av_cons (ev_var 0) (av_cons (ev_var 1) (av_cons ev_int (av_cons ev_int (av_cons ev_int (av_cons ev_int av_nil))))))) (gv_tup rfl (gvs_cons (gv_name 2 sc__law_completed.nd) (gvs_cons (gv_name 3 sc__law_completed.nd) (gvs_cons (gv_name 4 sc__law_completed.nd) (gvs_cons (gv_name 5 sc__law_completed.nd) (gvs_cons (gv_name 6 sc__law_completed.nd) (gvs_cons (gv_name 7 sc__law_completed.nd) gvs_nil))))))))
    (bvs_cons (bv_while (fun ms => slI ms 3 + 2) (tv_cmp (or_ne (hu hr)) p_ne (ev_var 3) ev_int (nomark _)) (bvs_cons (bv_set 8 sc__law_completed.nd (ev_bin op_fdivW p_div (ev_var 2) (ev_var 3)))
    (bvs_one (bv_asg (ev_tup (av_cons (ev_var 3) (av_cons (ev_bin op_sub p_sub (ev_var 2) (ev_bin or_mul p_mulA (ev_var 8) (ev_var 3))) (av_cons (ev_var 6) (av_cons (ev_var 7) (av_cons (ev_bin op_sub p_sub (ev_var 4) (ev_bin or_mul p_mulA (ev_var 8) (ev_var 6))) (av_cons (ev_bin op_sub p_sub (ev_var 5) (ev_bin or_mul p_mulA (ev_var 8) (ev_var 7))) av_nil))))))) (gv_tup rfl (gvs_cons (gv_name 2 sc__law_completed.nd) (gvs_cons (gv_name 3 sc__law_completed.nd) (gvs_cons (gv_name 4 sc__law_completed.nd) (gvs_cons (gv_name 5 sc__law_completed.nd) (gvs_cons (gv_name 6 sc__law_completed.nd) (gvs_cons (gv_name 7 sc__law_completed.nd) gvs_nil)))))))))) PassesOwn.never)
    (bvs_one (bv_ret (ev_tup (av_cons (ev_var 0) (av_cons (ev_bin op_sub p_sub ev_int (ev_bin or_mul p_mulA (ev_var 5) (ev_var 2))) (av_cons (ev_var 1) (av_cons (ev_bin or_mul p_mulA (ev_var 4) (ev_var 2)) av_nil))))))))))
abbrev s__law_turned : Stmt := top 52
abbrev N__law_turned : List Str := ["form", "number", "great", "x", "y"]
theorem sc__law_turned : FnScope ["form", "number", "great", "x", "y"] ["form", "number"] (defScope s__law_turned) := ⟨rfl, rfl, rfl, by decide +kernel, rfl, by decide +kernel, by decide +kernel⟩
def b__law_turned : MB :=
    (mSeq (mFor (iR2 (mCons (mC (.int 1)) (mCons (mC (.int 40)) mNil))) (gN 2) (mFor (iR1 (mCons (mBin oAdd (mVar 2) (mC (.int 1))) mNil)) (gN 3) (mSeq (mAsg (mBin oSub (mVar 2) (mVar 3)) (gN 4))
    (mIfS (mAnd (mTBin oEq (mCall 2 F__law_gcd (mCons (mVar 3) (mCons (mVar 4) mNil))) (mC (.int 1))) (mTBin oEq (mCall 2 F__law_gcd (mCons (mCall 3 F__law_value (mCons (mVar 0) (mCons (mVar 3) (mCons (mVar 4) mNil)))) (mCons (mVar 1) mNil))) (mC (.int 1)))) (mRet (mCall 2 F__law_led (mCons (mVar 0) (mCons (mCall 2 F__law_completed (mCons (mVar 3) (mCons (mVar 4) mNil))) mNil)))) mNx))))
    (mRet (mVar 0)))
def F__law_turned : MF := mFun 5 2 b__law_turned
theorem ok__law_turned (B : Blt mg) {f : Addr} {fd : FuncData} (F : Fun K "_law_turned" "_law_turned" s__law_turned f fd) (d__law_completed : Knows P w K mg base 1 "_law_completed" 2 F__law_completed) (d__law_gcd : Knows P w K mg base 1 "_law_gcd" 2 F__law_gcd) (d__law_led : Knows P w K mg base 2 "_law_led" 2 F__law_led) (d__law_value : Knows P w K mg base 1 "_law_value" 3 F__law_value) : FnG P w K mg base CX0 3 f fd ["form", "number"] (spF K 2 F__law_turned) :=
  (fn_ok (b := b__law_turned) F sc__law_turned rfl rfl fun cdv A outer s H E hr =>
    (bvs_cons (bv_for (iv_range2 B.b_range (av_cons ev_int (av_cons ev_int av_nil))) (gv_name 2 sc__law_turned.nd) (bvs_one (bv_for (iv_range1 B.b_range (av_cons (ev_bin or_addAll p_add (ev_var 2) ev_int) av_nil)) (gv_name 3 sc__law_turned.nd) (bvs_cons (bv_set 4 sc__law_turned.nd (ev_bin op_sub p_sub (ev_var 2) (ev_var 3)))
    (bvs_one (bv_if (tv_pw (wv_and (tv_cmp (or_eq (hu hr)) p_eq (ev_def d__law_gcd (hr.mono (by decide)) (av_cons (ev_var 3) (av_cons (ev_var 4) av_nil))) ev_int (nomark _)) (wv_and1 (tv_cmp (or_eq (hu hr)) p_eq (ev_def d__law_gcd (hr.mono (by decide)) (av_cons (ev_def d__law_value (hr.mono (by decide)) (av_cons (ev_var 0) (av_cons (ev_var 3) (av_cons (ev_var 4) av_nil)))) (av_cons (ev_var 1) av_nil))) ev_int (nomark _))))) (bvs_one (bv_ret (ev_def d__law_led (hr.mono (by decide)) (av_cons (ev_var 0) (av_cons (ev_def d__law_completed (hr.mono (by decide)) (av_cons (ev_var 3) (av_cons (ev_var 4) av_nil))) av_nil))))) bvs_nil))) rfl PassesOwn.never)) rfl PassesOwn.never)
    (bvs_one (bv_ret (ev_var 0)))))
abbrev s__law_product : Stmt := top 53
abbrev N__law_product : List Str := ["one", "two", "other", "number", "step", "middle", "first"]
theorem sc__law_product : FnScope ["one", "two", "other", "number", "step", "middle", "first"] ["one", "two"] (defScope s__law_product) := ⟨rfl, rfl, rfl, by decide +kernel, rfl, by decide +kernel, by decide +kernel⟩
def b__law_product : MB :=
    (mSeq (mPar 2 3 (mCons (mCall 2 F__law_turned (mCons (mVar 1) (mCons (mBin oIx (mVar 0) (mC (.int 0))) mNil))) (mCons (mCall 1 F__law_disc_of (mCons (mVar 0) mNil)) mNil)))
    (mSeq (mAsg (mC (.int 0)) (gN 4))
    (mSeq (mWhile (fun _ => 900) (mTBin oNe (mBin oMod (mCB oInt (mCons (mBin oSub (mBin oAdd (mBin oIx (mVar 0) (mC (.int 1))) (mBin oMulA (mBin oMulA (mC (.int 2)) (mBin oIx (mVar 0) (mC (.int 0)))) (mVar 4))) (mBin oIx (mVar 2) (mC (.int 1)))) mNil)) (mBin oMulA (mC (.int 2)) (mBin oIx (mVar 2) (mC (.int 0))))) (mC (.int 0))) (mAsg (mBin oAdd (mVar 4) (mC (.int 1))) (gN 4)))
    (mSeq (mPar 5 6 (mCons (mBin oAdd (mBin oIx (mVar 0) (mC (.int 1))) (mBin oMulA (mBin oMulA (mC (.int 2)) (mBin oIx (mVar 0) (mC (.int 0)))) (mVar 4))) (mCons (mBin oMulA (mBin oIx (mVar 0) (mC (.int 0))) (mBin oIx (mVar 2) (mC (.int 0)))) mNil)))
    (mRet (mCall 1 F__law_reduced (mCons (mTup (mCons (mVar 6) (mCons (mVar 5) (mCons (mBin oDiv (mBin oSub (mBin oMulA (mVar 5) (mVar 5)) (mVar 3)) (mBin oMulA (mC (.int 4)) (mVar 6))) mNil)))) mNil)))))))
def F__law_product : MF := mFun 7 2 b__law_product
theorem ok__law_product (B : Blt mg) {f : Addr} {fd : FuncData} (F : Fun K "_law_product" "_law_product" s__law_product f fd) (d__law_disc_of : Knows P w K mg base 1 "_law_disc_of" 1 F__law_disc_of) (d__law_reduced : Knows P w K mg base 4 "_law_reduced" 1 F__law_reduced) (d__law_turned : Knows P w K mg base 3 "_law_turned" 2 F__law_turned) : FnG P w K mg base CX0 5 f fd ["one", "two"] (spF K 2 F__law_product) :=
  (fn_ok (b := b__law_product) F sc__law_product rfl rfl fun cdv A outer s H E hr =>
    (bvs_cons (bv_par 2 3 rfl sc__law_product.nd (av_cons (ev_def d__law_turned (hr.mono (by decide)) (av_cons (ev_var 1) (av_cons (ev_ix (ev_var 0) ev_int) av_nil))) (av_cons (ev_def d__law_disc_of (hr.mono (by decide)) (av_cons (ev_var 0) av_nil)) av_nil)))
    (bvs_cons (bv_set 4 sc__law_product.nd ev_int)
    (bvs_cons (bv_while (fun _ => 900) (tv_cmp (or_ne (hu hr)) p_ne (ev_bin op_mod p_mod (ev_callTy call_int1 c_int B.b_int bt_int (av_cons (ev_bin op_sub p_sub (ev_bin or_addAll p_add (ev_ix (ev_var 0) ev_int) (ev_bin or_mul p_mulA (ev_bin or_mul p_mulA ev_int (ev_ix (ev_var 0) ev_int)) (ev_var 4))) (ev_ix (ev_var 2) ev_int)) av_nil)) (ev_bin or_mul p_mulA ev_int (ev_ix (ev_var 2) ev_int))) ev_int (nomark _)) (bvs_one (bv_set 4 sc__law_product.nd (ev_bin or_addAll p_add (ev_var 4) ev_int))) PassesOwn.never)
    (bvs_cons (bv_par 5 6 rfl sc__law_product.nd (av_cons (ev_bin or_addAll p_add (ev_ix (ev_var 0) ev_int) (ev_bin or_mul p_mulA (ev_bin or_mul p_mulA ev_int (ev_ix (ev_var 0) ev_int)) (ev_var 4))) (av_cons (ev_bin or_mul p_mulA (ev_ix (ev_var 0) ev_int) (ev_ix (ev_var 2) ev_int)) av_nil)))
    (bvs_one (bv_ret (ev_def d__law_reduced (hr.mono (by decide)) (av_cons (ev_tup (av_cons (ev_var 6) (av_cons (ev_var 5) (av_cons (ev_bin op_fdivW p_div (ev_bin op_sub p_sub (ev_bin or_mul p_mulA (ev_var 5) (ev_var 5)) (ev_var 3)) (ev_bin or_mul p_mulA ev_int (ev_var 6))) av_nil)))) av_nil)))))))))
abbrev s__law_is_refused : Stmt := top 55
abbrev N__law_is_refused : List Str := ["form", "other", "found", "turn", "e"]
theorem sc__law_is_refused : FnScope ["form", "other", "found", "turn", "e"] ["form", "other"] (defScope s__law_is_refused) := ⟨rfl, rfl, rfl, by decide +kernel, rfl, by decide +kernel, by decide +kernel⟩
noncomputable def b__law_is_refused : MB :=
    (mSeq (mAsg (mLstC mNil) (gN 2))
    (mSeq (mFor (iR1 (mCons (mC (.int 2)) mNil)) (gN 3) (mTry subX fldX (mDrop (mApp (mVar 2) (mCons (mIf (mTBin oEq (mVar 3) (mC (.int 0))) (mCall 2 F_composed (mCons (mVar 0) (mCons (mVar 1) mNil))) (mCallK 2 (permK [1, 0]) F_composing_numbers mNil (mCons (mVar 1) (mCons (mVar 0) mNil)))) mNil))) (zS (yApp (mVar 2) (yIf (mTBin oEq (mVar 3) (mC (.int 0))) (yCall 2 Z_composed (mCons (mVar 0) (mCons (mVar 1) mNil))) (yCallK 2 [1, 0] Z_composing_numbers (mCons (mVar 1) (mCons (mVar 0) mNil)))))) (⟨"OtherDiscriminant", some 4, fun a dd => (mDrop (mApp (mVar 2) (mCons (mCB oRepr (mCons (mExcF a dd "given" (mVar 4)) mNil)) mNil)))⟩ :: [])))
    (mRet (mBin (oB oEq) (mVar 2) (mLst (mCons (mCB oRepr (mCons (mVar 1) mNil)) (mCons (mCB oRepr (mCons (mVar 1) mNil)) mNil)))))))
noncomputable def F__law_is_refused : MF := mFrz (mFun 5 2 b__law_is_refused)
theorem ok__law_is_refused (B : Blt mg) {f : Addr} {fd : FuncData} (F : Fun K "_law_is_refused" "_law_is_refused" s__law_is_refused f fd) (d_composed : Knows P w K mg base 8 "composed" 2 F_composed) (k_composing_numbers_1_0 : KnowsK P w K mg base 7 "composing_numbers" 2 F_composing_numbers ["other", "form"] [1, 0]) (XF : XFacts P K mg cls) (x_composed : KnowsX P w K mg base (tau cls) 8 "composed" 2 Z_composed) (xk_composing_numbers_1_0 : KnowsXK P w K mg base (tau cls) 7 "composing_numbers" 2 Z_composing_numbers ["other", "form"] [1, 0]) : FnG P w K mg base CX0 9 f fd ["form", "other"] (spF K 2 F__law_is_refused) :=
  fn_frz (fn_ok (b := b__law_is_refused) F sc__law_is_refused rfl rfl fun cdv A outer s H E hr =>
    (bvs_cons (bv_set 2 sc__law_is_refused.nd (ev_lstC av_nil))
    (bvs_cons (bv_for (iv_range1 B.b_range (av_cons ev_int av_nil)) (gv_name 3 sc__law_is_refused.nd) (bvs_one (bv_try (τ := tau cls) (sub := subX) (fld := fldX) rfl rfl rfl sc__law_is_refused.nd (fun W pn xe tk hp => ⟨PSs.nox (bvs_one (bv_expr (ev_app (ev_var 2) (av_cons (ev_if (tv_cmp (or_eq (hu hr)) p_eq (ev_var 3) ev_int (nomark _)) (ev_def d_composed (hr.mono (by decide)) (av_cons (ev_var 0) (av_cons (ev_var 1) av_nil))) (ev_defK k_composing_numbers_1_0 (hr.mono (by decide)) (kv_cons (ev_var 1) (kv_cons (ev_var 0) kv_nil)))) av_nil)))), (xs_here (xb_expr (xe_app (PE.nox (ev_var 2)) (xa_here (xe_if (PT.nox (tv_cmp (or_eq (hu hr)) p_eq (ev_var 3) ev_int (nomark _))) (xe_call x_composed tk (hr.mono (by decide)) (PA.nox (av_cons (ev_var 0) (av_cons (ev_var 1) av_nil)))) (xe_callK xk_composing_numbers_1_0 tk (hr.mono (by decide)) (PK.nox (kv_cons (ev_var 1) (kv_cons (ev_var 0) kv_nil)))))))))⟩) (.as ⟨rfl, by decide, .inl (XF.g "OtherDiscriminant" rfl)⟩ (fun cn b h => XF.M cn "OtherDiscriminant" b h) (i := 4) rfl rfl (fun a oe cn dd pn hsb hz hf => (bvs_one (bv_expr (ev_app (ev_var 2) (av_cons (ev_callB (call_reprP (hgS hr) (huS hr)) c_repr B.b_repr bt_repr (av_cons (ev_excF (XF.O cn (isX_of hsb)) (XF.At cn (isX_of hsb)) rfl hz hf (ev_var 4)) av_nil)) av_nil))))) .nil))) rfl PassesOwn.never)
    (bvs_one (bv_ret (ev_cmp (or_eq (hu hr)) p_eq (ev_var 2) (ev_lst (av_cons (ev_callB (call_reprP hr.g (hu hr)) c_repr B.b_repr bt_repr (av_cons (ev_var 1) av_nil)) (av_cons (ev_callB (call_reprP hr.g (hu hr)) c_repr B.b_repr bt_repr (av_cons (ev_var 1) av_nil)) av_nil))) (nomark _)))))))
abbrev s__law_does_compose : Stmt := top 54
abbrev N__law_does_compose : List Str := ["form", "other", "third", "row", "x", "y", "z", "w", "both", "left", "right", "each", "spot"]
theorem sc__law_does_compose : FnScope ["form", "other", "third", "row", "x", "y", "z", "w", "both", "left", "right", "each", "spot"] ["form", "other", "third", "row"] (defScope s__law_does_compose) := ⟨rfl, rfl, rfl, by decide +kernel, rfl, by decide +kernel, by decide +kernel⟩
def b__law_does_compose : MB :=
    (mSeq (mIfS (mOr (mNot (mTru (mCB oIsi (mCons (mVar 3) (mCons (mC (.ty "tuple")) mNil))))) (mOr (mTBin oNe (mCB oLen (mCons (mVar 3) mNil)) (mC (.int 8))) (mNot (mTru (mCB oAll (mCons (mComp (iS (mVar 3)) (gN 11) mYes (mCall 1 F__law_is_whole (mCons (mVar 11) mNil)) [11]) mNil)))))) (mRet (mC (.bl false))) mNx)
    (mSeq (mIfS (mOr (mTBin oNe (mBin oSub (mBin oMulA (mBin oIx (mVar 3) (mC (.int 0))) (mBin oIx (mVar 3) (mC (.int 5)))) (mBin oMulA (mBin oIx (mVar 3) (mC (.int 1))) (mBin oIx (mVar 3) (mC (.int 4))))) (mBin oIx (mVar 0) (mC (.int 0)))) (mTBin oNe (mBin oSub (mBin oMulA (mBin oIx (mVar 3) (mC (.int 0))) (mBin oIx (mVar 3) (mC (.int 6)))) (mBin oMulA (mBin oIx (mVar 3) (mC (.int 2))) (mBin oIx (mVar 3) (mC (.int 4))))) (mBin oIx (mVar 1) (mC (.int 0))))) (mRet (mC (.bl false))) mNx)
    (mSeq (mFor (iS (mTup (mCons (mTup (mCons (mC (.int 1)) (mCons (mC (.int 0)) mNil))) (mCons (mTup (mCons (mC (.int 0)) (mCons (mC (.int 1)) mNil))) (mCons (mTup (mCons (mC (.int 1)) (mCons (mC (.int 1)) mNil))) mNil))))) (gT 2 (gsCons (gN 4) (gsCons (gN 5) gsNil))) (mFor (iS (mTup (mCons (mTup (mCons (mC (.int 1)) (mCons (mC (.int 0)) mNil))) (mCons (mTup (mCons (mC (.int 0)) (mCons (mC (.int 1)) mNil))) (mCons (mTup (mCons (mC (.int 1)) (mCons (mC (.int 1)) mNil))) mNil))))) (gT 2 (gsCons (gN 6) (gsCons (gN 7) gsNil))) (mSeq (mAsg (mTup (mCons (mBin oMulA (mVar 4) (mVar 6)) (mCons (mBin oMulA (mVar 4) (mVar 7)) (mCons (mBin oMulA (mVar 5) (mVar 6)) (mCons (mBin oMulA (mVar 5) (mVar 7)) mNil))))) (gN 8))
    (mSeq (mAsg (mCB oSum (mCons (mComp (iR1 (mCons (mC (.int 4)) mNil)) (gN 12) mYes (mBin oMulA (mBin oIx (mVar 3) (mVar 12)) (mBin oIx (mVar 8) (mVar 12))) [12]) mNil)) (gN 9))
    (mSeq (mAsg (mCB oSum (mCons (mComp (iR1 (mCons (mC (.int 4)) mNil)) (gN 12) mYes (mBin oMulA (mBin oIx (mVar 3) (mBin oAdd (mC (.int 4)) (mVar 12))) (mBin oIx (mVar 8) (mVar 12))) [12]) mNil)) (gN 10))
    (mIfS (mTBin oNe (mBin oMulA (mCall 3 F__law_value (mCons (mVar 0) (mCons (mVar 4) (mCons (mVar 5) mNil)))) (mCall 3 F__law_value (mCons (mVar 1) (mCons (mVar 6) (mCons (mVar 7) mNil))))) (mCall 3 F__law_value (mCons (mVar 2) (mCons (mVar 9) (mCons (mVar 10) mNil))))) (mRet (mC (.bl false))) mNx))))))
    (mRet (mC (.bl true))))))
def F__law_does_compose : MF := mFun 13 4 b__law_does_compose
theorem ok__law_does_compose (B : Blt mg) {f : Addr} {fd : FuncData} (F : Fun K "_law_does_compose" "_law_does_compose" s__law_does_compose f fd) (d__law_is_whole : Knows P w K mg base 1 "_law_is_whole" 1 F__law_is_whole) (d__law_value : Knows P w K mg base 1 "_law_value" 3 F__law_value) : FnG P w K mg base CX0 2 f fd ["form", "other", "third", "row"] (spF K 4 F__law_does_compose) :=
  (fn_ok (b := b__law_does_compose) F sc__law_does_compose rfl rfl fun cdv A outer s H E hr =>
    (bvs_cons (bv_if (tv_pw (wv_or (tv_not (tv_val (ev_callB call_isi c_isi B.b_isinstance bt_isinstance (av_cons (ev_var 3) (av_cons (ev_ty B.b_tuple bt_tuple) av_nil))))) (wv_or (tv_cmp (or_ne (hu hr)) p_ne (ev_callB call_len c_len B.b_len bt_len (av_cons (ev_var 3) av_nil)) ev_int (nomark _)) (wv_or1 (tv_not (tv_val (ev_callB (cr_all rfl) c_all B.b_all bt_all (av_cons (ev_lc rfl sc__law_does_compose.nd (iv_seq (ev_var 3)) (tg_name (by decide)) (blkOk_by (own := [("each", 11)]) (N := N__law_does_compose) (sc := defScope s__law_does_compose) (by decide +kernel)) rfl (fun _ _ _ _ _ => pg_name (i := 11) sc__law_does_compose.nd rfl (Or.inl rfl)) (fun _ _ _ _ _ => tvs_nil) (fun _ _ _ _ _ => (ev_def d__law_is_whole (hr.mono (by decide)) (av_cons (ev_var 11) av_nil)))) av_nil)))))))) (bvs_one (bv_ret ev_bl)) bvs_nil)
    (bvs_cons (bv_if (tv_pw (wv_or (tv_cmp (or_ne (hu hr)) p_ne (ev_bin op_sub p_sub (ev_bin or_mul p_mulA (ev_ix (ev_var 3) ev_int) (ev_ix (ev_var 3) ev_int)) (ev_bin or_mul p_mulA (ev_ix (ev_var 3) ev_int) (ev_ix (ev_var 3) ev_int))) (ev_ix (ev_var 0) ev_int) (nomark _)) (wv_or1 (tv_cmp (or_ne (hu hr)) p_ne (ev_bin op_sub p_sub (ev_bin or_mul p_mulA (ev_ix (ev_var 3) ev_int) (ev_ix (ev_var 3) ev_int)) (ev_bin or_mul p_mulA (ev_ix (ev_var 3) ev_int) (ev_ix (ev_var 3) ev_int))) (ev_ix (ev_var 1) ev_int) (nomark _))))) (bvs_one (bv_ret ev_bl)) bvs_nil)
    (bvs_cons (bv_for (iv_seq (ev_tup (av_cons (ev_tup (av_cons ev_int (av_cons ev_int av_nil))) (av_cons (ev_tup (av_cons ev_int (av_cons ev_int av_nil))) (av_cons (ev_tup (av_cons ev_int (av_cons ev_int av_nil))) av_nil))))) (gv_tup rfl (gvs_cons (gv_name 4 sc__law_does_compose.nd) (gvs_cons (gv_name 5 sc__law_does_compose.nd) gvs_nil))) (bvs_one (bv_for (iv_seq (ev_tup (av_cons (ev_tup (av_cons ev_int (av_cons ev_int av_nil))) (av_cons (ev_tup (av_cons ev_int (av_cons ev_int av_nil))) (av_cons (ev_tup (av_cons ev_int (av_cons ev_int av_nil))) av_nil))))) (gv_tup rfl (gvs_cons (gv_name 6 sc__law_does_compose.nd) (gvs_cons (gv_name 7 sc__law_does_compose.nd) gvs_nil))) (bvs_cons (bv_set 8 sc__law_does_compose.nd (ev_tup (av_cons (ev_bin or_mul p_mulA (ev_var 4) (ev_var 6)) (av_cons (ev_bin or_mul p_mulA (ev_var 4) (ev_var 7)) (av_cons (ev_bin or_mul p_mulA (ev_var 5) (ev_var 6)) (av_cons (ev_bin or_mul p_mulA (ev_var 5) (ev_var 7)) av_nil))))))
    (bvs_cons (bv_set 9 sc__law_does_compose.nd (ev_callB (cr_sum rfl) c_sum B.b_sum bt_sum (av_cons (ev_lc rfl sc__law_does_compose.nd (iv_range1 B.b_range (av_cons ev_int av_nil)) (tg_name (by decide)) (blkOk_by (own := [("spot", 12)]) (N := N__law_does_compose) (sc := defScope s__law_does_compose) (by decide +kernel)) rfl (fun _ _ _ _ _ => pg_name (i := 12) sc__law_does_compose.nd rfl (Or.inl rfl)) (fun _ _ _ _ _ => tvs_nil) (fun _ _ _ _ _ => (ev_bin or_mul p_mulA (ev_ix (ev_var 3) (ev_var 12)) (ev_ix (ev_var 8) (ev_var 12))))) av_nil)))
    (bvs_cons (bv_set 10 sc__law_does_compose.nd (ev_callB (cr_sum rfl) c_sum B.b_sum bt_sum (av_cons (ev_lc rfl sc__law_does_compose.nd (iv_range1 B.b_range (av_cons ev_int av_nil)) (tg_name (by decide)) (blkOk_by (own := [("spot", 12)]) (N := N__law_does_compose) (sc := defScope s__law_does_compose) (by decide +kernel)) rfl (fun _ _ _ _ _ => pg_name (i := 12) sc__law_does_compose.nd rfl (Or.inl rfl)) (fun _ _ _ _ _ => tvs_nil) (fun _ _ _ _ _ => (ev_bin or_mul p_mulA (ev_ix (ev_var 3) (ev_bin or_addAll p_add ev_int (ev_var 12))) (ev_ix (ev_var 8) (ev_var 12))))) av_nil)))
    (bvs_one (bv_if (tv_cmp (or_ne (hu hr)) p_ne (ev_bin or_mul p_mulA (ev_def d__law_value (hr.mono (by decide)) (av_cons (ev_var 0) (av_cons (ev_var 4) (av_cons (ev_var 5) av_nil)))) (ev_def d__law_value (hr.mono (by decide)) (av_cons (ev_var 1) (av_cons (ev_var 6) (av_cons (ev_var 7) av_nil))))) (ev_def d__law_value (hr.mono (by decide)) (av_cons (ev_var 2) (av_cons (ev_var 9) (av_cons (ev_var 10) av_nil)))) (nomark _)) (bvs_one (bv_ret ev_bl)) bvs_nil))))) rfl PassesOwn.never)) rfl PassesOwn.never)
    (bvs_one (bv_ret ev_bl))))))
abbrev s__law_right : Stmt := top 56
abbrev N__law_right : List Str := ["well", "number", "turn", "form", "other", "due", "told", "strange"]
theorem sc__law_right : FnScope ["well", "number", "turn", "form", "other", "due", "told", "strange"] ["well"] (defScope s__law_right) := ⟨rfl, rfl, rfl, by decide +kernel, rfl, by decide +kernel, by decide +kernel⟩
noncomputable def b__law_right : MB :=
    (mSeq (mAsg (mCall 1 F__law_disc (mCons (mVar 0) mNil)) (gN 1))
    (mSeq (mFor (iR1 (mCons (mC (.int 3)) mNil)) (gN 2) (mSeq (mPar 3 4 (mCons (mCall 3 F__law_form (mCons (mVar 0) (mCons (mVar 1) (mCons (mC (.bl true)) mNil)))) (mCons (mCall 3 F__law_form (mCons (mVar 0) (mCons (mVar 1) (mCons (mC (.bl true)) mNil)))) mNil)))
    (mSeq (mAsg (mCall 2 F__law_product (mCons (mCall 1 F__law_reduced (mCons (mVar 3) mNil)) (mCons (mCall 1 F__law_reduced (mCons (mVar 4) mNil)) mNil))) (gN 5))
    (mSeq (mIfS (mTBin oNe (mCB oRepr (mCons (mLst (mCons (mCall 2 F_composed (mCons (mVar 3) (mCons (mVar 4) mNil))) (mCons (mCallK 2 (permK [1, 0]) F_composed mNil (mCons (mVar 4) (mCons (mVar 3) mNil))) mNil))) mNil)) (mCB oRepr (mCons (mLst (mCons (mVar 5) (mCons (mVar 5) mNil))) mNil))) (mRet (mC (.bl false))) mNx)
    (mSeq (mIfS (mTBin oNe (mCB oRepr (mCons (mCall 2 F_composed (mCons (mCall 1 F__law_reduced (mCons (mVar 4) mNil)) (mCons (mVar 3) mNil))) mNil)) (mCB oRepr (mCons (mVar 5) mNil))) (mRet (mC (.bl false))) mNx)
    (mSeq (mAsg (mIf (mTBin cLt (mVar 2) (mC (.int 2))) (mCall 2 F_composing_numbers (mCons (mVar 3) (mCons (mVar 4) mNil))) (mCallK 2 (permK [1, 0]) F_composing_numbers mNil (mCons (mVar 4) (mCons (mVar 3) mNil)))) (gN 6))
    (mSeq (mIfS (mOr (mNot (mTru (mCB oIsi (mCons (mVar 6) (mCons (mC (.ty "tuple")) mNil))))) (mOr (mTBin oNe (mCB oLen (mCons (mVar 6) mNil)) (mC (.int 2))) (mNot (mTru (mCall 1 F__law_is_form (mCons (mBin oIx (mVar 6) (mC (.int 0))) mNil)))))) (mRet (mC (.bl false))) mNx)
    (mIfS (mOr (mTBin oNe (mCall 1 F__law_reduced (mCons (mBin oIx (mVar 6) (mC (.int 0))) mNil)) (mVar 5)) (mNot (mTru (mCall 4 F__law_does_compose (mCons (mVar 3) (mCons (mVar 4) (mCons (mBin oIx (mVar 6) (mC (.int 0))) (mCons (mBin oIx (mVar 6) (mC (.int 1))) mNil)))))))) (mRet (mC (.bl false))) mNx))))))))
    (mSeq (mAsg (mCall 3 F__law_form (mCons (mVar 0) (mCons (mCall 1 F__law_disc (mCons (mVar 0) mNil)) (mCons (mC (.bl false)) mNil)))) (gN 7))
    (mRet (mOrV (mBin (oB oEq) (mCall 1 F__law_disc_of (mCons (mVar 7) mNil)) (mVar 1)) (mCall 2 F__law_is_refused (mCons (mVar 3) (mCons (mVar 7) mNil))))))))
noncomputable def F__law_right : MF := mFun 8 1 b__law_right
theorem ok__law_right (B : Blt mg) {f : Addr} {fd : FuncData} (F : Fun K "_law_right" "_law_right" s__law_right f fd) (d__law_disc : Knows P w K mg base 3 "_law_disc" 1 F__law_disc) (d__law_disc_of : Knows P w K mg base 1 "_law_disc_of" 1 F__law_disc_of) (d__law_does_compose : Knows P w K mg base 2 "_law_does_compose" 4 F__law_does_compose) (d__law_form : Knows P w K mg base 5 "_law_form" 3 F__law_form) (d__law_is_form : Knows P w K mg base 3 "_law_is_form" 1 F__law_is_form) (d__law_is_refused : Knows P w K mg base 9 "_law_is_refused" 2 F__law_is_refused) (d__law_product : Knows P w K mg base 5 "_law_product" 2 F__law_product) (d__law_reduced : Knows P w K mg base 4 "_law_reduced" 1 F__law_reduced) (d_composed : Knows P w K mg base 8 "composed" 2 F_composed) (d_composing_numbers : Knows P w K mg base 7 "composing_numbers" 2 F_composing_numbers) (k_composed_1_0 : KnowsK P w K mg base 8 "composed" 2 F_composed ["other", "form"] [1, 0]) (k_composing_numbers_1_0 : KnowsK P w K mg base 7 "composing_numbers" 2 F_composing_numbers ["other", "form"] [1, 0]) : FnG P w K mg base CX0 10 f fd ["well"] (spF K 1 F__law_right) :=
  (fn_ok (b := b__law_right) F sc__law_right rfl rfl fun cdv A outer s H E hr =>
    (bvs_cons (bv_set 1 sc__law_right.nd (ev_def d__law_disc (hr.mono (by decide)) (av_cons (ev_var 0) av_nil)))
    (bvs_cons (bv_for (iv_range1 B.b_range (av_cons ev_int av_nil)) (gv_name 2 sc__law_right.nd) (bvs_cons (bv_par 3 4 rfl sc__law_right.nd (av_cons (ev_def d__law_form (hr.mono (by decide)) (av_cons (ev_var 0) (av_cons (ev_var 1) (av_cons ev_bl av_nil)))) (av_cons (ev_def d__law_form (hr.mono (by decide)) (av_cons (ev_var 0) (av_cons (ev_var 1) (av_cons ev_bl av_nil)))) av_nil)))
    (bvs_cons (bv_set 5 sc__law_right.nd (ev_def d__law_product (hr.mono (by decide)) (av_cons (ev_def d__law_reduced (hr.mono (by decide)) (av_cons (ev_var 3) av_nil)) (av_cons (ev_def d__law_reduced (hr.mono (by decide)) (av_cons (ev_var 4) av_nil)) av_nil))))
    (bvs_cons (bv_if (tv_cmp (or_ne (hu hr)) p_ne (ev_callB (call_reprP hr.g (hu hr)) c_repr B.b_repr bt_repr (av_cons (ev_lst (av_cons (ev_def d_composed (hr.mono (by decide)) (av_cons (ev_var 3) (av_cons (ev_var 4) av_nil))) (av_cons (ev_defK k_composed_1_0 (hr.mono (by decide)) (kv_cons (ev_var 4) (kv_cons (ev_var 3) kv_nil))) av_nil))) av_nil)) (ev_callB (call_reprP hr.g (hu hr)) c_repr B.b_repr bt_repr (av_cons (ev_lst (av_cons (ev_var 5) (av_cons (ev_var 5) av_nil))) av_nil)) (nomark _)) (bvs_one (bv_ret ev_bl)) bvs_nil)
    (bvs_cons (bv_if (tv_cmp (or_ne (hu hr)) p_ne (ev_callB (call_reprP hr.g (hu hr)) c_repr B.b_repr bt_repr (av_cons (ev_def d_composed (hr.mono (by decide)) (av_cons (ev_def d__law_reduced (hr.mono (by decide)) (av_cons (ev_var 4) av_nil)) (av_cons (ev_var 3) av_nil))) av_nil)) (ev_callB (call_reprP hr.g (hu hr)) c_repr B.b_repr bt_repr (av_cons (ev_var 5) av_nil)) (nomark _)) (bvs_one (bv_ret ev_bl)) bvs_nil)
    (bvs_cons (bv_set 6 sc__law_right.nd (ev_if (tv_cmp op_lt (p_cI (p := fun i j => decide (i < j))) (ev_var 2) ev_int (nomark _)) (ev_def d_composing_numbers (hr.mono (by decide)) (av_cons (ev_var 3) (av_cons (ev_var 4) av_nil))) (ev_defK k_composing_numbers_1_0 (hr.mono (by decide)) (kv_cons (ev_var 4) (kv_cons (ev_var 3) kv_nil)))))
    (bvs_cons (bv_if (tv_pw (wv_or (tv_not (tv_val (ev_callB call_isi c_isi B.b_isinstance bt_isinstance (av_cons (ev_var 6) (av_cons (ev_ty B.b_tuple bt_tuple) av_nil))))) (wv_or (tv_cmp (or_ne (hu hr)) p_ne (ev_callB call_len c_len B.b_len bt_len (av_cons (ev_var 6) av_nil)) ev_int (nomark _)) (wv_or1 (tv_not (tv_val (ev_def d__law_is_form (hr.mono (by decide)) (av_cons (ev_ix (ev_var 6) ev_int) av_nil)))))))) (bvs_one (bv_ret ev_bl)) bvs_nil)
    (bvs_one (bv_if (tv_pw (wv_or (tv_cmp (or_ne (hu hr)) p_ne (ev_def d__law_reduced (hr.mono (by decide)) (av_cons (ev_ix (ev_var 6) ev_int) av_nil)) (ev_var 5) (nomark _)) (wv_or1 (tv_not (tv_val (ev_def d__law_does_compose (hr.mono (by decide)) (av_cons (ev_var 3) (av_cons (ev_var 4) (av_cons (ev_ix (ev_var 6) ev_int) (av_cons (ev_ix (ev_var 6) ev_int) av_nil)))))))))) (bvs_one (bv_ret ev_bl)) bvs_nil)))))))) rfl PassesOwn.never)
    (bvs_cons (bv_set 7 sc__law_right.nd (ev_def d__law_form (hr.mono (by decide)) (av_cons (ev_var 0) (av_cons (ev_def d__law_disc (hr.mono (by decide)) (av_cons (ev_var 0) av_nil)) (av_cons ev_bl av_nil)))))
    (bvs_one (bv_ret (ev_or (ev_cmp (or_eq (hu hr)) p_eq (ev_def d__law_disc_of (hr.mono (by decide)) (av_cons (ev_var 7) av_nil)) (ev_var 1) (nomark _)) (ev_one (ev_def d__law_is_refused (hr.mono (by decide)) (av_cons (ev_var 3) (av_cons (ev_var 7) av_nil)))))))))))
abbrev s__law_well : Stmt := top 32
abbrev N__law_well : List Str := ["script", "lap", "mixed", "cell", "own"]
theorem sc__law_well : FnScope ["script", "lap", "mixed", "cell", "own"] ["script", "lap"] (defScope s__law_well) := ⟨rfl, rfl, rfl, by decide +kernel, rfl, by decide +kernel, by decide +kernel⟩
def b__law_well : MB :=
    (mSeq (mAsg (mBin oAdd (mC (.int 51407)) (mBin oMulA (mC (.int 6101)) (mVar 1))) (gN 2))
    (mSeq (mFor (iS (mSl (mVar 0) mNo (mSo (mC (.int 12))))) (gN 3) (mAsg (mBin oMod (mCB oInt (mCons (mBin oAdd (mBin oAdd (mBin oMulA (mVar 2) (mC (.int 40151))) (mBin oMulA (mBin oMod (mCB oInt (mCons (mVar 3) mNil)) (mC (.int 2147483563))) (mC (.int 13)))) (mC (.int 19))) mNil)) (mC (.int 2147483563))) (gN 2)))
    (mSeq (mAsg (mIf (mTBin cLt (mVar 1) (mCB oLen (mCons (mVar 0) mNil))) (mCB oInt (mCons (mBin oIx (mVar 0) (mVar 1)) mNil)) (mC (.int 0))) (gN 4))
    (mSeq (mAsg (mBin oMod (mCB oInt (mCons (mBin oAdd (mBin oAdd (mBin oMulA (mVar 2) (mC (.int 101))) (mBin oMulA (mBin oMod (mCB oInt (mCons (mVar 4) mNil)) (mC (.int 2147483563))) (mC (.int 20047)))) (mC (.int 7))) mNil)) (mC (.int 2147483563))) (gN 2))
    (mRet (mLstC (mCons (mIf (mOr (mTBin cLt (mVar 4) (mC (.int 0))) (mTBin cGe (mVar 4) (mBin oPow (mC (.int 10)) (mC (.int 15))))) (mCB oAbs (mCons (mVar 4) mNil)) (mC (.int 0))) (mCons (mVar 2) (mCons (mC (.int 0)) mNil)))))))))
def F__law_well : MF := mFun 5 2 b__law_well
theorem ok__law_well (B : Blt mg) {f : Addr} {fd : FuncData} (F : Fun K "_law_well" "_law_well" s__law_well f fd) : FnG P w K mg base CX0 1 f fd ["script", "lap"] (spF K 2 F__law_well) :=
  (fn_ok (b := b__law_well) F sc__law_well rfl rfl fun cdv A outer s H E hr =>
    (bvs_cons (bv_set 2 sc__law_well.nd (ev_bin or_addAll p_add ev_int (ev_bin or_mul p_mulA ev_int (ev_var 1))))
    (bvs_cons (bv_for (iv_seq (ev_slice (ev_var 0) ov_no (ov_so ev_int))) (gv_name 3 sc__law_well.nd) (bvs_one (bv_set 2 sc__law_well.nd (ev_bin op_mod p_mod (ev_callTy call_int1 c_int B.b_int bt_int (av_cons (ev_bin or_addAll p_add (ev_bin or_addAll p_add (ev_bin or_mul p_mulA (ev_var 2) ev_int) (ev_bin or_mul p_mulA (ev_bin op_mod p_mod (ev_callTy call_int1 c_int B.b_int bt_int (av_cons (ev_var 3) av_nil)) ev_int) ev_int)) ev_int) av_nil)) ev_int))) rfl PassesOwn.never)
    (bvs_cons (bv_set 4 sc__law_well.nd (ev_if (tv_cmp op_lt (p_cI (p := fun i j => decide (i < j))) (ev_var 1) (ev_callB call_len c_len B.b_len bt_len (av_cons (ev_var 0) av_nil)) (nomark _)) (ev_callTy call_int1 c_int B.b_int bt_int (av_cons (ev_ix (ev_var 0) (ev_var 1)) av_nil)) ev_int))
    (bvs_cons (bv_set 2 sc__law_well.nd (ev_bin op_mod p_mod (ev_callTy call_int1 c_int B.b_int bt_int (av_cons (ev_bin or_addAll p_add (ev_bin or_addAll p_add (ev_bin or_mul p_mulA (ev_var 2) ev_int) (ev_bin or_mul p_mulA (ev_bin op_mod p_mod (ev_callTy call_int1 c_int B.b_int bt_int (av_cons (ev_var 4) av_nil)) ev_int) ev_int)) ev_int) av_nil)) ev_int))
    (bvs_one (bv_ret (ev_lstC (av_cons (ev_if (tv_pw (wv_or (tv_cmp op_lt (p_cI (p := fun i j => decide (i < j))) (ev_var 4) ev_int (nomark _)) (wv_or1 (tv_cmp op_ge (p_cI (p := fun i j => decide (j ≤ i))) (ev_var 4) (ev_bin op_pow p_pow ev_int ev_int) (nomark _))))) (ev_callB call_abs c_abs B.b_abs bt_abs (av_cons (ev_var 4) av_nil)) ev_int) (av_cons (ev_var 2) (av_cons ev_int av_nil)))))))))))
abbrev s_law : Stmt := top 57
abbrev N_law : List Str := ["script", "lap"]
theorem sc_law : FnScope ["script", "lap"] ["script"] (defScope s_law) := ⟨rfl, rfl, rfl, by decide +kernel, rfl, by decide +kernel, by decide +kernel⟩
noncomputable def b_law : MB :=
    (mRet (mCB oAll (mCons (mComp (iR1 (mCons (mCB oMax2 (mCons (mC (.int 2)) (mCons (mCB oMin2 (mCons (mCB oLen (mCons (mVar 0) mNil)) (mCons (mC (.int 3)) mNil))) mNil))) mNil)) (gN 1) mYes (mCall 1 F__law_right (mCons (mCall 2 F__law_well (mCons (mVar 0) (mCons (mVar 1) mNil))) mNil)) [1]) mNil)))
noncomputable def F_law : MF := mFun 2 1 b_law
theorem ok_law (B : Blt mg) {f : Addr} {fd : FuncData} (F : Fun K "law" "law" s_law f fd) (d__law_right : Knows P w K mg base 10 "_law_right" 1 F__law_right) (d__law_well : Knows P w K mg base 1 "_law_well" 2 F__law_well) : FnG P w K mg base CX0 11 f fd ["script"] (spF K 1 F_law) :=
  (fn_ok (b := b_law) F sc_law rfl rfl fun cdv A outer s H E hr =>
    (bvs_one (bv_ret (ev_callB (cr_all rfl) c_all B.b_all bt_all (av_cons (ev_lc rfl sc_law.nd (iv_range1 B.b_range (av_cons (ev_callB (call_max2 rfl) c_max2 B.b_max bt_max (av_cons ev_int (av_cons (ev_callB (call_min2 rfl) c_min2 B.b_min bt_min (av_cons (ev_callB call_len c_len B.b_len bt_len (av_cons (ev_var 0) av_nil)) (av_cons ev_int av_nil))) av_nil))) av_nil)) (tg_name (by decide)) (blkOk_by (own := [("lap", 1)]) (N := N_law) (sc := defScope s_law) (by decide +kernel)) rfl (fun _ _ _ _ _ => pg_name (i := 1) sc_law.nd rfl (Or.inl rfl)) (fun _ _ _ _ _ => tvs_nil) (fun _ _ _ _ _ => (ev_def d__law_right (hr.mono (by decide)) (av_cons (ev_def d__law_well (hr.mono (by decide)) (av_cons (ev_var 0) (av_cons (ev_var 1) av_nil))) av_nil)))) av_nil)))))
end
structure Top (P : Program) (K : PySem.W.Frag) (mg : Str → Option Value) (cls : Str → Addr) : Prop where
  XF : XFacts P K mg cls
  B : Blt mg
  t_is_whole : Stands K mg "is_whole" s_is_whole
  t_are_whole : Stands K mg "are_whole" s_are_whole
  t_is_whole_between : Stands K mg "is_whole_between" s_is_whole_between
  t_is_discriminant : Stands K mg "is_discriminant" s_is_discriminant
  t_is_form : Stands K mg "is_form" s_is_form
  t_check_form : Stands K mg "check_form" s_check_form
  t_centring : Stands K mg "centring" s_centring
  t_value_at : Stands K mg "value_at" s_value_at
  t_led_by : Stands K mg "led_by" s_led_by
  t_is_reduced : Stands K mg "is_reduced" s_is_reduced
  t_joined : Stands K mg "joined" s_joined
  t_reduction : Stands K mg "reduction" s_reduction
  t_place_without : Stands K mg "place_without" s_place_without
  t_bezout : Stands K mg "bezout" s_bezout
  t_change_to_lead_without : Stands K mg "change_to_lead_without" s_change_to_lead_without
  t_uniting : Stands K mg "uniting" s_uniting
  t_columns : Stands K mg "columns" s_columns
  t_discriminant_of : Stands K mg "discriminant_of" s_discriminant_of
  t_inverse : Stands K mg "inverse" s_inverse
  t_composing_numbers : Stands K mg "composing_numbers" s_composing_numbers
  t_reduced : Stands K mg "reduced" s_reduced
  t_composed : Stands K mg "composed" s_composed
  t__law_draw : Stands K mg "_law_draw" s__law_draw
  t__law_one : Stands K mg "_law_one" s__law_one
  t__law_disc : Stands K mg "_law_disc" s__law_disc
  t__law_value : Stands K mg "_law_value" s__law_value
  t__law_led : Stands K mg "_law_led" s__law_led
  t__law_both : Stands K mg "_law_both" s__law_both
  t__law_change : Stands K mg "_law_change" s__law_change
  t__law_root : Stands K mg "_law_root" s__law_root
  t__law_is_whole : Stands K mg "_law_is_whole" s__law_is_whole
  t__law_is_discriminant : Stands K mg "_law_is_discriminant" s__law_is_discriminant
  t__law_disc_of : Stands K mg "_law_disc_of" s__law_disc_of
  t__law_gcd : Stands K mg "_law_gcd" s__law_gcd
  t__law_is_form : Stands K mg "_law_is_form" s__law_is_form
  t__law_is_reduced : Stands K mg "_law_is_reduced" s__law_is_reduced
  t__law_classes : Stands K mg "_law_classes" s__law_classes
  t__law_form : Stands K mg "_law_form" s__law_form
  t__law_way_down : Stands K mg "_law_way_down" s__law_way_down
  t__law_reduced : Stands K mg "_law_reduced" s__law_reduced
  t__law_completed : Stands K mg "_law_completed" s__law_completed
  t__law_turned : Stands K mg "_law_turned" s__law_turned
  t__law_product : Stands K mg "_law_product" s__law_product
  t__law_is_refused : Stands K mg "_law_is_refused" s__law_is_refused
  t__law_does_compose : Stands K mg "_law_does_compose" s__law_does_compose
  t__law_right : Stands K mg "_law_right" s__law_right
  t__law_well : Stands K mg "_law_well" s__law_well
  t_law : Stands K mg "law" s_law
structure All (P : Program) (w : World) (K : PySem.W.Frag) (mg : Str → Option Value) (base : Heap) (cls : Str → Addr) : Prop where
  d_is_whole : Knows P w K mg base 1 "is_whole" 1 F_is_whole
  d_are_whole : Knows P w K mg base 2 "are_whole" 2 F_are_whole
  d_is_whole_between : Knows P w K mg base 2 "is_whole_between" 3 F_is_whole_between
  d_is_discriminant : Knows P w K mg base 3 "is_discriminant" 1 F_is_discriminant
  d_is_form : Knows P w K mg base 4 "is_form" 1 F_is_form
  d_check_form : Knows P w K mg base 5 "check_form" 1 F_check_form
  d_centring : Knows P w K mg base 1 "centring" 1 F_centring
  d_value_at : Knows P w K mg base 1 "value_at" 3 F_value_at
  d_led_by : Knows P w K mg base 2 "led_by" 2 F_led_by
  d_is_reduced : Knows P w K mg base 1 "is_reduced" 1 F_is_reduced
  d_joined : Knows P w K mg base 1 "joined" 2 F_joined
  d_reduction : Knows P w K mg base 3 "reduction" 1 F_reduction
  d_place_without : Knows P w K mg base 2 "place_without" 2 F_place_without
  d_bezout : Knows P w K mg base 1 "bezout" 2 F_bezout
  d_change_to_lead_without : Knows P w K mg base 4 "change_to_lead_without" 2 F_change_to_lead_without
  d_uniting : Knows P w K mg base 5 "uniting" 2 F_uniting
  d_columns : Knows P w K mg base 1 "columns" 1 F_columns
  d_discriminant_of : Knows P w K mg base 6 "discriminant_of" 1 F_discriminant_of
  d_inverse : Knows P w K mg base 1 "inverse" 1 F_inverse
  d_composing_numbers : Knows P w K mg base 7 "composing_numbers" 2 F_composing_numbers
  k_composing_numbers_1_0 : KnowsK P w K mg base 7 "composing_numbers" 2 F_composing_numbers ["other", "form"] [1, 0]
  x_composing_numbers : KnowsX P w K mg base (tau cls) 7 "composing_numbers" 2 Z_composing_numbers
  xk_composing_numbers_1_0 : KnowsXK P w K mg base (tau cls) 7 "composing_numbers" 2 Z_composing_numbers ["other", "form"] [1, 0]
  d_reduced : Knows P w K mg base 6 "reduced" 1 F_reduced
  d_composed : Knows P w K mg base 8 "composed" 2 F_composed
  k_composed_1_0 : KnowsK P w K mg base 8 "composed" 2 F_composed ["other", "form"] [1, 0]
  x_composed : KnowsX P w K mg base (tau cls) 8 "composed" 2 Z_composed
  d__law_draw : Knows P w K mg base 1 "_law_draw" 2 F__law_draw
  d__law_one : Knows P w K mg base 2 "_law_one" 2 F__law_one
  d__law_disc : Knows P w K mg base 3 "_law_disc" 1 F__law_disc
  d__law_value : Knows P w K mg base 1 "_law_value" 3 F__law_value
  d__law_led : Knows P w K mg base 2 "_law_led" 2 F__law_led
  d__law_both : Knows P w K mg base 1 "_law_both" 2 F__law_both
  d__law_change : Knows P w K mg base 3 "_law_change" 3 F__law_change
  d__law_root : Knows P w K mg base 1 "_law_root" 1 F__law_root
  d__law_is_whole : Knows P w K mg base 1 "_law_is_whole" 1 F__law_is_whole
  d__law_is_discriminant : Knows P w K mg base 2 "_law_is_discriminant" 1 F__law_is_discriminant
  d__law_disc_of : Knows P w K mg base 1 "_law_disc_of" 1 F__law_disc_of
  d__law_gcd : Knows P w K mg base 1 "_law_gcd" 2 F__law_gcd
  d__law_is_form : Knows P w K mg base 3 "_law_is_form" 1 F__law_is_form
  d__law_is_reduced : Knows P w K mg base 1 "_law_is_reduced" 1 F__law_is_reduced
  d__law_classes : Knows P w K mg base 4 "_law_classes" 1 F__law_classes
  d__law_form : Knows P w K mg base 5 "_law_form" 3 F__law_form
  d__law_way_down : Knows P w K mg base 3 "_law_way_down" 1 F__law_way_down
  d__law_reduced : Knows P w K mg base 4 "_law_reduced" 1 F__law_reduced
  d__law_completed : Knows P w K mg base 1 "_law_completed" 2 F__law_completed
  d__law_turned : Knows P w K mg base 3 "_law_turned" 2 F__law_turned
  d__law_product : Knows P w K mg base 5 "_law_product" 2 F__law_product
  d__law_is_refused : Knows P w K mg base 9 "_law_is_refused" 2 F__law_is_refused
  d__law_does_compose : Knows P w K mg base 2 "_law_does_compose" 4 F__law_does_compose
  d__law_right : Knows P w K mg base 10 "_law_right" 1 F__law_right
  d__law_well : Knows P w K mg base 1 "_law_well" 2 F__law_well
  d_law : Knows P w K mg base 11 "law" 1 F_law
theorem all {P : Program} {w : World} {K : PySem.W.Frag} {mg : Str → Option Value} {base : Heap} {cls : Str → Addr} (T : Top P K mg cls) : All P w K mg base cls := by
  obtain ⟨f, fd, F, m⟩ := T.t_is_whole.ex
  have g := ok_is_whole (P := P) (w := w) (base := base) T.B F
  have d_is_whole : Knows P w K mg base 1 "is_whole" 1 F_is_whole := ⟨f, fd, _, rfl, g, m, F.kp, F.binds fun _ _ _ _ _ _ us hl => match us, hl with | [_], _ => rfl⟩
  clear g F m f fd
  obtain ⟨f, fd, F, m⟩ := T.t_are_whole.ex
  have g := ok_are_whole (P := P) (w := w) (base := base) T.B F d_is_whole
  have d_are_whole : Knows P w K mg base 2 "are_whole" 2 F_are_whole := ⟨f, fd, _, rfl, g, m, F.kp, F.binds fun _ _ _ _ _ _ us hl => match us, hl with | [_, _], _ => rfl⟩
  clear g F m f fd
  obtain ⟨f, fd, F, m⟩ := T.t_is_whole_between.ex
  have g := ok_is_whole_between (P := P) (w := w) (base := base) T.B F d_is_whole
  have d_is_whole_between : Knows P w K mg base 2 "is_whole_between" 3 F_is_whole_between := ⟨f, fd, _, rfl, g, m, F.kp, F.binds fun _ _ _ _ _ _ us hl => match us, hl with | [_, _, _], _ => rfl⟩
  clear g F m f fd
  obtain ⟨f, fd, F, m⟩ := T.t_is_discriminant.ex
  have g := ok_is_discriminant (P := P) (w := w) (base := base) T.B F d_is_whole_between
  have d_is_discriminant : Knows P w K mg base 3 "is_discriminant" 1 F_is_discriminant := ⟨f, fd, _, rfl, g, m, F.kp, F.binds fun _ _ _ _ _ _ us hl => match us, hl with | [_], _ => rfl⟩
  clear g F m f fd
  obtain ⟨f, fd, F, m⟩ := T.t_is_form.ex
  have g := ok_is_form (P := P) (w := w) (base := base) T.B F d_are_whole d_is_discriminant
  have d_is_form : Knows P w K mg base 4 "is_form" 1 F_is_form := ⟨f, fd, _, rfl, g, m, F.kp, F.binds fun _ _ _ _ _ _ us hl => match us, hl with | [_], _ => rfl⟩
  clear g F m f fd
  obtain ⟨f, fd, F, m⟩ := T.t_check_form.ex
  have g := ok_check_form (P := P) (w := w) (base := base) T.B F d_is_form
  have d_check_form : Knows P w K mg base 5 "check_form" 1 F_check_form := ⟨f, fd, _, rfl, g, m, F.kp, F.binds fun _ _ _ _ _ _ us hl => match us, hl with | [_], _ => rfl⟩
  clear g F m f fd
  obtain ⟨f, fd, F, m⟩ := T.t_centring.ex
  have g := ok_centring (P := P) (w := w) (base := base) T.B F
  have d_centring : Knows P w K mg base 1 "centring" 1 F_centring := ⟨f, fd, _, rfl, g, m, F.kp, F.binds fun _ _ _ _ _ _ us hl => match us, hl with | [_], _ => rfl⟩
  clear g F m f fd
  obtain ⟨f, fd, F, m⟩ := T.t_value_at.ex
  have g := ok_value_at (P := P) (w := w) (base := base) T.B F
  have d_value_at : Knows P w K mg base 1 "value_at" 3 F_value_at := ⟨f, fd, _, rfl, g, m, F.kp, F.binds fun _ _ _ _ _ _ us hl => match us, hl with | [_, _, _], _ => rfl⟩
  clear g F m f fd
  obtain ⟨f, fd, F, m⟩ := T.t_led_by.ex
  have g := ok_led_by (P := P) (w := w) (base := base) T.B F d_value_at
  have d_led_by : Knows P w K mg base 2 "led_by" 2 F_led_by := ⟨f, fd, _, rfl, g, m, F.kp, F.binds fun _ _ _ _ _ _ us hl => match us, hl with | [_, _], _ => rfl⟩
  clear g F m f fd
  obtain ⟨f, fd, F, m⟩ := T.t_is_reduced.ex
  have g := ok_is_reduced (P := P) (w := w) (base := base) T.B F
  have d_is_reduced : Knows P w K mg base 1 "is_reduced" 1 F_is_reduced := ⟨f, fd, _, rfl, g, m, F.kp, F.binds fun _ _ _ _ _ _ us hl => match us, hl with | [_], _ => rfl⟩
  clear g F m f fd
  obtain ⟨f, fd, F, m⟩ := T.t_joined.ex
  have g := ok_joined (P := P) (w := w) (base := base) T.B F
  have d_joined : Knows P w K mg base 1 "joined" 2 F_joined := ⟨f, fd, _, rfl, g, m, F.kp, F.binds fun _ _ _ _ _ _ us hl => match us, hl with | [_, _], _ => rfl⟩
  clear g F m f fd
  obtain ⟨f, fd, F, m⟩ := T.t_reduction.ex
  have g := ok_reduction (P := P) (w := w) (base := base) T.B F d_centring d_is_reduced d_joined d_led_by
  have d_reduction : Knows P w K mg base 3 "reduction" 1 F_reduction := ⟨f, fd, _, rfl, g, m, F.kp, F.binds fun _ _ _ _ _ _ us hl => match us, hl with | [_], _ => rfl⟩
  clear g F m f fd
  obtain ⟨f, fd, F, m⟩ := T.t_place_without.ex
  have g := ok_place_without (P := P) (w := w) (base := base) T.B F d_value_at
  have d_place_without : Knows P w K mg base 2 "place_without" 2 F_place_without := ⟨f, fd, _, rfl, g, m, F.kp, F.binds fun _ _ _ _ _ _ us hl => match us, hl with | [_, _], _ => rfl⟩
  clear g F m f fd
  obtain ⟨f, fd, F, m⟩ := T.t_bezout.ex
  have g := ok_bezout (P := P) (w := w) (base := base) T.B F
  have d_bezout : Knows P w K mg base 1 "bezout" 2 F_bezout := ⟨f, fd, _, rfl, g, m, F.kp, F.binds fun _ _ _ _ _ _ us hl => match us, hl with | [_, _], _ => rfl⟩
  clear g F m f fd
  obtain ⟨f, fd, F, m⟩ := T.t_change_to_lead_without.ex
  have g := ok_change_to_lead_without (P := P) (w := w) (base := base) T.B F d_bezout d_joined d_place_without d_reduction
  have d_change_to_lead_without : Knows P w K mg base 4 "change_to_lead_without" 2 F_change_to_lead_without := ⟨f, fd, _, rfl, g, m, F.kp, F.binds fun _ _ _ _ _ _ us hl => match us, hl with | [_, _], _ => rfl⟩
  clear g F m f fd
  obtain ⟨f, fd, F, m⟩ := T.t_uniting.ex
  have g := ok_uniting (P := P) (w := w) (base := base) T.B F d_bezout d_change_to_lead_without d_joined d_led_by d_reduction
  have d_uniting : Knows P w K mg base 5 "uniting" 2 F_uniting := ⟨f, fd, _, rfl, g, m, F.kp, F.binds fun _ _ _ _ _ _ us hl => match us, hl with | [_, _], _ => rfl⟩
  clear g F m f fd
  obtain ⟨f, fd, F, m⟩ := T.t_columns.ex
  have g := ok_columns (P := P) (w := w) (base := base) T.B F
  have d_columns : Knows P w K mg base 1 "columns" 1 F_columns := ⟨f, fd, _, rfl, g, m, F.kp, F.binds fun _ _ _ _ _ _ us hl => match us, hl with | [_], _ => rfl⟩
  clear g F m f fd
  obtain ⟨f, fd, F, m⟩ := T.t_discriminant_of.ex
  have g := ok_discriminant_of (P := P) (w := w) (base := base) T.B F d_check_form
  have d_discriminant_of : Knows P w K mg base 6 "discriminant_of" 1 F_discriminant_of := ⟨f, fd, _, rfl, g, m, F.kp, F.binds fun _ _ _ _ _ _ us hl => match us, hl with | [_], _ => rfl⟩
  clear g F m f fd
  obtain ⟨f, fd, F, m⟩ := T.t_inverse.ex
  have g := ok_inverse (P := P) (w := w) (base := base) T.B F
  have d_inverse : Knows P w K mg base 1 "inverse" 1 F_inverse := ⟨f, fd, _, rfl, g, m, F.kp, F.binds fun _ _ _ _ _ _ us hl => match us, hl with | [_], _ => rfl⟩
  clear g F m f fd
  obtain ⟨f, fd, F, m⟩ := T.t_composing_numbers.ex
  have g := ok_composing_numbers (P := P) (w := w) (base := base) T.B F d_check_form d_columns d_discriminant_of d_inverse d_led_by d_uniting T.XF
  have d_composing_numbers : Knows P w K mg base 7 "composing_numbers" 2 F_composing_numbers := ⟨f, fd, _, rfl, g, m, F.kp, F.binds fun _ _ _ _ _ _ us hl => match us, hl with | [_, _], _ => rfl⟩
  have k_composing_numbers_1_0 : KnowsK P w K mg base 7 "composing_numbers" 2 F_composing_numbers ["other", "form"] [1, 0] := by
    refine ⟨f, fd, _, rfl, g, m, F.kp, fun s us ws X hl => ?_, perm_rel _⟩
    obtain ⟨oc, od, kV, doc, pm, an, cdv, ct, osl, rfl, lk, hcd⟩ := F.ex
    obtain ⟨rfl, hw⟩ := kw_len (perm := [1, 0]) hl (by decide)
    match ws, hw with
    | [_, _], _ => exact .of_eq rfl
  have gx := okx_composing_numbers (P := P) (w := w) (base := base) T.B F d_check_form d_columns d_discriminant_of d_inverse d_led_by d_uniting T.XF
  have x_composing_numbers : KnowsX P w K mg base (tau cls) 7 "composing_numbers" 2 Z_composing_numbers := ⟨f, fd, _, rfl, gx, m, F.kp, F.binds fun _ _ _ _ _ _ us hl => match us, hl with | [_, _], _ => rfl⟩
  have xk_composing_numbers_1_0 : KnowsXK P w K mg base (tau cls) 7 "composing_numbers" 2 Z_composing_numbers ["other", "form"] [1, 0] := by
    refine ⟨f, fd, _, rfl, gx, m, F.kp, fun s us ws X hl => ?_, perm_rel _⟩
    obtain ⟨oc, od, kV, doc, pm, an, cdv, ct, osl, rfl, lk, hcd⟩ := F.ex
    obtain ⟨rfl, hw⟩ := kw_len (perm := [1, 0]) hl (by decide)
    match ws, hw with
    | [_, _], _ => exact .of_eq rfl
  clear gx
  clear g F m f fd
  obtain ⟨f, fd, F, m⟩ := T.t_reduced.ex
  have g := ok_reduced (P := P) (w := w) (base := base) T.B F d_check_form d_reduction
  have d_reduced : Knows P w K mg base 6 "reduced" 1 F_reduced := ⟨f, fd, _, rfl, g, m, F.kp, F.binds fun _ _ _ _ _ _ us hl => match us, hl with | [_], _ => rfl⟩
  clear g F m f fd
  obtain ⟨f, fd, F, m⟩ := T.t_composed.ex
  have g := ok_composed (P := P) (w := w) (base := base) T.B F d_composing_numbers d_reduced T.XF x_composing_numbers
  have d_composed : Knows P w K mg base 8 "composed" 2 F_composed := ⟨f, fd, _, rfl, g, m, F.kp, F.binds fun _ _ _ _ _ _ us hl => match us, hl with | [_, _], _ => rfl⟩
  have k_composed_1_0 : KnowsK P w K mg base 8 "composed" 2 F_composed ["other", "form"] [1, 0] := by
    refine ⟨f, fd, _, rfl, g, m, F.kp, fun s us ws X hl => ?_, perm_rel _⟩
    obtain ⟨oc, od, kV, doc, pm, an, cdv, ct, osl, rfl, lk, hcd⟩ := F.ex
    obtain ⟨rfl, hw⟩ := kw_len (perm := [1, 0]) hl (by decide)
    match ws, hw with
    | [_, _], _ => exact .of_eq rfl
  have gx := okx_composed (P := P) (w := w) (base := base) T.B F d_composing_numbers d_reduced T.XF x_composing_numbers
  have x_composed : KnowsX P w K mg base (tau cls) 8 "composed" 2 Z_composed := ⟨f, fd, _, rfl, gx, m, F.kp, F.binds fun _ _ _ _ _ _ us hl => match us, hl with | [_, _], _ => rfl⟩
  clear gx
  clear g F m f fd
  obtain ⟨f, fd, F, m⟩ := T.t__law_draw.ex
  have g := ok__law_draw (P := P) (w := w) (base := base) T.B F
  have d__law_draw : Knows P w K mg base 1 "_law_draw" 2 F__law_draw := ⟨f, fd, _, rfl, g, m, F.kp, F.binds fun _ _ _ _ _ _ us hl => match us, hl with | [_, _], _ => rfl⟩
  clear g F m f fd
  obtain ⟨f, fd, F, m⟩ := T.t__law_one.ex
  have g := ok__law_one (P := P) (w := w) (base := base) T.B F d__law_draw
  have d__law_one : Knows P w K mg base 2 "_law_one" 2 F__law_one := ⟨f, fd, _, rfl, g, m, F.kp, F.binds fun _ _ _ _ _ _ us hl => match us, hl with | [_, _], _ => rfl⟩
  clear g F m f fd
  obtain ⟨f, fd, F, m⟩ := T.t__law_disc.ex
  have g := ok__law_disc (P := P) (w := w) (base := base) T.B F d__law_draw d__law_one
  have d__law_disc : Knows P w K mg base 3 "_law_disc" 1 F__law_disc := ⟨f, fd, _, rfl, g, m, F.kp, F.binds fun _ _ _ _ _ _ us hl => match us, hl with | [_], _ => rfl⟩
  clear g F m f fd
  obtain ⟨f, fd, F, m⟩ := T.t__law_value.ex
  have g := ok__law_value (P := P) (w := w) (base := base) T.B F
  have d__law_value : Knows P w K mg base 1 "_law_value" 3 F__law_value := ⟨f, fd, _, rfl, g, m, F.kp, F.binds fun _ _ _ _ _ _ us hl => match us, hl with | [_, _, _], _ => rfl⟩
  clear g F m f fd
  obtain ⟨f, fd, F, m⟩ := T.t__law_led.ex
  have g := ok__law_led (P := P) (w := w) (base := base) T.B F d__law_value
  have d__law_led : Knows P w K mg base 2 "_law_led" 2 F__law_led := ⟨f, fd, _, rfl, g, m, F.kp, F.binds fun _ _ _ _ _ _ us hl => match us, hl with | [_, _], _ => rfl⟩
  clear g F m f fd
  obtain ⟨f, fd, F, m⟩ := T.t__law_both.ex
  have g := ok__law_both (P := P) (w := w) (base := base) T.B F
  have d__law_both : Knows P w K mg base 1 "_law_both" 2 F__law_both := ⟨f, fd, _, rfl, g, m, F.kp, F.binds fun _ _ _ _ _ _ us hl => match us, hl with | [_, _], _ => rfl⟩
  clear g F m f fd
  obtain ⟨f, fd, F, m⟩ := T.t__law_change.ex
  have g := ok__law_change (P := P) (w := w) (base := base) T.B F d__law_both d__law_draw d__law_one
  have d__law_change : Knows P w K mg base 3 "_law_change" 3 F__law_change := ⟨f, fd, _, rfl, g, m, F.kp, F.binds fun _ _ _ _ _ _ us hl => match us, hl with | [_, _, _], _ => rfl⟩
  clear g F m f fd
  obtain ⟨f, fd, F, m⟩ := T.t__law_root.ex
  have g := ok__law_root (P := P) (w := w) (base := base) T.B F
  have d__law_root : Knows P w K mg base 1 "_law_root" 1 F__law_root := ⟨f, fd, _, rfl, g, m, F.kp, F.binds fun _ _ _ _ _ _ us hl => match us, hl with | [_], _ => rfl⟩
  clear g F m f fd
  obtain ⟨f, fd, F, m⟩ := T.t__law_is_whole.ex
  have g := ok__law_is_whole (P := P) (w := w) (base := base) T.B F
  have d__law_is_whole : Knows P w K mg base 1 "_law_is_whole" 1 F__law_is_whole := ⟨f, fd, _, rfl, g, m, F.kp, F.binds fun _ _ _ _ _ _ us hl => match us, hl with | [_], _ => rfl⟩
  clear g F m f fd
  obtain ⟨f, fd, F, m⟩ := T.t__law_is_discriminant.ex
  have g := ok__law_is_discriminant (P := P) (w := w) (base := base) T.B F d__law_is_whole
  have d__law_is_discriminant : Knows P w K mg base 2 "_law_is_discriminant" 1 F__law_is_discriminant := ⟨f, fd, _, rfl, g, m, F.kp, F.binds fun _ _ _ _ _ _ us hl => match us, hl with | [_], _ => rfl⟩
  clear g F m f fd
  obtain ⟨f, fd, F, m⟩ := T.t__law_disc_of.ex
  have g := ok__law_disc_of (P := P) (w := w) (base := base) T.B F
  have d__law_disc_of : Knows P w K mg base 1 "_law_disc_of" 1 F__law_disc_of := ⟨f, fd, _, rfl, g, m, F.kp, F.binds fun _ _ _ _ _ _ us hl => match us, hl with | [_], _ => rfl⟩
  clear g F m f fd
  obtain ⟨f, fd, F, m⟩ := T.t__law_gcd.ex
  have g := ok__law_gcd (P := P) (w := w) (base := base) T.B F
  have d__law_gcd : Knows P w K mg base 1 "_law_gcd" 2 F__law_gcd := ⟨f, fd, _, rfl, g, m, F.kp, F.binds fun _ _ _ _ _ _ us hl => match us, hl with | [_, _], _ => rfl⟩
  clear g F m f fd
  obtain ⟨f, fd, F, m⟩ := T.t__law_is_form.ex
  have g := ok__law_is_form (P := P) (w := w) (base := base) T.B F d__law_disc_of d__law_gcd d__law_is_discriminant d__law_is_whole
  have d__law_is_form : Knows P w K mg base 3 "_law_is_form" 1 F__law_is_form := ⟨f, fd, _, rfl, g, m, F.kp, F.binds fun _ _ _ _ _ _ us hl => match us, hl with | [_], _ => rfl⟩
  clear g F m f fd
  obtain ⟨f, fd, F, m⟩ := T.t__law_is_reduced.ex
  have g := ok__law_is_reduced (P := P) (w := w) (base := base) T.B F
  have d__law_is_reduced : Knows P w K mg base 1 "_law_is_reduced" 1 F__law_is_reduced := ⟨f, fd, _, rfl, g, m, F.kp, F.binds fun _ _ _ _ _ _ us hl => match us, hl with | [_], _ => rfl⟩
  clear g F m f fd
  obtain ⟨f, fd, F, m⟩ := T.t__law_classes.ex
  have g := ok__law_classes (P := P) (w := w) (base := base) T.B F d__law_is_form d__law_is_reduced d__law_root
  have d__law_classes : Knows P w K mg base 4 "_law_classes" 1 F__law_classes := ⟨f, fd, _, rfl, g, m, F.kp, F.binds fun _ _ _ _ _ _ us hl => match us, hl with | [_], _ => rfl⟩
  clear g F m f fd
  obtain ⟨f, fd, F, m⟩ := T.t__law_form.ex
  have g := ok__law_form (P := P) (w := w) (base := base) T.B F d__law_change d__law_classes d__law_led d__law_one
  have d__law_form : Knows P w K mg base 5 "_law_form" 3 F__law_form := ⟨f, fd, _, rfl, g, m, F.kp, F.binds fun _ _ _ _ _ _ us hl => match us, hl with | [_, _, _], _ => rfl⟩
  clear g F m f fd
  obtain ⟨f, fd, F, m⟩ := T.t__law_way_down.ex
  have g := ok__law_way_down (P := P) (w := w) (base := base) T.B F d__law_both d__law_led
  have d__law_way_down : Knows P w K mg base 3 "_law_way_down" 1 F__law_way_down := ⟨f, fd, _, rfl, g, m, F.kp, F.binds fun _ _ _ _ _ _ us hl => match us, hl with | [_], _ => rfl⟩
  clear g F m f fd
  obtain ⟨f, fd, F, m⟩ := T.t__law_reduced.ex
  have g := ok__law_reduced (P := P) (w := w) (base := base) T.B F d__law_led d__law_way_down
  have d__law_reduced : Knows P w K mg base 4 "_law_reduced" 1 F__law_reduced := ⟨f, fd, _, rfl, g, m, F.kp, F.binds fun _ _ _ _ _ _ us hl => match us, hl with | [_], _ => rfl⟩
  clear g F m f fd
  obtain ⟨f, fd, F, m⟩ := T.t__law_completed.ex
  have g := ok__law_completed (P := P) (w := w) (base := base) T.B F
  have d__law_completed : Knows P w K mg base 1 "_law_completed" 2 F__law_completed := ⟨f, fd, _, rfl, g, m, F.kp, F.binds fun _ _ _ _ _ _ us hl => match us, hl with | [_, _], _ => rfl⟩
  clear g F m f fd
  obtain ⟨f, fd, F, m⟩ := T.t__law_turned.ex
  have g := ok__law_turned (P := P) (w := w) (base := base) T.B F d__law_completed d__law_gcd d__law_led d__law_value
  have d__law_turned : Knows P w K mg base 3 "_law_turned" 2 F__law_turned := ⟨f, fd, _, rfl, g, m, F.kp, F.binds fun _ _ _ _ _ _ us hl => match us, hl with | [_, _], _ => rfl⟩
  clear g F m f fd
  obtain ⟨f, fd, F, m⟩ := T.t__law_product.ex
  have g := ok__law_product (P := P) (w := w) (base := base) T.B F d__law_disc_of d__law_reduced d__law_turned
  have d__law_product : Knows P w K mg base 5 "_law_product" 2 F__law_product := ⟨f, fd, _, rfl, g, m, F.kp, F.binds fun _ _ _ _ _ _ us hl => match us, hl with | [_, _], _ => rfl⟩
  clear g F m f fd
  obtain ⟨f, fd, F, m⟩ := T.t__law_is_refused.ex
  have g := ok__law_is_refused (P := P) (w := w) (base := base) T.B F d_composed k_composing_numbers_1_0 T.XF x_composed xk_composing_numbers_1_0
  have d__law_is_refused : Knows P w K mg base 9 "_law_is_refused" 2 F__law_is_refused := ⟨f, fd, _, rfl, g, m, F.kp, F.binds fun _ _ _ _ _ _ us hl => match us, hl with | [_, _], _ => rfl⟩
  clear g F m f fd
  obtain ⟨f, fd, F, m⟩ := T.t__law_does_compose.ex
  have g := ok__law_does_compose (P := P) (w := w) (base := base) T.B F d__law_is_whole d__law_value
  have d__law_does_compose : Knows P w K mg base 2 "_law_does_compose" 4 F__law_does_compose := ⟨f, fd, _, rfl, g, m, F.kp, F.binds fun _ _ _ _ _ _ us hl => match us, hl with | [_, _, _, _], _ => rfl⟩
  clear g F m f fd
  obtain ⟨f, fd, F, m⟩ := T.t__law_right.ex
  have g := ok__law_right (P := P) (w := w) (base := base) T.B F d__law_disc d__law_disc_of d__law_does_compose d__law_form d__law_is_form d__law_is_refused d__law_product d__law_reduced d_composed d_composing_numbers k_composed_1_0 k_composing_numbers_1_0
  have d__law_right : Knows P w K mg base 10 "_law_right" 1 F__law_right := ⟨f, fd, _, rfl, g, m, F.kp, F.binds fun _ _ _ _ _ _ us hl => match us, hl with | [_], _ => rfl⟩
  clear g F m f fd
  obtain ⟨f, fd, F, m⟩ := T.t__law_well.ex
  have g := ok__law_well (P := P) (w := w) (base := base) T.B F
  have d__law_well : Knows P w K mg base 1 "_law_well" 2 F__law_well := ⟨f, fd, _, rfl, g, m, F.kp, F.binds fun _ _ _ _ _ _ us hl => match us, hl with | [_, _], _ => rfl⟩
  clear g F m f fd
  obtain ⟨f, fd, F, m⟩ := T.t_law.ex
  have g := ok_law (P := P) (w := w) (base := base) T.B F d__law_right d__law_well
  have d_law : Knows P w K mg base 11 "law" 1 F_law := ⟨f, fd, _, rfl, g, m, F.kp, F.binds fun _ _ _ _ _ _ us hl => match us, hl with | [_], _ => rfl⟩
  clear g F m f fd
  exact ⟨d_is_whole, d_are_whole, d_is_whole_between, d_is_discriminant, d_is_form, d_check_form, d_centring, d_value_at, d_led_by, d_is_reduced, d_joined, d_reduction, d_place_without, d_bezout, d_change_to_lead_without, d_uniting, d_columns, d_discriminant_of, d_inverse, d_composing_numbers, k_composing_numbers_1_0, x_composing_numbers, xk_composing_numbers_1_0, d_reduced, d_composed, k_composed_1_0, x_composed, d__law_draw, d__law_one, d__law_disc, d__law_value, d__law_led, d__law_both, d__law_change, d__law_root, d__law_is_whole, d__law_is_discriminant, d__law_disc_of, d__law_gcd, d__law_is_form, d__law_is_reduced, d__law_classes, d__law_form, d__law_way_down, d__law_reduced, d__law_completed, d__law_turned, d__law_product, d__law_is_refused, d__law_does_compose, d__law_right, d__law_well, d_law⟩
end Law

set_option Elab.async false
set_option linter.all false
set_option maxRecDepth 100000
set_option maxHeartbeats 4000000
namespace Law
open PySem L2 Zm
/-! what holds of the well -/
structure W (h : Cells) (i n : Nat) : Prop where
  cl : ∀ ds ∈ h, cleans ds = true
  ex : ∃ a m k : Int, h[i]? = some [.int a, .int m, .int k] ∧ 0 ≤ a ∧ 0 ≤ m ∧ m < 2147483563 ∧ 0 ≤ k ∧ k ≤ (n : Int)
theorem W.lt {h : Cells} {i n : Nat} (w : W h i n) : i < h.length := by
  obtain ⟨a, m, k, e, _⟩ := w.ex
  exact (List.getElem?_eq_some_iff.mp e).1
theorem W.put {h : Cells} {i n n' : Nat} (w : W h i n) {a m k : Int} (h1 : 0 ≤ a) (h2 : 0 ≤ m) (h3 : m < 2147483563) (h4 : 0 ≤ k) (h5 : k ≤ (n' : Int)) : W (h.set i [.int a, .int m, .int k]) i n' := by
  refine ⟨fun ds hd => ?_, a, m, k, List.getElem?_set_self w.lt, h1, h2, h3, h4, h5⟩
  rcases List.mem_or_eq_of_mem_set hd with z | z
  · exact w.cl ds z
  · subst z; rfl
theorem W.mono {h : Cells} {i n n' : Nat} (w : W h i n) (l : n ≤ n') : W h i n' := by
  obtain ⟨a, m, k, e, h1, h2, h3, h4, h5⟩ := w.ex
  exact ⟨w.cl, a, m, k, e, h1, h2, h3, h4, by omega⟩
theorem log_le {x : Nat} {b : Nat} (h : x < 2 ^ b) (h0 : 0 < b) : x.log2 < b := PySem.Flt.log2_lt_of h0 h
theorem wideM_of {i j : Int} (hi : i.natAbs < 2 ^ 1000) (hj : j.natAbs < 2 ^ 1000) : wideM i j = true := by
  have h1 := log_le hi (by decide)
  have h2 := log_le hj (by decide)
  exact decide_eq_true (by omega)
theorem small_pow {x : Nat} (h : x < 18446744073709551616) : x < 2 ^ 1000 := Nat.lt_trans h (by decide +kernel)
theorem wide64 {i j : Int} (hi : i.natAbs < 18446744073709551616) (hj : j.natAbs < 18446744073709551616) : wideM i j = true := wideM_of (small_pow hi) (small_pow hj)
theorem divS {j : Int} (h0 : 0 < j) (h : j.natAbs < 18446744073709551616) : wideD j = true := decide_eq_true ⟨h0, by have := log_le (b := 64) (by simpa using h) (by decide); omega⟩
theorem draw_ok {h : Cells} {i n : Nat} (w : W h i n) (few : Int) (hn : n ≤ 1000000) (h0 : 0 < few) (h1 : few < 1073741824) :
    ∃ r h', F__law_draw [.cell i, .int few] h = some (.int r, h') ∧ 0 ≤ r ∧ r < few ∧ W h' i (n + 1) ∧ h'.length = h.length := by
  obtain ⟨a, m, k, e, g1, g2, g3, g4, g5⟩ := w.ex
  by_cases ha : 0 < a
  · refine ⟨a % few, h.set i [.int (a / few), .int m, .int k], ?_, Int.emod_nonneg _ (by omega), Int.emod_lt_of_pos _ h0, w.put (Int.ediv_nonneg g1 (by omega)) g2 g3 g4 (by omega), by simp⟩
    have hd : dmOk a few = true := by simp [dmOk, h0, h1]
    simp [F__law_draw, b__law_draw, mFun, line, mSeq, mAsg, mRet, mRetN, mDrop, mIfS, mTBin, mBin, mVar, mC, mCons, mNil, mTup, mLst, mLstC, mCB, mCall, mCallK, mIf, mAndV, mOrV, mNotV, mAnd, mOr, mNot, mTru, mUn, mChain, tB', mNx, mNev, mFor, mForL, mWhile, mComp, mCompL, mYes, gN, gT, gsCons, gsNil, gSubD, mApp, mPar, mPar3, mAugI, mSl, mSo, mNo, iR1, iR2, iR3, iS, iEn, iL, iT, asB, asL, asT, asLT, asInt, oB, oAdd, oSub, oMulA, oMul, oDiv, oMod, oPow, oNeg, cI, oEq, oNe, oIx, asSeq, oInt, oAbs, oLen, oMax2, oMin2, oDivmod, oIsi, tyD, okCell, truthD, mFrz, Option.bind_some, Option.map_some, Option.bind_none, Option.map_none, cond_true, cond_false, List.map_cons, List.map_nil, List.cons_append, List.nil_append, List.getElem?_cons_zero, List.getElem?_cons_succ, List.set_cons_zero, List.set_cons_succ, List.length_cons, List.length_nil, List.replicate , e, ha, hd, atI, ixN]
  · have w1 : wideM m 48271 = true := wide64 (by omega) (by decide)
    have w2 : wideM 15013 (k + 1) = true := wide64 (by decide) (by omega)
    have q1 := Int.emod_nonneg (m * 48271 + 15013 * (k + 1)) (show (2147483563 : Int) ≠ 0 by decide)
    have q2 := Int.emod_lt_of_pos (m * 48271 + 15013 * (k + 1)) (show (0 : Int) < 2147483563 by decide)
    generalize hx : (m * 48271 + 15013 * (k + 1)) % 2147483563 = x at q1 q2
    have w3 : wideM x (x % 4999 + 20011) = true := wide64 (by omega) (by omega)
    have q3 := Int.emod_nonneg (x * (x % 4999 + 20011) + (k + 1)) (show (2147483563 : Int) ≠ 0 by decide)
    have q4 := Int.emod_lt_of_pos (x * (x % 4999 + 20011) + (k + 1)) (show (0 : Int) < 2147483563 by decide)
    generalize hy : (x * (x % 4999 + 20011) + (k + 1)) % 2147483563 = y at q3 q4
    have w4 : wideD 977 = true := divS (by decide) (by decide)
    refine ⟨y / 977 % few, h.set i [.int a, .int y, .int (k + 1)], ?_, Int.emod_nonneg _ (by omega), Int.emod_lt_of_pos _ h0, w.put g1 q3 q4 (by omega) (by omega), by simp⟩
    have hs : ∀ x, (h.set i x)[i]? = some x := fun x => List.getElem?_set_self w.lt
    simp [F__law_draw, b__law_draw, mFun, line, mSeq, mAsg, mRet, mRetN, mDrop, mIfS, mTBin, mBin, mVar, mC, mCons, mNil, mTup, mLst, mLstC, mCB, mCall, mCallK, mIf, mAndV, mOrV, mNotV, mAnd, mOr, mNot, mTru, mUn, mChain, tB', mNx, mNev, mFor, mForL, mWhile, mComp, mCompL, mYes, gN, gT, gsCons, gsNil, gSubD, mApp, mPar, mPar3, mAugI, mSl, mSo, mNo, iR1, iR2, iR3, iS, iEn, iL, iT, asB, asL, asT, asLT, asInt, oB, oAdd, oSub, oMulA, oMul, oDiv, oMod, oPow, oNeg, cI, oEq, oNe, oIx, asSeq, oInt, oAbs, oLen, oMax2, oMin2, oDivmod, oIsi, tyD, okCell, truthD, mFrz, Option.bind_some, Option.map_some, Option.bind_none, Option.map_none, cond_true, cond_false, List.map_cons, List.map_nil, List.cons_append, List.nil_append, List.getElem?_cons_zero, List.getElem?_cons_succ, List.set_cons_zero, List.set_cons_succ, List.length_cons, List.length_nil, List.replicate , e, ha, h0, atI, ixN, w1, w2, w3, w4, hx, hy, hs, List.set_set]
theorem one_ok {h : Cells} {i n : Nat} (w : W h i n) {d : D} {ds : List D} (hd : asSeq [] d = some ds) (hc : ∀ j, d ≠ .cell j) (hn : n ≤ 1000000) (h0 : 0 < ds.length) (h1 : ds.length < 1000000) :
    ∃ x h', F__law_one [.cell i, d] h = some (x, h') ∧ x ∈ ds ∧ W h' i (n + 1) ∧ h'.length = h.length := by
  obtain ⟨r, h', e, g1, g2, w', hl⟩ := draw_ok w (ds.length : Int) hn (by omega) (by omega)
  have hr : r.toNat < ds.length := by omega
  refine ⟨ds[r.toNat], h', ?_, List.getElem_mem hr, w', hl⟩
  have hix : atI ds r = some ds[r.toNat] := by
    have : r < (ds.length : Int) := g2
    simp [atI, ixN, g1, this, hr]
  cases d <;> simp only [asSeq] at hd <;> try (cases hd; done)
  · cases hd
    simp [F__law_one, b__law_one, mFun, line, mSeq, mAsg, mRet, mRetN, mDrop, mIfS, mTBin, mBin, mVar, mC, mCons, mNil, mTup, mLst, mLstC, mCB, mCall, mCallK, mIf, mAndV, mOrV, mNotV, mAnd, mOr, mNot, mTru, mUn, mChain, tB', mNx, mNev, mFor, mForL, mWhile, mComp, mCompL, mYes, gN, gT, gsCons, gsNil, gSubD, mApp, mPar, mPar3, mAugI, mSl, mSo, mNo, iR1, iR2, iR3, iS, iEn, iL, iT, asB, asL, asT, asLT, asInt, oB, oAdd, oSub, oMulA, oMul, oDiv, oMod, oPow, oNeg, cI, oEq, oNe, oIx, asSeq, oInt, oAbs, oLen, oMax2, oMin2, oDivmod, oIsi, tyD, okCell, truthD, mFrz, Option.bind_some, Option.map_some, Option.bind_none, Option.map_none, cond_true, cond_false, List.map_cons, List.map_nil, List.cons_append, List.nil_append, List.getElem?_cons_zero, List.getElem?_cons_succ, List.set_cons_zero, List.set_cons_succ, List.length_cons, List.length_nil, List.replicate , e, hix]
  · cases hd
    simp [F__law_one, b__law_one, mFun, line, mSeq, mAsg, mRet, mRetN, mDrop, mIfS, mTBin, mBin, mVar, mC, mCons, mNil, mTup, mLst, mLstC, mCB, mCall, mCallK, mIf, mAndV, mOrV, mNotV, mAnd, mOr, mNot, mTru, mUn, mChain, tB', mNx, mNev, mFor, mForL, mWhile, mComp, mCompL, mYes, gN, gT, gsCons, gsNil, gSubD, mApp, mPar, mPar3, mAugI, mSl, mSo, mNo, iR1, iR2, iR3, iS, iEn, iL, iT, asB, asL, asT, asLT, asInt, oB, oAdd, oSub, oMulA, oMul, oDiv, oMod, oPow, oNeg, cI, oEq, oNe, oIx, asSeq, oInt, oAbs, oLen, oMax2, oMin2, oDivmod, oIsi, tyD, okCell, truthD, mFrz, Option.bind_some, Option.map_some, Option.bind_none, Option.map_none, cond_true, cond_false, List.map_cons, List.map_nil, List.cons_append, List.nil_append, List.getElem?_cons_zero, List.getElem?_cons_succ, List.set_cons_zero, List.set_cons_succ, List.length_cons, List.length_nil, List.replicate , e, hix]
  · cases hd
    simp [F__law_one, b__law_one, mFun, line, mSeq, mAsg, mRet, mRetN, mDrop, mIfS, mTBin, mBin, mVar, mC, mCons, mNil, mTup, mLst, mLstC, mCB, mCall, mCallK, mIf, mAndV, mOrV, mNotV, mAnd, mOr, mNot, mTru, mUn, mChain, tB', mNx, mNev, mFor, mForL, mWhile, mComp, mCompL, mYes, gN, gT, gsCons, gsNil, gSubD, mApp, mPar, mPar3, mAugI, mSl, mSo, mNo, iR1, iR2, iR3, iS, iEn, iL, iT, asB, asL, asT, asLT, asInt, oB, oAdd, oSub, oMulA, oMul, oDiv, oMod, oPow, oNeg, cI, oEq, oNe, oIx, asSeq, oInt, oAbs, oLen, oMax2, oMin2, oDivmod, oIsi, tyD, okCell, truthD, mFrz, Option.bind_some, Option.map_some, Option.bind_none, Option.map_none, cond_true, cond_false, List.map_cons, List.map_nil, List.cons_append, List.nil_append, List.getElem?_cons_zero, List.getElem?_cons_succ, List.set_cons_zero, List.set_cons_succ, List.length_cons, List.length_nil, List.replicate , e, hix]

/-! discriminants -/
def okD (D : Int) : Prop := -400 ≤ D ∧ D ≤ -3 ∧ (D % 4 = 0 ∨ D % 4 = 1)
instance (D : Int) : Decidable (okD D) := inferInstanceAs (Decidable (_ ∧ _))
def dOk : D → Bool
  | .int n => decide (okD n)
  | _ => false
theorem dOk_int {d : D} (h : dOk d = true) : ∃ n, d = .int n ∧ okD n := by
  cases d <;> simp only [dOk] at h <;> try (cases h; done)
  exact ⟨_, rfl, of_decide_eq_true h⟩
def discL : List Int := ((List.range 398).map fun (i : Nat) => (3 : Int) + i).filterMap fun n => if n % 4 = 0 ∨ n % 4 = 3 then some (0 - n) else none
def tab0 : List Int := [-23, -20, -56, -3, -4, -7, -8, -11, -12, -15, -16, -24, -27, -28, -31, -32, -35, -36, -39, -40, -43, -44]
def tab1 : List Int := [-47, -48, -55, -63, -68, -71, -75, -80, -84, -87, -95, -96, -99, -104, -108, -119, -120, -128, -144, -163]
def tab2 : List Int := [-168, -180, -195, -200, -231, -239, -240, -260, -264, -311, -312, -340, -372, -384, -399, -400]
theorem disc_ok {h : Cells} {i n : Nat} (w : W h i n) (hn : n ≤ 999990) : ∃ dd h', F__law_disc [.cell i] h = some (.int dd, h') ∧ okD dd ∧ W h' i (n + 3) ∧ h'.length = h.length := by
  have hcomp : ∀ h, (mComp (iR2 (mCons (mC (.int 3)) (mCons (mC (.int 401)) mNil))) (gN 4) (mTBin (oIn false) (mBin oMod (mCB oInt (mCons (mVar 4) mNil)) (mC (.int 4))) (mTup (mCons (mC (.int 0)) (mCons (mC (.int 3)) mNil)))) (mBin oSub (mC (.int 0)) (mVar 4)) [4]) ⟨[some (.cell i), none, none, none, none], h⟩ = some (.lst (discL.map D.int), h) := fun h => by kernel_rfl
  obtain ⟨r, h1, e1, r0, r1, w1, l1⟩ := draw_ok w 4 (by omega) (by decide) (by decide)
  have all1 : ∀ x ∈ discL.map D.int, dOk x = true := List.all_eq_true.mp (by decide +kernel)
  unfold F__law_disc b__law_disc
  generalize (mComp (iR2 (mCons (mC (.int 3)) (mCons (mC (.int 401)) mNil))) (gN 4) (mTBin (oIn false) (mBin oMod (mCB oInt (mCons (mVar 4) mNil)) (mC (.int 4))) (mTup (mCons (mC (.int 0)) (mCons (mC (.int 3)) mNil)))) (mBin oSub (mC (.int 0)) (mVar 4)) [4]) = C at hcomp ⊢
  by_cases hr : r = 0
  · subst hr
    obtain ⟨x, h2, e2, hx, w2, l2⟩ := one_ok w1 (d := .lst (discL.map D.int)) (ds := discL.map D.int) rfl (fun _ z => by cases z) (by omega) (by decide +kernel) (by decide +kernel)
    obtain ⟨dd, rfl, hD⟩ := dOk_int (all1 x hx)
    exact ⟨dd, h2, by simp [mFun, line, mSeq, mAsg, mRet, mRetN, mDrop, mIfS, mTBin, mBin, mVar, mC, mCons, mNil, mTup, mLst, mLstC, mCB, mCall, mCallK, mIf, mAndV, mOrV, mNotV, mAnd, mOr, mNot, mTru, mUn, mChain, tB', mNx, mNev, mFor, mForL, mWhile, mComp, mCompL, mYes, gN, gT, gsCons, gsNil, gSubD, mApp, mPar, mPar3, mAugI, mSl, mSo, mNo, iR1, iR2, iR3, iS, iEn, iL, iT, asB, asL, asT, asLT, asInt, oB, oAdd, oSub, oMulA, oMul, oDiv, oMod, oPow, oNeg, cI, oEq, oNe, oIx, asSeq, oInt, oAbs, oLen, oMax2, oMin2, oDivmod, oIsi, tyD, okCell, truthD, mFrz, Option.bind_some, Option.map_some, Option.bind_none, Option.map_none, cond_true, cond_false, List.map_cons, List.map_nil, List.cons_append, List.nil_append, List.getElem?_cons_zero, List.getElem?_cons_succ, List.set_cons_zero, List.set_cons_succ, List.length_cons, List.length_nil, List.replicate , e1, hcomp, e2], hD, w2.mono (by omega), by omega⟩
  · obtain ⟨q, h2, e2, q0, q1, w2, l2⟩ := draw_ok w1 4 (by omega) (by decide) (by decide)
    have go : ∀ (tab : List Int), (∀ x ∈ tab.map D.int, dOk x = true) → 0 < (tab.map D.int).length → (tab.map D.int).length < 1000000 → ∃ dd h3, F__law_one [.cell i, .tup (tab.map D.int)] h2 = some (.int dd, h3) ∧ okD dd ∧ W h3 i (n + 3) ∧ h3.length = h.length := by
      intro tab ha hl hz
      obtain ⟨x, h3, e3, hx, w3, l3⟩ := one_ok w2 (d := .tup (tab.map D.int)) (ds := tab.map D.int) rfl (fun _ z => by cases z) (by omega) hl hz
      obtain ⟨dd, rfl, hD⟩ := dOk_int (ha x hx)
      exact ⟨dd, h3, e3, hD, w3, by omega⟩
    have hq : q = 0 ∨ q = 1 ∨ q = 2 ∨ q = 3 := by omega
    rcases hq with rfl | rfl | rfl | rfl
    · obtain ⟨dd, h3, e3, hD, w3, l3⟩ := go tab0 (List.all_eq_true.mp (by decide +kernel)) (by decide) (by decide)
      simp only [tab0, List.map_cons, List.map_nil] at e3
      exact ⟨dd, h3, by simp [mFun, line, mSeq, mAsg, mRet, mRetN, mDrop, mIfS, mTBin, mBin, mVar, mC, mCons, mNil, mTup, mLst, mLstC, mCB, mCall, mCallK, mIf, mAndV, mOrV, mNotV, mAnd, mOr, mNot, mTru, mUn, mChain, tB', mNx, mNev, mFor, mForL, mWhile, mComp, mCompL, mYes, gN, gT, gsCons, gsNil, gSubD, mApp, mPar, mPar3, mAugI, mSl, mSo, mNo, iR1, iR2, iR3, iS, iEn, iL, iT, asB, asL, asT, asLT, asInt, oB, oAdd, oSub, oMulA, oMul, oDiv, oMod, oPow, oNeg, cI, oEq, oNe, oIx, asSeq, oInt, oAbs, oLen, oMax2, oMin2, oDivmod, oIsi, tyD, okCell, truthD, mFrz, Option.bind_some, Option.map_some, Option.bind_none, Option.map_none, cond_true, cond_false, List.map_cons, List.map_nil, List.cons_append, List.nil_append, List.getElem?_cons_zero, List.getElem?_cons_succ, List.set_cons_zero, List.set_cons_succ, List.length_cons, List.length_nil, List.replicate , e1, e2, e3, hr, atI, ixN], hD, w3, l3⟩
    · obtain ⟨dd, h3, e3, hD, w3, l3⟩ := go tab0 (List.all_eq_true.mp (by decide +kernel)) (by decide) (by decide)
      simp only [tab0, List.map_cons, List.map_nil] at e3
      exact ⟨dd, h3, by simp [mFun, line, mSeq, mAsg, mRet, mRetN, mDrop, mIfS, mTBin, mBin, mVar, mC, mCons, mNil, mTup, mLst, mLstC, mCB, mCall, mCallK, mIf, mAndV, mOrV, mNotV, mAnd, mOr, mNot, mTru, mUn, mChain, tB', mNx, mNev, mFor, mForL, mWhile, mComp, mCompL, mYes, gN, gT, gsCons, gsNil, gSubD, mApp, mPar, mPar3, mAugI, mSl, mSo, mNo, iR1, iR2, iR3, iS, iEn, iL, iT, asB, asL, asT, asLT, asInt, oB, oAdd, oSub, oMulA, oMul, oDiv, oMod, oPow, oNeg, cI, oEq, oNe, oIx, asSeq, oInt, oAbs, oLen, oMax2, oMin2, oDivmod, oIsi, tyD, okCell, truthD, mFrz, Option.bind_some, Option.map_some, Option.bind_none, Option.map_none, cond_true, cond_false, List.map_cons, List.map_nil, List.cons_append, List.nil_append, List.getElem?_cons_zero, List.getElem?_cons_succ, List.set_cons_zero, List.set_cons_succ, List.length_cons, List.length_nil, List.replicate , e1, e2, e3, hr, atI, ixN], hD, w3, l3⟩
    · obtain ⟨dd, h3, e3, hD, w3, l3⟩ := go tab1 (List.all_eq_true.mp (by decide +kernel)) (by decide) (by decide)
      simp only [tab1, List.map_cons, List.map_nil] at e3
      exact ⟨dd, h3, by simp [mFun, line, mSeq, mAsg, mRet, mRetN, mDrop, mIfS, mTBin, mBin, mVar, mC, mCons, mNil, mTup, mLst, mLstC, mCB, mCall, mCallK, mIf, mAndV, mOrV, mNotV, mAnd, mOr, mNot, mTru, mUn, mChain, tB', mNx, mNev, mFor, mForL, mWhile, mComp, mCompL, mYes, gN, gT, gsCons, gsNil, gSubD, mApp, mPar, mPar3, mAugI, mSl, mSo, mNo, iR1, iR2, iR3, iS, iEn, iL, iT, asB, asL, asT, asLT, asInt, oB, oAdd, oSub, oMulA, oMul, oDiv, oMod, oPow, oNeg, cI, oEq, oNe, oIx, asSeq, oInt, oAbs, oLen, oMax2, oMin2, oDivmod, oIsi, tyD, okCell, truthD, mFrz, Option.bind_some, Option.map_some, Option.bind_none, Option.map_none, cond_true, cond_false, List.map_cons, List.map_nil, List.cons_append, List.nil_append, List.getElem?_cons_zero, List.getElem?_cons_succ, List.set_cons_zero, List.set_cons_succ, List.length_cons, List.length_nil, List.replicate , e1, e2, e3, hr, atI, ixN], hD, w3, l3⟩
    · obtain ⟨dd, h3, e3, hD, w3, l3⟩ := go tab2 (List.all_eq_true.mp (by decide +kernel)) (by decide) (by decide)
      simp only [tab2, List.map_cons, List.map_nil] at e3
      exact ⟨dd, h3, by simp [mFun, line, mSeq, mAsg, mRet, mRetN, mDrop, mIfS, mTBin, mBin, mVar, mC, mCons, mNil, mTup, mLst, mLstC, mCB, mCall, mCallK, mIf, mAndV, mOrV, mNotV, mAnd, mOr, mNot, mTru, mUn, mChain, tB', mNx, mNev, mFor, mForL, mWhile, mComp, mCompL, mYes, gN, gT, gsCons, gsNil, gSubD, mApp, mPar, mPar3, mAugI, mSl, mSo, mNo, iR1, iR2, iR3, iS, iEn, iL, iT, asB, asL, asT, asLT, asInt, oB, oAdd, oSub, oMulA, oMul, oDiv, oMod, oPow, oNeg, cI, oEq, oNe, oIx, asSeq, oInt, oAbs, oLen, oMax2, oMin2, oDivmod, oIsi, tyD, okCell, truthD, mFrz, Option.bind_some, Option.map_some, Option.bind_none, Option.map_none, cond_true, cond_false, List.map_cons, List.map_nil, List.cons_append, List.nil_append, List.getElem?_cons_zero, List.getElem?_cons_succ, List.set_cons_zero, List.set_cons_succ, List.length_cons, List.length_nil, List.replicate , e1, e2, e3, hr, atI, ixN], hD, w3, l3⟩
/-! the wells -/
abbrev wellB : MB := (mAsg (mBin oMod (mCB oInt (mCons (mBin oAdd (mBin oAdd (mBin oMulA (mVar 2) (mC (.int 40151))) (mBin oMulA (mBin oMod (mCB oInt (mCons (mVar 3) mNil)) (mC (.int 2147483563))) (mC (.int 13)))) (mC (.int 19))) mNil)) (mC (.int 2147483563))) (gN 2))
theorem well_loop {sc lp ow : Option D} {h : Cells} : ∀ (xs : List Int) (v : Int) (c : Option D), 0 ≤ v → v < 4294967296 → ∃ v' c', mForL (gN 3) wellB (xs.map D.int) ⟨[sc, lp, some (.int v), c, ow], h⟩ = some (.nx, ⟨[sc, lp, some (.int v'), c', ow], h⟩) ∧ 0 ≤ v' ∧ v' < 4294967296
  | [], v, c, h0, h1 => ⟨v, c, rfl, h0, h1⟩
  | x :: xs, v, c, h0, h1 => by
    have x0 := Int.emod_nonneg x (show (2147483563 : Int) ≠ 0 by decide)
    have x1 := Int.emod_lt_of_pos x (show (0 : Int) < 2147483563 by decide)
    have w1 : wideM v 40151 = true := wide64 (by omega) (by decide)
    have w2 : wideM (x % 2147483563) 13 = true := wide64 (by omega) (by decide)
    obtain ⟨v', c', e, g0, g1⟩ := well_loop (sc := sc) (lp := lp) (ow := ow) (h := h) xs ((v * 40151 + x % 2147483563 * 13 + 19) % 2147483563) (some (.int x)) (Int.emod_nonneg _ (by decide)) (by have := Int.emod_lt_of_pos (v * 40151 + x % 2147483563 * 13 + 19) (show (0 : Int) < 2147483563 by decide); omega)
    refine ⟨v', c', ?_, g0, g1⟩
    rw [← e]
    simp [wellB, mFun, line, mSeq, mAsg, mRet, mRetN, mDrop, mIfS, mTBin, mBin, mVar, mC, mCons, mNil, mTup, mLst, mLstC, mCB, mCall, mCallK, mIf, mAndV, mOrV, mNotV, mAnd, mOr, mNot, mTru, mUn, mChain, tB', mNx, mNev, mFor, mForL, mWhile, mComp, mCompL, mYes, gN, gT, gsCons, gsNil, gSubD, mApp, mPar, mPar3, mAugI, mSl, mSo, mNo, iR1, iR2, iR3, iS, iEn, iL, iT, asB, asL, asT, asLT, asInt, oB, oAdd, oSub, oMulA, oMul, oDiv, oMod, oPow, oNeg, cI, oEq, oNe, oIx, asSeq, oInt, oAbs, oLen, oMax2, oMin2, oDivmod, oIsi, tyD, okCell, truthD, mFrz, Option.bind_some, Option.map_some, Option.bind_none, Option.map_none, cond_true, cond_false, List.map_cons, List.map_nil, List.cons_append, List.nil_append, List.getElem?_cons_zero, List.getElem?_cons_succ, List.set_cons_zero, List.set_cons_succ, List.length_cons, List.length_nil, List.replicate , w1, w2]
theorem b_well_eq : b__law_well = (mSeq (mAsg (mBin oAdd (mC (.int 51407)) (mBin oMulA (mC (.int 6101)) (mVar 1))) (gN 2))
    (mSeq (mFor (iS (mSl (mVar 0) mNo (mSo (mC (.int 12))))) (gN 3) wellB)
    (mSeq (mAsg (mIf (mTBin cLt (mVar 1) (mCB oLen (mCons (mVar 0) mNil))) (mCB oInt (mCons (mBin oIx (mVar 0) (mVar 1)) mNil)) (mC (.int 0))) (gN 4))
    (mSeq (mAsg (mBin oMod (mCB oInt (mCons (mBin oAdd (mBin oAdd (mBin oMulA (mVar 2) (mC (.int 101))) (mBin oMulA (mBin oMod (mCB oInt (mCons (mVar 4) mNil)) (mC (.int 2147483563))) (mC (.int 20047)))) (mC (.int 7))) mNil)) (mC (.int 2147483563))) (gN 2))
    (mRet (mLstC (mCons (mIf (mOr (mTBin cLt (mVar 4) (mC (.int 0))) (mTBin cGe (mVar 4) (mBin oPow (mC (.int 10)) (mC (.int 15))))) (mCB oAbs (mCons (mVar 4) mNil)) (mC (.int 0))) (mCons (mVar 2) (mCons (mC (.int 0)) mNil))))))))) := rfl
theorem well_ok (ns : List Int) (hns : ns.length ≤ 63) (lap : Nat) (hl : lap ≤ 10) (h : Cells) (hc : ∀ ds ∈ h, cleans ds = true) : ∃ a m : Int, F__law_well [.frl (ns.map D.int), .int lap] h = some (.cell h.length, h ++ [[.int a, .int m, .int 0]]) ∧ W (h ++ [[.int a, .int m, .int 0]]) h.length 0 := by
  have hcut : ∀ lo hi, cutD (ns.map D.int) lo hi = (((ns.drop (HT.sIx ns.length 0 lo)).take (HT.sIx ns.length ns.length hi - HT.sIx ns.length 0 lo))).map D.int := fun lo hi => by simp [cutD, List.map_take, List.map_drop]
  have hc12 := hcut none (some 12)
  generalize ((ns.drop (HT.sIx ns.length 0 none)).take (HT.sIx ns.length ns.length (some 12) - HT.sIx ns.length 0 none)) = xs at hc12
  obtain ⟨v, c, e, v0, v1⟩ := well_loop (sc := some (.frl (ns.map D.int))) (lp := some (.int lap)) (ow := none) (h := h) xs (51407 + 6101 * lap) none (by omega) (by omega)
  have fin : ∀ own : Int, W (h ++ [[.int (if own < 0 ∨ 1000000000000000 ≤ own then (if own < 0 then -own else own) else 0), .int ((v * 101 + own % 2147483563 * 20047 + 7) % 2147483563), .int 0]]) h.length 0 := fun own => by
    refine ⟨fun ds hd => ?_, (if own < 0 ∨ 1000000000000000 ≤ own then (if own < 0 then -own else own) else 0), ((v * 101 + own % 2147483563 * 20047 + 7) % 2147483563), 0, by simp, ?_, Int.emod_nonneg _ (by decide), Int.emod_lt_of_pos _ (by decide), by omega, by omega⟩
    · rcases List.mem_append.mp hd with z | z
      · exact hc ds z
      · rw [List.mem_singleton] at z; subst z; rfl
    · split
      · split <;> omega
      · omega
  have w0 : wideM 6101 lap = true := wide64 (by decide) (by omega)
  have wv : wideM v 101 = true := wide64 (by omega) (by decide)
  have hfc : ∀ own : Int, (own < 0 ∨ 1000000000000000 ≤ own) ∨ ¬ (own < 0 ∨ 1000000000000000 ≤ own) := fun own => Classical.em _
  unfold F__law_well
  rw [b_well_eq]
  generalize wellB = B at e ⊢
  have core : ∀ own : Int, (if (lap : Int) < (ns.length : Int) then (atI (ns.map D.int) (lap : Int) = some (.int own)) else own = 0) → ∃ a m : Int, mFun 5 2 ((mSeq (mAsg (mBin oAdd (mC (.int 51407)) (mBin oMulA (mC (.int 6101)) (mVar 1))) (gN 2))
    (mSeq (mFor (iS (mSl (mVar 0) mNo (mSo (mC (.int 12))))) (gN 3) B)
    (mSeq (mAsg (mIf (mTBin cLt (mVar 1) (mCB oLen (mCons (mVar 0) mNil))) (mCB oInt (mCons (mBin oIx (mVar 0) (mVar 1)) mNil)) (mC (.int 0))) (gN 4))
    (mSeq (mAsg (mBin oMod (mCB oInt (mCons (mBin oAdd (mBin oAdd (mBin oMulA (mVar 2) (mC (.int 101))) (mBin oMulA (mBin oMod (mCB oInt (mCons (mVar 4) mNil)) (mC (.int 2147483563))) (mC (.int 20047)))) (mC (.int 7))) mNil)) (mC (.int 2147483563))) (gN 2))
    (mRet (mLstC (mCons (mIf (mOr (mTBin cLt (mVar 4) (mC (.int 0))) (mTBin cGe (mVar 4) (mBin oPow (mC (.int 10)) (mC (.int 15))))) (mCB oAbs (mCons (mVar 4) mNil)) (mC (.int 0))) (mCons (mVar 2) (mCons (mC (.int 0)) mNil)))))))))) [.frl (ns.map D.int), .int lap] h = some (.cell h.length, h ++ [[.int a, .int m, .int 0]]) ∧ W (h ++ [[.int a, .int m, .int 0]]) h.length 0 := by
    intro own ho
    refine ⟨_, _, ?_, fin own⟩
    have x0 := Int.emod_nonneg own (show (2147483563 : Int) ≠ 0 by decide)
    have x1 := Int.emod_lt_of_pos own (show (0 : Int) < 2147483563 by decide)
    have w2 : wideM (own % 2147483563) 20047 = true := wide64 (by omega) (by decide)
    by_cases hlap : (lap : Int) < (ns.length : Int)
    · rw [if_pos hlap] at ho
      by_cases h0 : own < 0
      · simp [mFun, line, mSeq, mAsg, mRet, mRetN, mDrop, mIfS, mTBin, mBin, mVar, mC, mCons, mNil, mTup, mLst, mLstC, mCB, mCall, mCallK, mIf, mAndV, mOrV, mNotV, mAnd, mOr, mNot, mTru, mUn, mChain, tB', mNx, mNev, mFor, mForL, mWhile, mComp, mCompL, mYes, gN, gT, gsCons, gsNil, gSubD, mApp, mPar, mPar3, mAugI, mSl, mSo, mNo, iR1, iR2, iR3, iS, iEn, iL, iT, asB, asL, asT, asLT, asInt, oB, oAdd, oSub, oMulA, oMul, oDiv, oMod, oPow, oNeg, cI, oEq, oNe, oIx, asSeq, oInt, oAbs, oLen, oMax2, oMin2, oDivmod, oIsi, tyD, okCell, truthD, mFrz, Option.bind_some, Option.map_some, Option.bind_none, Option.map_none, cond_true, cond_false, List.map_cons, List.map_nil, List.cons_append, List.nil_append, List.getElem?_cons_zero, List.getElem?_cons_succ, List.set_cons_zero, List.set_cons_succ, List.length_cons, List.length_nil, List.replicate , w0, wv, w2, hc12, e, oSl, hlap, ho, h0]
      · by_cases h1 : 1000000000000000 ≤ own
        · simp [mFun, line, mSeq, mAsg, mRet, mRetN, mDrop, mIfS, mTBin, mBin, mVar, mC, mCons, mNil, mTup, mLst, mLstC, mCB, mCall, mCallK, mIf, mAndV, mOrV, mNotV, mAnd, mOr, mNot, mTru, mUn, mChain, tB', mNx, mNev, mFor, mForL, mWhile, mComp, mCompL, mYes, gN, gT, gsCons, gsNil, gSubD, mApp, mPar, mPar3, mAugI, mSl, mSo, mNo, iR1, iR2, iR3, iS, iEn, iL, iT, asB, asL, asT, asLT, asInt, oB, oAdd, oSub, oMulA, oMul, oDiv, oMod, oPow, oNeg, cI, oEq, oNe, oIx, asSeq, oInt, oAbs, oLen, oMax2, oMin2, oDivmod, oIsi, tyD, okCell, truthD, mFrz, Option.bind_some, Option.map_some, Option.bind_none, Option.map_none, cond_true, cond_false, List.map_cons, List.map_nil, List.cons_append, List.nil_append, List.getElem?_cons_zero, List.getElem?_cons_succ, List.set_cons_zero, List.set_cons_succ, List.length_cons, List.length_nil, List.replicate , w0, wv, w2, hc12, e, oSl, hlap, ho, h0, h1]
        · simp [mFun, line, mSeq, mAsg, mRet, mRetN, mDrop, mIfS, mTBin, mBin, mVar, mC, mCons, mNil, mTup, mLst, mLstC, mCB, mCall, mCallK, mIf, mAndV, mOrV, mNotV, mAnd, mOr, mNot, mTru, mUn, mChain, tB', mNx, mNev, mFor, mForL, mWhile, mComp, mCompL, mYes, gN, gT, gsCons, gsNil, gSubD, mApp, mPar, mPar3, mAugI, mSl, mSo, mNo, iR1, iR2, iR3, iS, iEn, iL, iT, asB, asL, asT, asLT, asInt, oB, oAdd, oSub, oMulA, oMul, oDiv, oMod, oPow, oNeg, cI, oEq, oNe, oIx, asSeq, oInt, oAbs, oLen, oMax2, oMin2, oDivmod, oIsi, tyD, okCell, truthD, mFrz, Option.bind_some, Option.map_some, Option.bind_none, Option.map_none, cond_true, cond_false, List.map_cons, List.map_nil, List.cons_append, List.nil_append, List.getElem?_cons_zero, List.getElem?_cons_succ, List.set_cons_zero, List.set_cons_succ, List.length_cons, List.length_nil, List.replicate , w0, wv, w2, hc12, e, oSl, hlap, ho, h0, h1]
    · rw [if_neg hlap] at ho
      subst ho
      have w3 : wideM 0 20047 = true := wide64 (by decide) (by decide)
      simp [mFun, line, mSeq, mAsg, mRet, mRetN, mDrop, mIfS, mTBin, mBin, mVar, mC, mCons, mNil, mTup, mLst, mLstC, mCB, mCall, mCallK, mIf, mAndV, mOrV, mNotV, mAnd, mOr, mNot, mTru, mUn, mChain, tB', mNx, mNev, mFor, mForL, mWhile, mComp, mCompL, mYes, gN, gT, gsCons, gsNil, gSubD, mApp, mPar, mPar3, mAugI, mSl, mSo, mNo, iR1, iR2, iR3, iS, iEn, iL, iT, asB, asL, asT, asLT, asInt, oB, oAdd, oSub, oMulA, oMul, oDiv, oMod, oPow, oNeg, cI, oEq, oNe, oIx, asSeq, oInt, oAbs, oLen, oMax2, oMin2, oDivmod, oIsi, tyD, okCell, truthD, mFrz, Option.bind_some, Option.map_some, Option.bind_none, Option.map_none, cond_true, cond_false, List.map_cons, List.map_nil, List.cons_append, List.nil_append, List.getElem?_cons_zero, List.getElem?_cons_succ, List.set_cons_zero, List.set_cons_succ, List.length_cons, List.length_nil, List.replicate , w0, wv, w3, hc12, e, oSl, hlap]
  by_cases hlap : lap < ns.length
  · exact core ns[lap] (by rw [if_pos (by omega)]; simp [atI, ixN, hlap])
  · exact core 0 (by rw [if_neg (by omega)])
end Law

set_option Elab.async false
set_option linter.all false
set_option maxRecDepth 100000
set_option maxHeartbeats 4000000
namespace Law
open PySem L2 Zm
theorem eqv_int (a b : Int) : PyData.eqv (.int a) (.int b) = (a == b) := by first | rfl | simp [PyData.eqv]
theorem sh_int (a : Int) : SeqAt.shaped (.int a) = true := by first | rfl | decide
theorem in2 (h : Cells) (n a b : Int) : oIn false h (.int n) (.tup [.int a, .int b]) = some (decide (a = n) || decide (b = n)) := by
  have e1 : py h (.int n) = some (.int n) := rfl
  have e2 : py h (.tup [.int a, .int b]) = some (.tuple [.int a, .int b]) := rfl
  have e3 : SeqAt.shaped (.tuple [.int a, .int b]) = true := by first | rfl | simp [SeqAt.shaped]
  unfold oIn
  rw [e1, e2]
  simp [itemsP, sh_int, e3, eqv_int]
  rfl
def plain : D → Bool
  | .cell _ => false
  | .ty _ => false
  | .rng _ _ => false
  | .hid _ => false
  | .exc _ _ _ _ => false
  | _ => true
theorem whole_ok {d : D} (h : Cells) (hp : plain d = true) : F_is_whole [d] h = some (.bl (match d with | .int _ => true | _ => false), h) := by
  cases d <;> simp only [plain] at hp <;> try (cases hp; done)
  all_goals simp [F_is_whole, b_is_whole, mFun, line, mSeq, mAsg, mRet, mRetN, mDrop, mIfS, mTBin, mBin, mVar, mC, mCons, mNil, mTup, mLst, mLstC, mCB, mCall, mCallK, mIf, mAndV, mOrV, mNotV, mAnd, mOr, mNot, mTru, mUn, mChain, tB', mNx, mNev, mFor, mForL, mWhile, mComp, mCompL, mYes, gN, gT, gsCons, gsNil, gSubD, mApp, mPar, mPar3, mAugI, mSl, mSo, mNo, iR1, iR2, iR3, iS, iEn, iL, iT, asB, asL, asT, asLT, asInt, oB, oAdd, oSub, oMulA, oMul, oDiv, oMod, oPow, oNeg, cI, oEq, oNe, oIx, asSeq, oInt, oAbs, oLen, oMax2, oMin2, oDivmod, oIsi, tyD, okCell, truthD, mFrz, Option.bind_some, Option.map_some, Option.bind_none, Option.map_none, cond_true, cond_false, List.map_cons, List.map_nil, List.cons_append, List.nil_append, List.getElem?_cons_zero, List.getElem?_cons_succ, List.set_cons_zero, List.set_cons_succ, List.length_cons, List.length_nil, List.replicate , isiB]
theorem lwhole_ok {d : D} (h : Cells) (hp : plain d = true) : F__law_is_whole [d] h = some (.bl (match d with | .int _ => true | _ => false), h) := by
  cases d <;> simp only [plain] at hp <;> try (cases hp; done)
  all_goals simp [F__law_is_whole, b__law_is_whole, mFun, line, mSeq, mAsg, mRet, mRetN, mDrop, mIfS, mTBin, mBin, mVar, mC, mCons, mNil, mTup, mLst, mLstC, mCB, mCall, mCallK, mIf, mAndV, mOrV, mNotV, mAnd, mOr, mNot, mTru, mUn, mChain, tB', mNx, mNev, mFor, mForL, mWhile, mComp, mCompL, mYes, gN, gT, gsCons, gsNil, gSubD, mApp, mPar, mPar3, mAugI, mSl, mSo, mNo, iR1, iR2, iR3, iS, iEn, iL, iT, asB, asL, asT, asLT, asInt, oB, oAdd, oSub, oMulA, oMul, oDiv, oMod, oPow, oNeg, cI, oEq, oNe, oIx, asSeq, oInt, oAbs, oLen, oMax2, oMin2, oDivmod, oIsi, tyD, okCell, truthD, mFrz, Option.bind_some, Option.map_some, Option.bind_none, Option.map_none, cond_true, cond_false, List.map_cons, List.map_nil, List.cons_append, List.nil_append, List.getElem?_cons_zero, List.getElem?_cons_succ, List.set_cons_zero, List.set_cons_succ, List.length_cons, List.length_nil, List.replicate , isiB]
theorem between_ok (h : Cells) (n a b : Int) : F_is_whole_between [.int n, .int a, .int b] h = some (.bl (decide (a ≤ n ∧ n ≤ b)), h) := by
  have e := whole_ok (d := .int n) h rfl
  by_cases h1 : a ≤ n
  · simp [F_is_whole_between, b_is_whole_between, mFun, line, mSeq, mAsg, mRet, mRetN, mDrop, mIfS, mTBin, mBin, mVar, mC, mCons, mNil, mTup, mLst, mLstC, mCB, mCall, mCallK, mIf, mAndV, mOrV, mNotV, mAnd, mOr, mNot, mTru, mUn, mChain, tB', mNx, mNev, mFor, mForL, mWhile, mComp, mCompL, mYes, gN, gT, gsCons, gsNil, gSubD, mApp, mPar, mPar3, mAugI, mSl, mSo, mNo, iR1, iR2, iR3, iS, iEn, iL, iT, asB, asL, asT, asLT, asInt, oB, oAdd, oSub, oMulA, oMul, oDiv, oMod, oPow, oNeg, cI, oEq, oNe, oIx, asSeq, oInt, oAbs, oLen, oMax2, oMin2, oDivmod, oIsi, tyD, okCell, truthD, mFrz, Option.bind_some, Option.map_some, Option.bind_none, Option.map_none, cond_true, cond_false, List.map_cons, List.map_nil, List.cons_append, List.nil_append, List.getElem?_cons_zero, List.getElem?_cons_succ, List.set_cons_zero, List.set_cons_succ, List.length_cons, List.length_nil, List.replicate , e, h1]
  · simp [F_is_whole_between, b_is_whole_between, mFun, line, mSeq, mAsg, mRet, mRetN, mDrop, mIfS, mTBin, mBin, mVar, mC, mCons, mNil, mTup, mLst, mLstC, mCB, mCall, mCallK, mIf, mAndV, mOrV, mNotV, mAnd, mOr, mNot, mTru, mUn, mChain, tB', mNx, mNev, mFor, mForL, mWhile, mComp, mCompL, mYes, gN, gT, gsCons, gsNil, gSubD, mApp, mPar, mPar3, mAugI, mSl, mSo, mNo, iR1, iR2, iR3, iS, iEn, iL, iT, asB, asL, asT, asLT, asInt, oB, oAdd, oSub, oMulA, oMul, oDiv, oMod, oPow, oNeg, cI, oEq, oNe, oIx, asSeq, oInt, oAbs, oLen, oMax2, oMin2, oDivmod, oIsi, tyD, okCell, truthD, mFrz, Option.bind_some, Option.map_some, Option.bind_none, Option.map_none, cond_true, cond_false, List.map_cons, List.map_nil, List.cons_append, List.nil_append, List.getElem?_cons_zero, List.getElem?_cons_succ, List.set_cons_zero, List.set_cons_succ, List.length_cons, List.length_nil, List.replicate , e, h1]
theorem between_no {d : D} (h : Cells) (hp : plain d = true) (hi : ∀ n, d ≠ .int n) (a b : Int) : F_is_whole_between [d, .int a, .int b] h = some (.bl false, h) := by
  have e := whole_ok (d := d) h hp
  cases d <;> simp only [plain] at hp <;> try (cases hp; done)
  all_goals first
    | exact absurd rfl (hi _)
    | simp [F_is_whole_between, b_is_whole_between, mFun, line, mSeq, mAsg, mRet, mRetN, mDrop, mIfS, mTBin, mBin, mVar, mC, mCons, mNil, mTup, mLst, mLstC, mCB, mCall, mCallK, mIf, mAndV, mOrV, mNotV, mAnd, mOr, mNot, mTru, mUn, mChain, tB', mNx, mNev, mFor, mForL, mWhile, mComp, mCompL, mYes, gN, gT, gsCons, gsNil, gSubD, mApp, mPar, mPar3, mAugI, mSl, mSo, mNo, iR1, iR2, iR3, iS, iEn, iL, iT, asB, asL, asT, asLT, asInt, oB, oAdd, oSub, oMulA, oMul, oDiv, oMod, oPow, oNeg, cI, oEq, oNe, oIx, asSeq, oInt, oAbs, oLen, oMax2, oMin2, oDivmod, oIsi, tyD, okCell, truthD, mFrz, Option.bind_some, Option.map_some, Option.bind_none, Option.map_none, cond_true, cond_false, List.map_cons, List.map_nil, List.cons_append, List.nil_append, List.getElem?_cons_zero, List.getElem?_cons_succ, List.set_cons_zero, List.set_cons_succ, List.length_cons, List.length_nil, List.replicate , e]
theorem disc_is {d : D} (h : Cells) (hp : plain d = true) : F_is_discriminant [d] h = some (.bl (dOk d), h) := by
  by_cases hi : ∃ n, d = .int n
  · obtain ⟨n, rfl⟩ := hi
    have e := between_ok h n (-400) (-3)
    have e2 := in2 h (n % 4) 0 1
    by_cases h1 : -400 ≤ n ∧ n ≤ -3
    · have : dOk (.int n) = (decide (0 = n % 4) || decide (1 = n % 4)) := by
        simp only [dOk, okD]
        rw [← Bool.decide_or]
        exact decide_eq_decide.mpr ⟨fun h => by omega, fun h => by omega⟩
      simp [F_is_discriminant, b_is_discriminant, mFun, line, mSeq, mAsg, mRet, mRetN, mDrop, mIfS, mTBin, mBin, mVar, mC, mCons, mNil, mTup, mLst, mLstC, mCB, mCall, mCallK, mIf, mAndV, mOrV, mNotV, mAnd, mOr, mNot, mTru, mUn, mChain, tB', mNx, mNev, mFor, mForL, mWhile, mComp, mCompL, mYes, gN, gT, gsCons, gsNil, gSubD, mApp, mPar, mPar3, mAugI, mSl, mSo, mNo, iR1, iR2, iR3, iS, iEn, iL, iT, asB, asL, asT, asLT, asInt, oB, oAdd, oSub, oMulA, oMul, oDiv, oMod, oPow, oNeg, cI, oEq, oNe, oIx, asSeq, oInt, oAbs, oLen, oMax2, oMin2, oDivmod, oIsi, tyD, okCell, truthD, mFrz, Option.bind_some, Option.map_some, Option.bind_none, Option.map_none, cond_true, cond_false, List.map_cons, List.map_nil, List.cons_append, List.nil_append, List.getElem?_cons_zero, List.getElem?_cons_succ, List.set_cons_zero, List.set_cons_succ, List.length_cons, List.length_nil, List.replicate , e, e2, h1, this]
    · have : dOk (.int n) = false := decide_eq_false fun z => h1 ⟨z.1, z.2.1⟩
      simp [F_is_discriminant, b_is_discriminant, mFun, line, mSeq, mAsg, mRet, mRetN, mDrop, mIfS, mTBin, mBin, mVar, mC, mCons, mNil, mTup, mLst, mLstC, mCB, mCall, mCallK, mIf, mAndV, mOrV, mNotV, mAnd, mOr, mNot, mTru, mUn, mChain, tB', mNx, mNev, mFor, mForL, mWhile, mComp, mCompL, mYes, gN, gT, gsCons, gsNil, gSubD, mApp, mPar, mPar3, mAugI, mSl, mSo, mNo, iR1, iR2, iR3, iS, iEn, iL, iT, asB, asL, asT, asLT, asInt, oB, oAdd, oSub, oMulA, oMul, oDiv, oMod, oPow, oNeg, cI, oEq, oNe, oIx, asSeq, oInt, oAbs, oLen, oMax2, oMin2, oDivmod, oIsi, tyD, okCell, truthD, mFrz, Option.bind_some, Option.map_some, Option.bind_none, Option.map_none, cond_true, cond_false, List.map_cons, List.map_nil, List.cons_append, List.nil_append, List.getElem?_cons_zero, List.getElem?_cons_succ, List.set_cons_zero, List.set_cons_succ, List.length_cons, List.length_nil, List.replicate , e, h1, this]
  · have e := between_no (d := d) h hp (fun n z => hi ⟨n, z⟩) (-400) (-3)
    have : dOk d = false := by
      cases d <;> first | rfl | exact absurd ⟨_, rfl⟩ hi
    simp [F_is_discriminant, b_is_discriminant, mFun, line, mSeq, mAsg, mRet, mRetN, mDrop, mIfS, mTBin, mBin, mVar, mC, mCons, mNil, mTup, mLst, mLstC, mCB, mCall, mCallK, mIf, mAndV, mOrV, mNotV, mAnd, mOr, mNot, mTru, mUn, mChain, tB', mNx, mNev, mFor, mForL, mWhile, mComp, mCompL, mYes, gN, gT, gsCons, gsNil, gSubD, mApp, mPar, mPar3, mAugI, mSl, mSo, mNo, iR1, iR2, iR3, iS, iEn, iL, iT, asB, asL, asT, asLT, asInt, oB, oAdd, oSub, oMulA, oMul, oDiv, oMod, oPow, oNeg, cI, oEq, oNe, oIx, asSeq, oInt, oAbs, oLen, oMax2, oMin2, oDivmod, oIsi, tyD, okCell, truthD, mFrz, Option.bind_some, Option.map_some, Option.bind_none, Option.map_none, cond_true, cond_false, List.map_cons, List.map_nil, List.cons_append, List.nil_append, List.getElem?_cons_zero, List.getElem?_cons_succ, List.set_cons_zero, List.set_cons_succ, List.length_cons, List.length_nil, List.replicate , e, this]
theorem ldisc_is {d : D} (h : Cells) (hp : plain d = true) : F__law_is_discriminant [d] h = some (.bl (dOk d), h) := by
  have e := lwhole_ok (d := d) h hp
  by_cases hi : ∃ n, d = .int n
  · obtain ⟨n, rfl⟩ := hi
    by_cases h1 : -400 ≤ n
    · by_cases h2 : n ≤ -3
      · have : dOk (.int n) = decide (n % 4 < 2) := decide_eq_decide.mpr ⟨fun z => by have := z.2.2; omega, fun z => ⟨h1, h2, by omega⟩⟩
        simp [F__law_is_discriminant, b__law_is_discriminant, mFun, line, mSeq, mAsg, mRet, mRetN, mDrop, mIfS, mTBin, mBin, mVar, mC, mCons, mNil, mTup, mLst, mLstC, mCB, mCall, mCallK, mIf, mAndV, mOrV, mNotV, mAnd, mOr, mNot, mTru, mUn, mChain, tB', mNx, mNev, mFor, mForL, mWhile, mComp, mCompL, mYes, gN, gT, gsCons, gsNil, gSubD, mApp, mPar, mPar3, mAugI, mSl, mSo, mNo, iR1, iR2, iR3, iS, iEn, iL, iT, asB, asL, asT, asLT, asInt, oB, oAdd, oSub, oMulA, oMul, oDiv, oMod, oPow, oNeg, cI, oEq, oNe, oIx, asSeq, oInt, oAbs, oLen, oMax2, oMin2, oDivmod, oIsi, tyD, okCell, truthD, mFrz, Option.bind_some, Option.map_some, Option.bind_none, Option.map_none, cond_true, cond_false, List.map_cons, List.map_nil, List.cons_append, List.nil_append, List.getElem?_cons_zero, List.getElem?_cons_succ, List.set_cons_zero, List.set_cons_succ, List.length_cons, List.length_nil, List.replicate , e, h1, h2, this]
      · have : dOk (.int n) = false := decide_eq_false fun z => h2 z.2.1
        simp [F__law_is_discriminant, b__law_is_discriminant, mFun, line, mSeq, mAsg, mRet, mRetN, mDrop, mIfS, mTBin, mBin, mVar, mC, mCons, mNil, mTup, mLst, mLstC, mCB, mCall, mCallK, mIf, mAndV, mOrV, mNotV, mAnd, mOr, mNot, mTru, mUn, mChain, tB', mNx, mNev, mFor, mForL, mWhile, mComp, mCompL, mYes, gN, gT, gsCons, gsNil, gSubD, mApp, mPar, mPar3, mAugI, mSl, mSo, mNo, iR1, iR2, iR3, iS, iEn, iL, iT, asB, asL, asT, asLT, asInt, oB, oAdd, oSub, oMulA, oMul, oDiv, oMod, oPow, oNeg, cI, oEq, oNe, oIx, asSeq, oInt, oAbs, oLen, oMax2, oMin2, oDivmod, oIsi, tyD, okCell, truthD, mFrz, Option.bind_some, Option.map_some, Option.bind_none, Option.map_none, cond_true, cond_false, List.map_cons, List.map_nil, List.cons_append, List.nil_append, List.getElem?_cons_zero, List.getElem?_cons_succ, List.set_cons_zero, List.set_cons_succ, List.length_cons, List.length_nil, List.replicate , e, h1, h2, this]
    · have : dOk (.int n) = false := decide_eq_false fun z => h1 z.1
      simp [F__law_is_discriminant, b__law_is_discriminant, mFun, line, mSeq, mAsg, mRet, mRetN, mDrop, mIfS, mTBin, mBin, mVar, mC, mCons, mNil, mTup, mLst, mLstC, mCB, mCall, mCallK, mIf, mAndV, mOrV, mNotV, mAnd, mOr, mNot, mTru, mUn, mChain, tB', mNx, mNev, mFor, mForL, mWhile, mComp, mCompL, mYes, gN, gT, gsCons, gsNil, gSubD, mApp, mPar, mPar3, mAugI, mSl, mSo, mNo, iR1, iR2, iR3, iS, iEn, iL, iT, asB, asL, asT, asLT, asInt, oB, oAdd, oSub, oMulA, oMul, oDiv, oMod, oPow, oNeg, cI, oEq, oNe, oIx, asSeq, oInt, oAbs, oLen, oMax2, oMin2, oDivmod, oIsi, tyD, okCell, truthD, mFrz, Option.bind_some, Option.map_some, Option.bind_none, Option.map_none, cond_true, cond_false, List.map_cons, List.map_nil, List.cons_append, List.nil_append, List.getElem?_cons_zero, List.getElem?_cons_succ, List.set_cons_zero, List.set_cons_succ, List.length_cons, List.length_nil, List.replicate , e, h1, this]
  · cases d <;> first
      | exact absurd ⟨_, rfl⟩ hi
      | (simp only [plain] at hp; cases hp; done)
      | simp [F__law_is_discriminant, b__law_is_discriminant, mFun, line, mSeq, mAsg, mRet, mRetN, mDrop, mIfS, mTBin, mBin, mVar, mC, mCons, mNil, mTup, mLst, mLstC, mCB, mCall, mCallK, mIf, mAndV, mOrV, mNotV, mAnd, mOr, mNot, mTru, mUn, mChain, tB', mNx, mNev, mFor, mForL, mWhile, mComp, mCompL, mYes, gN, gT, gsCons, gsNil, gSubD, mApp, mPar, mPar3, mAugI, mSl, mSo, mNo, iR1, iR2, iR3, iS, iEn, iL, iT, asB, asL, asT, asLT, asInt, oB, oAdd, oSub, oMulA, oMul, oDiv, oMod, oPow, oNeg, cI, oEq, oNe, oIx, asSeq, oInt, oAbs, oLen, oMax2, oMin2, oDivmod, oIsi, tyD, okCell, truthD, mFrz, Option.bind_some, Option.map_some, Option.bind_none, Option.map_none, cond_true, cond_false, List.map_cons, List.map_nil, List.cons_append, List.nil_append, List.getElem?_cons_zero, List.getElem?_cons_succ, List.set_cons_zero, List.set_cons_succ, List.length_cons, List.length_nil, List.replicate , e, dOk]
end Law

set_option Elab.async false
set_option linter.all false
set_option maxRecDepth 100000
set_option maxHeartbeats 4000000
namespace Law
open PySem L2 Zm
/-! bounds -/
def Bd (k : Nat) (x : Int) : Prop := x.natAbs < 2 ^ k
theorem Bd.mono {k m : Nat} {x : Int} (h : Bd k x) (l : k ≤ m) : Bd m x := Nat.lt_of_lt_of_le h (Nat.pow_le_pow_right (by decide) l)
theorem Bd.mul {k m : Nat} {x y : Int} (h : Bd k x) (g : Bd m y) : Bd (k + m) (x * y) := by
  show (x * y).natAbs < 2 ^ (k + m)
  rw [Int.natAbs_mul, Nat.pow_add]
  exact Nat.mul_lt_mul'' h g
theorem Bd.add {k : Nat} {x y : Int} (h : Bd k x) (g : Bd k y) : Bd (k + 1) (x + y) := by
  have e : 2 ^ (k + 1) = 2 * 2 ^ k := by rw [Nat.pow_succ]; omega
  have h' : x.natAbs < 2 ^ k := h
  have g' : y.natAbs < 2 ^ k := g
  show (x + y).natAbs < 2 ^ (k + 1)
  omega
theorem Bd.neg {k : Nat} {x : Int} (h : Bd k x) : Bd k (-x) := by
  show (-x).natAbs < 2 ^ k
  rw [Int.natAbs_neg]; exact h
theorem Bd.sub {k : Nat} {x y : Int} (h : Bd k x) (g : Bd k y) : Bd (k + 1) (x - y) := by
  rw [Int.sub_eq_add_neg]; exact h.add g.neg
theorem wide_B {x y : Int} (h : Bd 20000 x) (g : Bd 20000 y) : wideM x y = true := by
  have h1 : x.natAbs.log2 < 20000 := log_le h (by decide)
  have h2 : y.natAbs.log2 < 20000 := log_le g (by decide)
  exact decide_eq_true (by omega)
theorem Bd.two {k : Nat} (hk : 2 ≤ k) : Bd k 2 := Nat.lt_of_lt_of_le (show 2 < 2 ^ 2 by decide) (Nat.pow_le_pow_right (by decide) hk)
theorem Bd.four {k : Nat} (hk : 3 ≤ k) : Bd k 4 := Nat.lt_of_lt_of_le (show 4 < 2 ^ 3 by decide) (Nat.pow_le_pow_right (by decide) hk)
theorem wideD_B {x : Int} (h0 : 0 < x) (h : Bd 8000 x) : wideD x = true := decide_eq_true ⟨h0, by have := log_le h (by decide); omega⟩
/-! forms and changes -/
abbrev T3 (a b c : Int) : D := .tup [.int a, .int b, .int c]
abbrev T4 (a b c d : Int) : D := .tup [.int a, .int b, .int c, .int d]
def vl (a b c x y : Int) : Int := a * x * x + b * x * y + c * y * y
def md (a b c p q r s : Int) : Int := 2 * a * p * q + b * (p * s + q * r) + 2 * c * r * s
theorem value_ok {a b c x y : Int} {h : Cells} (ha : Bd 3000 a) (hb : Bd 3000 b) (hc : Bd 3000 c) (hx : Bd 3000 x) (hy : Bd 3000 y) : F_value_at [T3 a b c, .int x, .int y] h = some (.int (vl a b c x y), h) := by
  have w1 : wideM a x = true := wide_B (ha.mono (by decide)) (hx.mono (by decide))
  have w2 : wideM (a * x) x = true := wide_B ((ha.mul hx).mono (by decide)) (hx.mono (by decide))
  have w3 : wideM b x = true := wide_B (hb.mono (by decide)) (hx.mono (by decide))
  have w4 : wideM (b * x) y = true := wide_B ((hb.mul hx).mono (by decide)) (hy.mono (by decide))
  have w5 : wideM c y = true := wide_B (hc.mono (by decide)) (hy.mono (by decide))
  have w6 : wideM (c * y) y = true := wide_B ((hc.mul hy).mono (by decide)) (hy.mono (by decide))
  simp [F_value_at, b_value_at, mFun, line, mSeq, mAsg, mRet, mRetN, mDrop, mIfS, mTBin, mBin, mVar, mC, mCons, mNil, mTup, mLst, mLstC, mCB, mCall, mCallK, mIf, mAndV, mOrV, mNotV, mAnd, mOr, mNot, mTru, mUn, mChain, tB', mNx, mNev, mFor, mForL, mWhile, mComp, mCompL, mYes, gN, gT, gsCons, gsNil, gSubD, mApp, mPar, mPar3, mAugI, mSl, mSo, mNo, iR1, iR2, iR3, iS, iEn, iL, iT, asB, asL, asT, asLT, asInt, oB, oAdd, oSub, oMulA, oMul, oDiv, oMod, oPow, oNeg, cI, oEq, oNe, oIx, asSeq, oInt, oAbs, oLen, oMax2, oMin2, oDivmod, oIsi, tyD, okCell, truthD, mFrz, Option.bind_some, Option.map_some, Option.bind_none, Option.map_none, cond_true, cond_false, List.map_cons, List.map_nil, List.cons_append, List.nil_append, List.getElem?_cons_zero, List.getElem?_cons_succ, List.set_cons_zero, List.set_cons_succ, List.length_cons, List.length_nil, List.replicate , w1, w2, w3, w4, w5, w6, vl]
theorem lvalue_ok {a b c x y : Int} {h : Cells} (ha : Bd 3000 a) (hb : Bd 3000 b) (hc : Bd 3000 c) (hx : Bd 3000 x) (hy : Bd 3000 y) : F__law_value [T3 a b c, .int x, .int y] h = some (.int (vl a b c x y), h) := by
  have w1 : wideM a x = true := wide_B (ha.mono (by decide)) (hx.mono (by decide))
  have w2 : wideM (a * x) x = true := wide_B ((ha.mul hx).mono (by decide)) (hx.mono (by decide))
  have w3 : wideM b x = true := wide_B (hb.mono (by decide)) (hx.mono (by decide))
  have w4 : wideM (b * x) y = true := wide_B ((hb.mul hx).mono (by decide)) (hy.mono (by decide))
  have w5 : wideM c y = true := wide_B (hc.mono (by decide)) (hy.mono (by decide))
  have w6 : wideM (c * y) y = true := wide_B ((hc.mul hy).mono (by decide)) (hy.mono (by decide))
  simp [F__law_value, b__law_value, mFun, line, mSeq, mAsg, mRet, mRetN, mDrop, mIfS, mTBin, mBin, mVar, mC, mCons, mNil, mTup, mLst, mLstC, mCB, mCall, mCallK, mIf, mAndV, mOrV, mNotV, mAnd, mOr, mNot, mTru, mUn, mChain, tB', mNx, mNev, mFor, mForL, mWhile, mComp, mCompL, mYes, gN, gT, gsCons, gsNil, gSubD, mApp, mPar, mPar3, mAugI, mSl, mSo, mNo, iR1, iR2, iR3, iS, iEn, iL, iT, asB, asL, asT, asLT, asInt, oB, oAdd, oSub, oMulA, oMul, oDiv, oMod, oPow, oNeg, cI, oEq, oNe, oIx, asSeq, oInt, oAbs, oLen, oMax2, oMin2, oDivmod, oIsi, tyD, okCell, truthD, mFrz, Option.bind_some, Option.map_some, Option.bind_none, Option.map_none, cond_true, cond_false, List.map_cons, List.map_nil, List.cons_append, List.nil_append, List.getElem?_cons_zero, List.getElem?_cons_succ, List.set_cons_zero, List.set_cons_succ, List.length_cons, List.length_nil, List.replicate , atI, ixN, w1, w2, w3, w4, w5, w6, vl]
theorem led_ok {a b c p q r s : Int} {h : Cells} (ha : Bd 3000 a) (hb : Bd 3000 b) (hc : Bd 3000 c) (hp : Bd 3000 p) (hq : Bd 3000 q) (hr : Bd 3000 r) (hs : Bd 3000 s) :
    F_led_by [T3 a b c, T4 p q r s] h = some (T3 (vl a b c p r) (md a b c p q r s) (vl a b c q s), h) := by
  have e1 := value_ok (h := h) ha hb hc hp hr
  have e2 := value_ok (h := h) ha hb hc hq hs
  have t : Bd 3000 (2 : Int) := .two (by decide)
  have a2 : Bd 6000 (2 * a) := t.mul ha
  have c2 : Bd 6000 (2 * c) := t.mul hc
  have w1 : wideM 2 a = true := wide_B (t.mono (by decide)) (ha.mono (by decide))
  have w2 : wideM (2 * a) p = true := wide_B (a2.mono (by decide)) (hp.mono (by decide))
  have w3 : wideM (2 * a * p) q = true := wide_B ((a2.mul hp).mono (by decide)) (hq.mono (by decide))
  have w4 : wideM p s = true := wide_B (hp.mono (by decide)) (hs.mono (by decide))
  have w5 : wideM q r = true := wide_B (hq.mono (by decide)) (hr.mono (by decide))
  have w6 : wideM b (p * s + q * r) = true := wide_B (hb.mono (by decide)) (((hp.mul hs).add (hq.mul hr)).mono (by decide))
  have w7 : wideM 2 c = true := wide_B (t.mono (by decide)) (hc.mono (by decide))
  have w8 : wideM (2 * c) r = true := wide_B (c2.mono (by decide)) (hr.mono (by decide))
  have w9 : wideM (2 * c * r) s = true := wide_B ((c2.mul hr).mono (by decide)) (hs.mono (by decide))
  simp [F_led_by, b_led_by, mFun, line, mSeq, mAsg, mRet, mRetN, mDrop, mIfS, mTBin, mBin, mVar, mC, mCons, mNil, mTup, mLst, mLstC, mCB, mCall, mCallK, mIf, mAndV, mOrV, mNotV, mAnd, mOr, mNot, mTru, mUn, mChain, tB', mNx, mNev, mFor, mForL, mWhile, mComp, mCompL, mYes, gN, gT, gsCons, gsNil, gSubD, mApp, mPar, mPar3, mAugI, mSl, mSo, mNo, iR1, iR2, iR3, iS, iEn, iL, iT, asB, asL, asT, asLT, asInt, oB, oAdd, oSub, oMulA, oMul, oDiv, oMod, oPow, oNeg, cI, oEq, oNe, oIx, asSeq, oInt, oAbs, oLen, oMax2, oMin2, oDivmod, oIsi, tyD, okCell, truthD, mFrz, Option.bind_some, Option.map_some, Option.bind_none, Option.map_none, cond_true, cond_false, List.map_cons, List.map_nil, List.cons_append, List.nil_append, List.getElem?_cons_zero, List.getElem?_cons_succ, List.set_cons_zero, List.set_cons_succ, List.length_cons, List.length_nil, List.replicate , e1, e2, w1, w2, w3, w4, w5, w6, w7, w8, w9, md]
theorem lled_ok {a b c p q r s : Int} {h : Cells} (ha : Bd 3000 a) (hb : Bd 3000 b) (hc : Bd 3000 c) (hp : Bd 3000 p) (hq : Bd 3000 q) (hr : Bd 3000 r) (hs : Bd 3000 s) :
    F__law_led [T3 a b c, T4 p q r s] h = some (T3 (vl a b c p r) (md a b c p q r s) (vl a b c q s), h) := by
  have e1 := lvalue_ok (h := h) ha hb hc hp hr
  have e2 := lvalue_ok (h := h) ha hb hc hq hs
  have t : Bd 3000 (2 : Int) := .two (by decide)
  have a2 : Bd 6000 (2 * a) := t.mul ha
  have c2 : Bd 6000 (2 * c) := t.mul hc
  have w1 : wideM 2 a = true := wide_B (t.mono (by decide)) (ha.mono (by decide))
  have w2 : wideM (2 * a) p = true := wide_B (a2.mono (by decide)) (hp.mono (by decide))
  have w3 : wideM (2 * a * p) q = true := wide_B ((a2.mul hp).mono (by decide)) (hq.mono (by decide))
  have w4 : wideM p s = true := wide_B (hp.mono (by decide)) (hs.mono (by decide))
  have w5 : wideM q r = true := wide_B (hq.mono (by decide)) (hr.mono (by decide))
  have w6 : wideM b (p * s + q * r) = true := wide_B (hb.mono (by decide)) (((hp.mul hs).add (hq.mul hr)).mono (by decide))
  have w7 : wideM 2 c = true := wide_B (t.mono (by decide)) (hc.mono (by decide))
  have w8 : wideM (2 * c) r = true := wide_B (c2.mono (by decide)) (hr.mono (by decide))
  have w9 : wideM (2 * c * r) s = true := wide_B ((c2.mul hr).mono (by decide)) (hs.mono (by decide))
  simp [F__law_led, b__law_led, mFun, line, mSeq, mAsg, mRet, mRetN, mDrop, mIfS, mTBin, mBin, mVar, mC, mCons, mNil, mTup, mLst, mLstC, mCB, mCall, mCallK, mIf, mAndV, mOrV, mNotV, mAnd, mOr, mNot, mTru, mUn, mChain, tB', mNx, mNev, mFor, mForL, mWhile, mComp, mCompL, mYes, gN, gT, gsCons, gsNil, gSubD, mApp, mPar, mPar3, mAugI, mSl, mSo, mNo, iR1, iR2, iR3, iS, iEn, iL, iT, asB, asL, asT, asLT, asInt, oB, oAdd, oSub, oMulA, oMul, oDiv, oMod, oPow, oNeg, cI, oEq, oNe, oIx, asSeq, oInt, oAbs, oLen, oMax2, oMin2, oDivmod, oIsi, tyD, okCell, truthD, mFrz, Option.bind_some, Option.map_some, Option.bind_none, Option.map_none, cond_true, cond_false, List.map_cons, List.map_nil, List.cons_append, List.nil_append, List.getElem?_cons_zero, List.getElem?_cons_succ, List.set_cons_zero, List.set_cons_succ, List.length_cons, List.length_nil, List.replicate , atI, ixN, e1, e2, w1, w2, w3, w4, w5, w6, w7, w8, w9, md]
theorem joined_ok {p q r s t u v w : Int} {h : Cells} (hp : Bd 9000 p) (hq : Bd 9000 q) (hr : Bd 9000 r) (hs : Bd 9000 s) (ht : Bd 9000 t) (hu : Bd 9000 u) (hv : Bd 9000 v) (hw : Bd 9000 w) :
    F_joined [T4 p q r s, T4 t u v w] h = some (T4 (p * t + q * v) (p * u + q * w) (r * t + s * v) (r * u + s * w), h) := by
  have W : ∀ x y : Int, Bd 9000 x → Bd 9000 y → wideM x y = true := fun x y h1 h2 => wide_B (h1.mono (by decide)) (h2.mono (by decide))
  simp [F_joined, b_joined, mFun, line, mSeq, mAsg, mRet, mRetN, mDrop, mIfS, mTBin, mBin, mVar, mC, mCons, mNil, mTup, mLst, mLstC, mCB, mCall, mCallK, mIf, mAndV, mOrV, mNotV, mAnd, mOr, mNot, mTru, mUn, mChain, tB', mNx, mNev, mFor, mForL, mWhile, mComp, mCompL, mYes, gN, gT, gsCons, gsNil, gSubD, mApp, mPar, mPar3, mAugI, mSl, mSo, mNo, iR1, iR2, iR3, iS, iEn, iL, iT, asB, asL, asT, asLT, asInt, oB, oAdd, oSub, oMulA, oMul, oDiv, oMod, oPow, oNeg, cI, oEq, oNe, oIx, asSeq, oInt, oAbs, oLen, oMax2, oMin2, oDivmod, oIsi, tyD, okCell, truthD, mFrz, Option.bind_some, Option.map_some, Option.bind_none, Option.map_none, cond_true, cond_false, List.map_cons, List.map_nil, List.cons_append, List.nil_append, List.getElem?_cons_zero, List.getElem?_cons_succ, List.set_cons_zero, List.set_cons_succ, List.length_cons, List.length_nil, List.replicate , W p t hp ht, W q v hq hv, W p u hp hu, W q w hq hw, W r t hr ht, W s v hs hv, W r u hr hu, W s w hs hw]
theorem both_ok {p q r s t u v w : Int} {h : Cells} (hp : Bd 9000 p) (hq : Bd 9000 q) (hr : Bd 9000 r) (hs : Bd 9000 s) (ht : Bd 9000 t) (hu : Bd 9000 u) (hv : Bd 9000 v) (hw : Bd 9000 w) :
    F__law_both [T4 p q r s, T4 t u v w] h = some (T4 (p * t + q * v) (p * u + q * w) (r * t + s * v) (r * u + s * w), h) := by
  have W : ∀ x y : Int, Bd 9000 x → Bd 9000 y → wideM x y = true := fun x y h1 h2 => wide_B (h1.mono (by decide)) (h2.mono (by decide))
  simp [F__law_both, b__law_both, mFun, line, mSeq, mAsg, mRet, mRetN, mDrop, mIfS, mTBin, mBin, mVar, mC, mCons, mNil, mTup, mLst, mLstC, mCB, mCall, mCallK, mIf, mAndV, mOrV, mNotV, mAnd, mOr, mNot, mTru, mUn, mChain, tB', mNx, mNev, mFor, mForL, mWhile, mComp, mCompL, mYes, gN, gT, gsCons, gsNil, gSubD, mApp, mPar, mPar3, mAugI, mSl, mSo, mNo, iR1, iR2, iR3, iS, iEn, iL, iT, asB, asL, asT, asLT, asInt, oB, oAdd, oSub, oMulA, oMul, oDiv, oMod, oPow, oNeg, cI, oEq, oNe, oIx, asSeq, oInt, oAbs, oLen, oMax2, oMin2, oDivmod, oIsi, tyD, okCell, truthD, mFrz, Option.bind_some, Option.map_some, Option.bind_none, Option.map_none, cond_true, cond_false, List.map_cons, List.map_nil, List.cons_append, List.nil_append, List.getElem?_cons_zero, List.getElem?_cons_succ, List.set_cons_zero, List.set_cons_succ, List.length_cons, List.length_nil, List.replicate , atI, ixN, W p t hp ht, W q v hq hv, W p u hp hu, W q w hq hw, W r t hr ht, W s v hs hv, W r u hr hu, W s w hs hw]
theorem inverse_ok {p q r s : Int} {h : Cells} : F_inverse [T4 p q r s] h = some (T4 s (-q) (-r) p, h) := by
  simp [F_inverse, b_inverse, mFun, line, mSeq, mAsg, mRet, mRetN, mDrop, mIfS, mTBin, mBin, mVar, mC, mCons, mNil, mTup, mLst, mLstC, mCB, mCall, mCallK, mIf, mAndV, mOrV, mNotV, mAnd, mOr, mNot, mTru, mUn, mChain, tB', mNx, mNev, mFor, mForL, mWhile, mComp, mCompL, mYes, gN, gT, gsCons, gsNil, gSubD, mApp, mPar, mPar3, mAugI, mSl, mSo, mNo, iR1, iR2, iR3, iS, iEn, iL, iT, asB, asL, asT, asLT, asInt, oB, oAdd, oSub, oMulA, oMul, oDiv, oMod, oPow, oNeg, cI, oEq, oNe, oIx, asSeq, oInt, oAbs, oLen, oMax2, oMin2, oDivmod, oIsi, tyD, okCell, truthD, mFrz, Option.bind_some, Option.map_some, Option.bind_none, Option.map_none, cond_true, cond_false, List.map_cons, List.map_nil, List.cons_append, List.nil_append, List.getElem?_cons_zero, List.getElem?_cons_succ, List.set_cons_zero, List.set_cons_succ, List.length_cons, List.length_nil, List.replicate ]
theorem centring_ok {a b c : Int} {h : Cells} (h0 : 0 < a) (ha : Bd 3000 a) : F_centring [T3 a b c] h = some (T4 1 ((a - b) / (2 * a)) 0 1, h) := by
  have t : Bd 3000 (2 : Int) := .two (by decide)
  have w1 : wideM 2 a = true := wide_B (t.mono (by decide)) (ha.mono (by decide))
  have w2 : wideD (2 * a) = true := wideD_B (by omega) ((t.mul ha).mono (by decide))
  simp [F_centring, b_centring, mFun, line, mSeq, mAsg, mRet, mRetN, mDrop, mIfS, mTBin, mBin, mVar, mC, mCons, mNil, mTup, mLst, mLstC, mCB, mCall, mCallK, mIf, mAndV, mOrV, mNotV, mAnd, mOr, mNot, mTru, mUn, mChain, tB', mNx, mNev, mFor, mForL, mWhile, mComp, mCompL, mYes, gN, gT, gsCons, gsNil, gSubD, mApp, mPar, mPar3, mAugI, mSl, mSo, mNo, iR1, iR2, iR3, iS, iEn, iL, iT, asB, asL, asT, asLT, asInt, oB, oAdd, oSub, oMulA, oMul, oDiv, oMod, oPow, oNeg, cI, oEq, oNe, oIx, asSeq, oInt, oAbs, oLen, oMax2, oMin2, oDivmod, oIsi, tyD, okCell, truthD, mFrz, Option.bind_some, Option.map_some, Option.bind_none, Option.map_none, cond_true, cond_false, List.map_cons, List.map_nil, List.cons_append, List.nil_append, List.getElem?_cons_zero, List.getElem?_cons_succ, List.set_cons_zero, List.set_cons_succ, List.length_cons, List.length_nil, List.replicate , w1, w2]
/-- reduced, as the document says -/
def red (a b c : Int) : Prop := -a ≤ b ∧ b ≤ a ∧ a ≤ c ∧ (0 ≤ b ∨ (-b ≠ a ∧ a ≠ c))
instance (a b c : Int) : Decidable (red a b c) := inferInstanceAs (Decidable (_ ∧ _))
theorem red_b (a b c : Int) : decide (red a b c) = (decide (-a ≤ b) && (decide (b ≤ a) && (decide (a ≤ c) && (decide (0 ≤ b) || (!decide (-b = a) && !decide (a = c)))))) := by
  show decide (-a ≤ b ∧ b ≤ a ∧ a ≤ c ∧ (0 ≤ b ∨ (¬ -b = a ∧ ¬ a = c))) = _
  simp only [Bool.decide_and, Bool.decide_or, decide_not]
theorem is_reduced_ok {a b c : Int} {h : Cells} : F_is_reduced [T3 a b c] h = some (.bl (decide (red a b c)), h) := by
  rw [red_b]
  by_cases h1 : -a ≤ b <;> by_cases h2 : b ≤ a <;> by_cases h3 : a ≤ c <;> by_cases h4 : 0 ≤ b <;> simp [F_is_reduced, b_is_reduced, mFun, line, mSeq, mAsg, mRet, mRetN, mDrop, mIfS, mTBin, mBin, mVar, mC, mCons, mNil, mTup, mLst, mLstC, mCB, mCall, mCallK, mIf, mAndV, mOrV, mNotV, mAnd, mOr, mNot, mTru, mUn, mChain, tB', mNx, mNev, mFor, mForL, mWhile, mComp, mCompL, mYes, gN, gT, gsCons, gsNil, gSubD, mApp, mPar, mPar3, mAugI, mSl, mSo, mNo, iR1, iR2, iR3, iS, iEn, iL, iT, asB, asL, asT, asLT, asInt, oB, oAdd, oSub, oMulA, oMul, oDiv, oMod, oPow, oNeg, cI, oEq, oNe, oIx, asSeq, oInt, oAbs, oLen, oMax2, oMin2, oDivmod, oIsi, tyD, okCell, truthD, mFrz, Option.bind_some, Option.map_some, Option.bind_none, Option.map_none, cond_true, cond_false, List.map_cons, List.map_nil, List.cons_append, List.nil_append, List.getElem?_cons_zero, List.getElem?_cons_succ, List.set_cons_zero, List.set_cons_succ, List.length_cons, List.length_nil, List.replicate , mChain3, tB', asB, Int.zero_sub, h1, h2, h3, h4]
  all_goals
    by_cases h5 : -b = a
    · by_cases h6 : a = c
      · simp only [h5, h6, decide_true, decide_false, Bool.not_true, Bool.not_false, Option.bind_some, Option.map_some, cond_true, cond_false]; try rfl
      · simp [h5, h6]
    · by_cases h6 : a = c <;> simp [h5, h6]
theorem lis_reduced_ok {a b c : Int} {h : Cells} : F__law_is_reduced [T3 a b c] h = some (.bl (decide (red a b c)), h) := by
  rw [red_b]
  by_cases h1 : -a ≤ b <;> by_cases h2 : b ≤ a <;> by_cases h3 : a ≤ c <;> by_cases h4 : 0 ≤ b <;> simp [F__law_is_reduced, b__law_is_reduced, mFun, line, mSeq, mAsg, mRet, mRetN, mDrop, mIfS, mTBin, mBin, mVar, mC, mCons, mNil, mTup, mLst, mLstC, mCB, mCall, mCallK, mIf, mAndV, mOrV, mNotV, mAnd, mOr, mNot, mTru, mUn, mChain, tB', mNx, mNev, mFor, mForL, mWhile, mComp, mCompL, mYes, gN, gT, gsCons, gsNil, gSubD, mApp, mPar, mPar3, mAugI, mSl, mSo, mNo, iR1, iR2, iR3, iS, iEn, iL, iT, asB, asL, asT, asLT, asInt, oB, oAdd, oSub, oMulA, oMul, oDiv, oMod, oPow, oNeg, cI, oEq, oNe, oIx, asSeq, oInt, oAbs, oLen, oMax2, oMin2, oDivmod, oIsi, tyD, okCell, truthD, mFrz, Option.bind_some, Option.map_some, Option.bind_none, Option.map_none, cond_true, cond_false, List.map_cons, List.map_nil, List.cons_append, List.nil_append, List.getElem?_cons_zero, List.getElem?_cons_succ, List.set_cons_zero, List.set_cons_succ, List.length_cons, List.length_nil, List.replicate , mChain3, tB', asB, Int.zero_sub, h1, h2, h3, h4]
  all_goals
    by_cases h5 : -b = a
    · by_cases h6 : a = c
      · simp only [h5, h6, decide_true, decide_false, Bool.not_true, Bool.not_false, Option.bind_some, Option.map_some, cond_true, cond_false]; try rfl
      · simp [h5, h6]
    · by_cases h6 : a = c <;> simp [h5, h6]
end Law

set_option Elab.async false
set_option linter.all false
set_option maxRecDepth 100000
set_option maxHeartbeats 4000000
namespace Law
open PySem L2 Zm
/-! the greatest common divisor; what a form is -/
abbrev gcC : MT := (mTBin cGt (mVar 1) (mC (.int 0)))
abbrev gcB : MB := (mPar 0 1 (mCons (mVar 1) (mCons (mBin oMod (mCB oInt (mCons (mVar 0) mNil)) (mVar 1)) mNil)))
theorem b_gc_eq : b__law_gcd = (mSeq (mPar 0 1 (mCons (mCB oAbs (mCons (mVar 0) mNil)) (mCons (mCB oAbs (mCons (mVar 1) mNil)) mNil)))
    (mSeq (mWhile (fun ms => slI ms 1 + 1) gcC gcB)
    (mRet (mVar 0)))) := rfl
theorem gc_test {h : Cells} {x y : Int} : gcC ⟨[some (.int x), some (.int y)], h⟩ = some (decide (0 < y), h) := by
  simp [gcC, mFun, line, mSeq, mAsg, mRet, mRetN, mDrop, mIfS, mTBin, mBin, mVar, mC, mCons, mNil, mTup, mLst, mLstC, mCB, mCall, mCallK, mIf, mAndV, mOrV, mNotV, mAnd, mOr, mNot, mTru, mUn, mChain, tB', mNx, mNev, mFor, mForL, mWhile, mComp, mCompL, mYes, gN, gT, gsCons, gsNil, gSubD, mApp, mPar, mPar3, mAugI, mSl, mSo, mNo, iR1, iR2, iR3, iS, iEn, iL, iT, asB, asL, asT, asLT, asInt, oB, oAdd, oSub, oMulA, oMul, oDiv, oMod, oPow, oNeg, cI, oEq, oNe, oIx, asSeq, oInt, oAbs, oLen, oMax2, oMin2, oDivmod, oIsi, tyD, okCell, truthD, mFrz, Option.bind_some, Option.map_some, Option.bind_none, Option.map_none, cond_true, cond_false, List.map_cons, List.map_nil, List.cons_append, List.nil_append, List.getElem?_cons_zero, List.getElem?_cons_succ, List.set_cons_zero, List.set_cons_succ, List.length_cons, List.length_nil, List.replicate ]
theorem gc_step {h : Cells} {x y : Int} (hy : 0 < y) : gcB ⟨[some (.int x), some (.int y)], h⟩ = some (.nx, ⟨[some (.int y), some (.int (x % y))], h⟩) := by
  simp [gcB, mFun, line, mSeq, mAsg, mRet, mRetN, mDrop, mIfS, mTBin, mBin, mVar, mC, mCons, mNil, mTup, mLst, mLstC, mCB, mCall, mCallK, mIf, mAndV, mOrV, mNotV, mAnd, mOr, mNot, mTru, mUn, mChain, tB', mNx, mNev, mFor, mForL, mWhile, mComp, mCompL, mYes, gN, gT, gsCons, gsNil, gSubD, mApp, mPar, mPar3, mAugI, mSl, mSo, mNo, iR1, iR2, iR3, iS, iEn, iL, iT, asB, asL, asT, asLT, asInt, oB, oAdd, oSub, oMulA, oMul, oDiv, oMod, oPow, oNeg, cI, oEq, oNe, oIx, asSeq, oInt, oAbs, oLen, oMax2, oMin2, oDivmod, oIsi, tyD, okCell, truthD, mFrz, Option.bind_some, Option.map_some, Option.bind_none, Option.map_none, cond_true, cond_false, List.map_cons, List.map_nil, List.cons_append, List.nil_append, List.getElem?_cons_zero, List.getElem?_cons_succ, List.set_cons_zero, List.set_cons_succ, List.length_cons, List.length_nil, List.replicate , hy]
theorem gc_loop {h : Cells} : ∀ (f x y : Nat), y < f → mWhileL gcC gcB f ⟨[some (.int x), some (.int y)], h⟩ = some (.nx, ⟨[some (.int (Nat.gcd x y)), some (.int 0)], h⟩)
  | 0, x, y, hf => by omega
  | f + 1, x, y, hf => by
    rw [mWhileL, gc_test]
    by_cases hy : y = 0
    · subst hy
      rw [Nat.gcd_zero_right]; rfl
    · have d : decide ((0 : Int) < (y : Int)) = true := decide_eq_true (by omega)
      rw [d]
      simp only [Option.bind_some, cond_true]
      rw [gc_step (by omega), ← Int.natCast_emod]
      simp only [Option.bind_some]
      rw [gc_loop f y (x % y) (by have := Nat.mod_lt x (show 0 < y by omega); omega), Nat.gcd_comm y, ← Nat.gcd_rec, Nat.gcd_comm]
theorem gcd_ok {h : Cells} {x y : Int} : F__law_gcd [.int x, .int y] h = some (.int (Nat.gcd x.natAbs y.natAbs : Nat), h) := by
  have l := gc_loop (h := h) (y.natAbs + 1) x.natAbs y.natAbs (by omega)
  have e1 : (if x < 0 then -x else x) = (x.natAbs : Int) := by split <;> omega
  have e2 : (if y < 0 then -y else y) = (y.natAbs : Int) := by split <;> omega
  unfold F__law_gcd
  rw [b_gc_eq]
  generalize gcC = C at l ⊢
  generalize gcB = B at l ⊢
  generalize y.natAbs = Y at l e2 ⊢
  generalize x.natAbs = X at l e1 ⊢
  generalize Nat.gcd X Y = G at l ⊢
  simp [mFun, line, mSeq, mAsg, mRet, mRetN, mDrop, mIfS, mTBin, mBin, mVar, mC, mCons, mNil, mTup, mLst, mLstC, mCB, mCall, mCallK, mIf, mAndV, mOrV, mNotV, mAnd, mOr, mNot, mTru, mUn, mChain, tB', mNx, mNev, mFor, mForL, mWhile, mComp, mCompL, mYes, gN, gT, gsCons, gsNil, gSubD, mApp, mPar, mPar3, mAugI, mSl, mSo, mNo, iR1, iR2, iR3, iS, iEn, iL, iT, asB, asL, asT, asLT, asInt, oB, oAdd, oSub, oMulA, oMul, oDiv, oMod, oPow, oNeg, cI, oEq, oNe, oIx, asSeq, oInt, oAbs, oLen, oMax2, oMin2, oDivmod, oIsi, tyD, okCell, truthD, mFrz, Option.bind_some, Option.map_some, Option.bind_none, Option.map_none, cond_true, cond_false, List.map_cons, List.map_nil, List.cons_append, List.nil_append, List.getElem?_cons_zero, List.getElem?_cons_succ, List.set_cons_zero, List.set_cons_succ, List.length_cons, List.length_nil, List.replicate , e1, e2, l, slI]
def g3 (a b c : Int) : Nat := (a.natAbs.gcd b.natAbs).gcd c.natAbs
def isF (a b c : Int) : Prop := 0 < a ∧ g3 a b c = 1 ∧ okD (b * b - 4 * a * c)
instance (a b c : Int) : Decidable (isF a b c) := inferInstanceAs (Decidable (_ ∧ _))
theorem whole3 {a b c : Int} {h : Cells} : F_are_whole [T3 a b c, .int 3] h = some (.bl true, h) := by
  have e : ∀ n : Int, F_is_whole [.int n] h = some (.bl true, h) := fun n => whole_ok h rfl
  simp [F_are_whole, b_are_whole, mFun, line, mSeq, mAsg, mRet, mRetN, mDrop, mIfS, mTBin, mBin, mVar, mC, mCons, mNil, mTup, mLst, mLstC, mCB, mCall, mCallK, mIf, mAndV, mOrV, mNotV, mAnd, mOr, mNot, mTru, mUn, mChain, tB', mNx, mNev, mFor, mForL, mWhile, mComp, mCompL, mYes, gN, gT, gsCons, gsNil, gSubD, mApp, mPar, mPar3, mAugI, mSl, mSo, mNo, iR1, iR2, iR3, iS, iEn, iL, iT, asB, asL, asT, asLT, asInt, oB, oAdd, oSub, oMulA, oMul, oDiv, oMod, oPow, oNeg, cI, oEq, oNe, oIx, asSeq, oInt, oAbs, oLen, oMax2, oMin2, oDivmod, oIsi, tyD, okCell, truthD, mFrz, Option.bind_some, Option.map_some, Option.bind_none, Option.map_none, cond_true, cond_false, List.map_cons, List.map_nil, List.cons_append, List.nil_append, List.getElem?_cons_zero, List.getElem?_cons_succ, List.set_cons_zero, List.set_cons_succ, List.length_cons, List.length_nil, List.replicate , e, isiB, wipeD, oAll, asBs, asB]
theorem is_form_ok {a b c : Int} {h : Cells} (ha : Bd 3000 a) (hb : Bd 3000 b) (hc : Bd 3000 c) : F_is_form [T3 a b c] h = some (.bl (decide (isF a b c)), h) := by
  have w := whole3 (a := a) (b := b) (c := c) (h := h)
  have w1 : wideM b b = true := wide_B (hb.mono (by decide)) (hb.mono (by decide))
  have f : Bd 3000 (4 : Int) := .four (by decide)
  have w2 : wideM 4 a = true := wide_B (f.mono (by decide)) (ha.mono (by decide))
  have w3 : wideM (4 * a) c = true := wide_B ((f.mul ha).mono (by decide)) (hc.mono (by decide))
  have e := disc_is (d := .int (b * b - 4 * a * c)) h rfl
  have ed : dOk (.int (b * b - 4 * a * c)) = decide (okD (b * b - 4 * a * c)) := rfl
  rw [ed] at e
  have r : decide (isF a b c) = (decide (0 < a) && (decide (((a.natAbs.gcd b.natAbs).gcd c.natAbs : Nat) = (1 : Nat)) && decide (okD (b * b - 4 * a * c)))) := by
    show decide (0 < a ∧ (a.natAbs.gcd b.natAbs).gcd c.natAbs = 1 ∧ okD (b * b - 4 * a * c)) = _
    simp only [Bool.decide_and]
  rw [r]
  have eg : oGcd3 h [.int a, .int b, .int c] = some (.int ((a.natAbs.gcd b.natAbs).gcd c.natAbs : Nat)) := rfl
  generalize decide (okD (b * b - 4 * a * c)) = k at e ⊢
  by_cases h1 : 0 < a
  · by_cases h2 : (a.natAbs.gcd b.natAbs).gcd c.natAbs = 1
    · cases k <;> simp [F_is_form, b_is_form, mFun, line, mSeq, mAsg, mRet, mRetN, mDrop, mIfS, mTBin, mBin, mVar, mC, mCons, mNil, mTup, mLst, mLstC, mCB, mCall, mCallK, mIf, mAndV, mOrV, mNotV, mAnd, mOr, mNot, mTru, mUn, mChain, tB', mNx, mNev, mFor, mForL, mWhile, mComp, mCompL, mYes, gN, gT, gsCons, gsNil, gSubD, mApp, mPar, mPar3, mAugI, mSl, mSo, mNo, iR1, iR2, iR3, iS, iEn, iL, iT, asB, asL, asT, asLT, asInt, oB, oAdd, oSub, oMulA, oMul, oDiv, oMod, oPow, oNeg, cI, oEq, oNe, oIx, asSeq, oInt, oAbs, oLen, oMax2, oMin2, oDivmod, oIsi, tyD, okCell, truthD, mFrz, Option.bind_some, Option.map_some, Option.bind_none, Option.map_none, cond_true, cond_false, List.map_cons, List.map_nil, List.cons_append, List.nil_append, List.getElem?_cons_zero, List.getElem?_cons_succ, List.set_cons_zero, List.set_cons_succ, List.length_cons, List.length_nil, List.replicate , w, w1, w2, w3, e, eg, h1, h2]
    · have h3 : ¬ (((a.natAbs.gcd b.natAbs).gcd c.natAbs : Nat) : Int) = 1 := by omega
      simp [F_is_form, b_is_form, mFun, line, mSeq, mAsg, mRet, mRetN, mDrop, mIfS, mTBin, mBin, mVar, mC, mCons, mNil, mTup, mLst, mLstC, mCB, mCall, mCallK, mIf, mAndV, mOrV, mNotV, mAnd, mOr, mNot, mTru, mUn, mChain, tB', mNx, mNev, mFor, mForL, mWhile, mComp, mCompL, mYes, gN, gT, gsCons, gsNil, gSubD, mApp, mPar, mPar3, mAugI, mSl, mSo, mNo, iR1, iR2, iR3, iS, iEn, iL, iT, asB, asL, asT, asLT, asInt, oB, oAdd, oSub, oMulA, oMul, oDiv, oMod, oPow, oNeg, cI, oEq, oNe, oIx, asSeq, oInt, oAbs, oLen, oMax2, oMin2, oDivmod, oIsi, tyD, okCell, truthD, mFrz, Option.bind_some, Option.map_some, Option.bind_none, Option.map_none, cond_true, cond_false, List.map_cons, List.map_nil, List.cons_append, List.nil_append, List.getElem?_cons_zero, List.getElem?_cons_succ, List.set_cons_zero, List.set_cons_succ, List.length_cons, List.length_nil, List.replicate , w, eg, h1, h2, h3]
  · simp [F_is_form, b_is_form, mFun, line, mSeq, mAsg, mRet, mRetN, mDrop, mIfS, mTBin, mBin, mVar, mC, mCons, mNil, mTup, mLst, mLstC, mCB, mCall, mCallK, mIf, mAndV, mOrV, mNotV, mAnd, mOr, mNot, mTru, mUn, mChain, tB', mNx, mNev, mFor, mForL, mWhile, mComp, mCompL, mYes, gN, gT, gsCons, gsNil, gSubD, mApp, mPar, mPar3, mAugI, mSl, mSo, mNo, iR1, iR2, iR3, iS, iEn, iL, iT, asB, asL, asT, asLT, asInt, oB, oAdd, oSub, oMulA, oMul, oDiv, oMod, oPow, oNeg, cI, oEq, oNe, oIx, asSeq, oInt, oAbs, oLen, oMax2, oMin2, oDivmod, oIsi, tyD, okCell, truthD, mFrz, Option.bind_some, Option.map_some, Option.bind_none, Option.map_none, cond_true, cond_false, List.map_cons, List.map_nil, List.cons_append, List.nil_append, List.getElem?_cons_zero, List.getElem?_cons_succ, List.set_cons_zero, List.set_cons_succ, List.length_cons, List.length_nil, List.replicate , w, h1]
theorem check_form_ok {a b c : Int} {h : Cells} (ha : Bd 3000 a) (hb : Bd 3000 b) (hc : Bd 3000 c) (hf : isF a b c) : F_check_form [T3 a b c] h = some (.non, h) := by
  have e := is_form_ok (h := h) ha hb hc
  rw [decide_eq_true hf] at e
  simp [F_check_form, b_check_form, mFun, line, mSeq, mAsg, mRet, mRetN, mDrop, mIfS, mTBin, mBin, mVar, mC, mCons, mNil, mTup, mLst, mLstC, mCB, mCall, mCallK, mIf, mAndV, mOrV, mNotV, mAnd, mOr, mNot, mTru, mUn, mChain, tB', mNx, mNev, mFor, mForL, mWhile, mComp, mCompL, mYes, gN, gT, gsCons, gsNil, gSubD, mApp, mPar, mPar3, mAugI, mSl, mSo, mNo, iR1, iR2, iR3, iS, iEn, iL, iT, asB, asL, asT, asLT, asInt, oB, oAdd, oSub, oMulA, oMul, oDiv, oMod, oPow, oNeg, cI, oEq, oNe, oIx, asSeq, oInt, oAbs, oLen, oMax2, oMin2, oDivmod, oIsi, tyD, okCell, truthD, mFrz, Option.bind_some, Option.map_some, Option.bind_none, Option.map_none, cond_true, cond_false, List.map_cons, List.map_nil, List.cons_append, List.nil_append, List.getElem?_cons_zero, List.getElem?_cons_succ, List.set_cons_zero, List.set_cons_succ, List.length_cons, List.length_nil, List.replicate , e]
theorem ldisc_of_ok {a b c : Int} {h : Cells} (ha : Bd 3000 a) (hb : Bd 3000 b) (hc : Bd 3000 c) : F__law_disc_of [T3 a b c] h = some (.int (b * b - 4 * a * c), h) := by
  have w1 : wideM b b = true := wide_B (hb.mono (by decide)) (hb.mono (by decide))
  have f : Bd 3000 (4 : Int) := .four (by decide)
  have w2 : wideM 4 a = true := wide_B (f.mono (by decide)) (ha.mono (by decide))
  have w3 : wideM (4 * a) c = true := wide_B ((f.mul ha).mono (by decide)) (hc.mono (by decide))
  simp [F__law_disc_of, b__law_disc_of, mFun, line, mSeq, mAsg, mRet, mRetN, mDrop, mIfS, mTBin, mBin, mVar, mC, mCons, mNil, mTup, mLst, mLstC, mCB, mCall, mCallK, mIf, mAndV, mOrV, mNotV, mAnd, mOr, mNot, mTru, mUn, mChain, tB', mNx, mNev, mFor, mForL, mWhile, mComp, mCompL, mYes, gN, gT, gsCons, gsNil, gSubD, mApp, mPar, mPar3, mAugI, mSl, mSo, mNo, iR1, iR2, iR3, iS, iEn, iL, iT, asB, asL, asT, asLT, asInt, oB, oAdd, oSub, oMulA, oMul, oDiv, oMod, oPow, oNeg, cI, oEq, oNe, oIx, asSeq, oInt, oAbs, oLen, oMax2, oMin2, oDivmod, oIsi, tyD, okCell, truthD, mFrz, Option.bind_some, Option.map_some, Option.bind_none, Option.map_none, cond_true, cond_false, List.map_cons, List.map_nil, List.cons_append, List.nil_append, List.getElem?_cons_zero, List.getElem?_cons_succ, List.set_cons_zero, List.set_cons_succ, List.length_cons, List.length_nil, List.replicate , atI, ixN, w1, w2, w3]
theorem lwhole3 {a b c : Int} {h : Cells} {s : List (Option D)} (hs : s.length = 2) (h0 : s[0]? = some (some (T3 a b c))) : mCompL (gN 1) mYes (mCall 1 F__law_is_whole (mCons (mVar 1) mNil)) (wipeD s [1]) [.int a, .int b, .int c] h = some ([.bl true, .bl true, .bl true], h) := by
  have e : ∀ n : Int, F__law_is_whole [.int n] h = some (.bl true, h) := fun n => lwhole_ok h rfl
  match s, hs, h0 with
  | [s0, s1], _, h0 => simp [wipeD, mFun, line, mSeq, mAsg, mRet, mRetN, mDrop, mIfS, mTBin, mBin, mVar, mC, mCons, mNil, mTup, mLst, mLstC, mCB, mCall, mCallK, mIf, mAndV, mOrV, mNotV, mAnd, mOr, mNot, mTru, mUn, mChain, tB', mNx, mNev, mFor, mForL, mWhile, mComp, mCompL, mYes, gN, gT, gsCons, gsNil, gSubD, mApp, mPar, mPar3, mAugI, mSl, mSo, mNo, iR1, iR2, iR3, iS, iEn, iL, iT, asB, asL, asT, asLT, asInt, oB, oAdd, oSub, oMulA, oMul, oDiv, oMod, oPow, oNeg, cI, oEq, oNe, oIx, asSeq, oInt, oAbs, oLen, oMax2, oMin2, oDivmod, oIsi, tyD, okCell, truthD, mFrz, Option.bind_some, Option.map_some, Option.bind_none, Option.map_none, cond_true, cond_false, List.map_cons, List.map_nil, List.cons_append, List.nil_append, List.getElem?_cons_zero, List.getElem?_cons_succ, List.set_cons_zero, List.set_cons_succ, List.length_cons, List.length_nil, List.replicate , e]
theorem lis_form_ok {a b c : Int} {h : Cells} (ha : Bd 3000 a) (hb : Bd 3000 b) (hc : Bd 3000 c) : F__law_is_form [T3 a b c] h = some (.bl (decide (isF a b c)), h) := by
  have w : ∀ n : Int, F__law_is_whole [.int n] h = some (.bl true, h) := fun n => lwhole_ok h rfl
  have g1 := gcd_ok (h := h) (x := b) (y := c)
  have g2 := gcd_ok (h := h) (x := a) (y := ((Nat.gcd b.natAbs c.natAbs : Nat) : Int))
  rw [Int.natAbs_natCast, ← Nat.gcd_assoc] at g2
  have d := ldisc_of_ok (h := h) ha hb hc
  have e := ldisc_is (d := .int (b * b - 4 * a * c)) h rfl
  have ed : dOk (.int (b * b - 4 * a * c)) = decide (okD (b * b - 4 * a * c)) := rfl
  rw [ed] at e
  have r : decide (isF a b c) = (decide (0 < a) && (decide (((a.natAbs.gcd b.natAbs).gcd c.natAbs : Nat) = (1 : Nat)) && decide (okD (b * b - 4 * a * c)))) := by
    show decide (0 < a ∧ (a.natAbs.gcd b.natAbs).gcd c.natAbs = 1 ∧ okD (b * b - 4 * a * c)) = _
    simp only [Bool.decide_and]
  rw [r]
  generalize decide (okD (b * b - 4 * a * c)) = k at e ⊢
  by_cases h2 : (a.natAbs.gcd b.natAbs).gcd c.natAbs = 1
  · by_cases h1 : 0 < a
    · have h1' : ¬ a < 1 := by omega
      cases k <;> simp [F__law_is_form, b__law_is_form, mFun, line, mSeq, mAsg, mRet, mRetN, mDrop, mIfS, mTBin, mBin, mVar, mC, mCons, mNil, mTup, mLst, mLstC, mCB, mCall, mCallK, mIf, mAndV, mOrV, mNotV, mAnd, mOr, mNot, mTru, mUn, mChain, tB', mNx, mNev, mFor, mForL, mWhile, mComp, mCompL, mYes, gN, gT, gsCons, gsNil, gSubD, mApp, mPar, mPar3, mAugI, mSl, mSo, mNo, iR1, iR2, iR3, iS, iEn, iL, iT, asB, asL, asT, asLT, asInt, oB, oAdd, oSub, oMulA, oMul, oDiv, oMod, oPow, oNeg, cI, oEq, oNe, oIx, asSeq, oInt, oAbs, oLen, oMax2, oMin2, oDivmod, oIsi, tyD, okCell, truthD, mFrz, Option.bind_some, Option.map_some, Option.bind_none, Option.map_none, cond_true, cond_false, List.map_cons, List.map_nil, List.cons_append, List.nil_append, List.getElem?_cons_zero, List.getElem?_cons_succ, List.set_cons_zero, List.set_cons_succ, List.length_cons, List.length_nil, List.replicate , atI, ixN, wipeD, oAll, asBs, asB, isiB, w, g1, g2, d, e, h1, h1', h2]
    · have h1' : a < 1 := by omega
      simp [F__law_is_form, b__law_is_form, mFun, line, mSeq, mAsg, mRet, mRetN, mDrop, mIfS, mTBin, mBin, mVar, mC, mCons, mNil, mTup, mLst, mLstC, mCB, mCall, mCallK, mIf, mAndV, mOrV, mNotV, mAnd, mOr, mNot, mTru, mUn, mChain, tB', mNx, mNev, mFor, mForL, mWhile, mComp, mCompL, mYes, gN, gT, gsCons, gsNil, gSubD, mApp, mPar, mPar3, mAugI, mSl, mSo, mNo, iR1, iR2, iR3, iS, iEn, iL, iT, asB, asL, asT, asLT, asInt, oB, oAdd, oSub, oMulA, oMul, oDiv, oMod, oPow, oNeg, cI, oEq, oNe, oIx, asSeq, oInt, oAbs, oLen, oMax2, oMin2, oDivmod, oIsi, tyD, okCell, truthD, mFrz, Option.bind_some, Option.map_some, Option.bind_none, Option.map_none, cond_true, cond_false, List.map_cons, List.map_nil, List.cons_append, List.nil_append, List.getElem?_cons_zero, List.getElem?_cons_succ, List.set_cons_zero, List.set_cons_succ, List.length_cons, List.length_nil, List.replicate , atI, ixN, wipeD, oAll, asBs, asB, isiB, w, g1, g2, d, e, h1, h1', h2]
  · have h3 : ¬ (((a.natAbs.gcd b.natAbs).gcd c.natAbs : Nat) : Int) = 1 := by omega
    simp [F__law_is_form, b__law_is_form, mFun, line, mSeq, mAsg, mRet, mRetN, mDrop, mIfS, mTBin, mBin, mVar, mC, mCons, mNil, mTup, mLst, mLstC, mCB, mCall, mCallK, mIf, mAndV, mOrV, mNotV, mAnd, mOr, mNot, mTru, mUn, mChain, tB', mNx, mNev, mFor, mForL, mWhile, mComp, mCompL, mYes, gN, gT, gsCons, gsNil, gSubD, mApp, mPar, mPar3, mAugI, mSl, mSo, mNo, iR1, iR2, iR3, iS, iEn, iL, iT, asB, asL, asT, asLT, asInt, oB, oAdd, oSub, oMulA, oMul, oDiv, oMod, oPow, oNeg, cI, oEq, oNe, oIx, asSeq, oInt, oAbs, oLen, oMax2, oMin2, oDivmod, oIsi, tyD, okCell, truthD, mFrz, Option.bind_some, Option.map_some, Option.bind_none, Option.map_none, cond_true, cond_false, List.map_cons, List.map_nil, List.cons_append, List.nil_append, List.getElem?_cons_zero, List.getElem?_cons_succ, List.set_cons_zero, List.set_cons_succ, List.length_cons, List.length_nil, List.replicate , atI, ixN, wipeD, oAll, asBs, asB, isiB, w, g1, g2, d, e, h2, h3]
end Law

set_option Elab.async false
set_option linter.all false
set_option maxRecDepth 100000
set_option maxHeartbeats 4000000
namespace Law
open PySem L2 Zm
/-! forms led: identities -/
theorem comp_v (a b c p q r s x y : Int) : vl (vl a b c p r) (md a b c p q r s) (vl a b c q s) x y = vl a b c (p * x + q * y) (r * x + s * y) := by
  unfold vl md; grind
theorem comp_m (a b c p q r s t u v w : Int) : md (vl a b c p r) (md a b c p q r s) (vl a b c q s) t u v w = md a b c (p * t + q * v) (p * u + q * w) (r * t + s * v) (r * u + s * w) := by
  unfold vl md; grind
theorem disc_led (a b c p q r s : Int) (h : p * s - q * r = 1) : md a b c p q r s * md a b c p q r s - 4 * vl a b c p r * vl a b c q s = b * b - 4 * a * c := by
  have e : md a b c p q r s * md a b c p q r s - 4 * vl a b c p r * vl a b c q s = (b * b - 4 * a * c) * ((p * s - q * r) * (p * s - q * r)) := by unfold vl md; grind
  rw [e, h]; omega
theorem posA (a b c x y : Int) : 4 * a * vl a b c x y = (2 * a * x + b * y) * (2 * a * x + b * y) + (4 * a * c - b * b) * (y * y) := by
  unfold vl; grind
theorem posC (a b c x y : Int) : 4 * c * vl a b c x y = (2 * c * y + b * x) * (2 * c * y + b * x) + (4 * a * c - b * b) * (x * x) := by
  unfold vl; grind
theorem det_mul (p q r s t u v w : Int) (h1 : p * s - q * r = 1) (h2 : t * w - u * v = 1) : (p * t + q * v) * (r * u + s * w) - (p * u + q * w) * (r * t + s * v) = 1 := by
  have e : (p * t + q * v) * (r * u + s * w) - (p * u + q * w) * (r * t + s * v) = (p * s - q * r) * (t * w - u * v) := by grind
  rw [e, h1, h2]; rfl
/-- led from the base by a change -/
structure Inv (A B C a b c p q r s : Int) : Prop where
  ea : vl A B C p r = a
  eb : md A B C p q r s = b
  ec : vl A B C q s = c
  dt : p * s - q * r = 1
theorem Inv.one (A B C : Int) : Inv A B C A B C 1 0 0 1 := ⟨by unfold vl; omega, by unfold md; omega, by unfold vl; omega, by decide⟩
theorem Inv.mul {A B C a b c p q r s t u v w : Int} (i : Inv A B C a b c p q r s) (h : t * w - u * v = 1) :
    Inv A B C (vl a b c t v) (md a b c t u v w) (vl a b c u w) (p * t + q * v) (p * u + q * w) (r * t + s * v) (r * u + s * w) := by
  obtain ⟨rfl, rfl, rfl, d⟩ := i
  exact ⟨(comp_v ..).symm, (comp_m ..).symm, (comp_v ..).symm, det_mul _ _ _ _ _ _ _ _ d h⟩
theorem Inv.disc {A B C a b c p q r s : Int} (i : Inv A B C a b c p q r s) : b * b - 4 * a * c = B * B - 4 * A * C := by
  obtain ⟨rfl, rfl, rfl, d⟩ := i
  exact disc_led _ _ _ _ _ _ _ d
theorem sq_le {x y : Int} (h : x * x ≤ y) : x.natAbs ≤ y.natAbs := by
  have e : ((x.natAbs * x.natAbs : Nat) : Int) = x * x := by rw [Int.natCast_mul]; exact Int.natAbs_mul_self' x
  have h0 : x.natAbs ≤ x.natAbs * x.natAbs := by
    by_cases z : x.natAbs = 0
    · omega
    · exact Nat.le_mul_of_pos_right _ (by omega)
  omega
theorem sq_nn (x : Int) : 0 ≤ x * x := by
  have e : ((x.natAbs * x.natAbs : Nat) : Int) = x * x := by rw [Int.natCast_mul]; exact Int.natAbs_mul_self' x
  omega
theorem Inv.bounds {A B C a b c p q r s : Int} (i : Inv A B C a b c p q r s) (hd : 1 ≤ 4 * A * C - B * B) :
    r.natAbs ≤ (4 * A * a).natAbs ∧ p.natAbs ≤ (4 * C * a).natAbs ∧ s.natAbs ≤ (4 * A * c).natAbs ∧ q.natAbs ≤ (4 * C * c).natAbs := by
  have one : ∀ k z : Int, 1 ≤ k → z * z ≤ k * (z * z) := fun k z hk => by
    have := Int.mul_le_mul_of_nonneg_right hk (sq_nn z)
    omega
  obtain ⟨rfl, rfl, rfl, d⟩ := i
  refine ⟨sq_le ?_, sq_le ?_, sq_le ?_, sq_le ?_⟩
  · rw [posA]; have := one _ r hd; have := sq_nn (2 * A * p + B * r); omega
  · rw [posC]; have := one _ p hd; have := sq_nn (2 * C * r + B * p); omega
  · rw [posA]; have := one _ s hd; have := sq_nn (2 * A * q + B * s); omega
  · rw [posC]; have := one _ q hd; have := sq_nn (2 * C * s + B * q); omega
theorem Bd.of_le {k : Nat} {x y : Int} (h : Bd k y) (l : x.natAbs ≤ y.natAbs) : Bd k x := Nat.lt_of_le_of_lt l h
/-! the way down -/
def cs (a b : Int) : Int := (a - b) / (2 * a)
theorem cs_in {a b : Int} (h : 0 < a) : -a < 2 * a * cs a b + b ∧ 2 * a * cs a b + b ≤ a := by
  have e := Int.mul_ediv_add_emod (a - b) (2 * a)
  have e1 := Int.emod_nonneg (a - b) (show 2 * a ≠ 0 by omega)
  have e2 := Int.emod_lt_of_pos (a - b) (show 0 < 2 * a by omega)
  unfold cs
  omega
def go : Nat → Int → Int → Int → Int × Int × Int
  | 0, a, b, c => (a, b, c)
  | f + 1, a, b, c => if red a b c then (a, b, c) else go f c (md a b c 0 (-1) 1 (cs c (-b))) (vl a b c (-1) (cs c (-b)))
theorem led_s (a b c s : Int) : vl a b c 1 0 = a ∧ md a b c 1 s 0 1 = 2 * a * s + b ∧ vl a b c s 1 = a * s * s + b * s + c := by
  unfold vl md
  refine ⟨by grind, by grind, by grind⟩
theorem led_t (a b c s : Int) : vl a b c 0 1 = c ∧ md a b c 0 (-1) 1 s = 2 * c * s + -b ∧ vl a b c (-1) s = a - b * s + c * s * s := by
  unfold vl md
  refine ⟨by grind, by grind, by grind⟩
theorem led_u (a b c : Int) : vl a b c 0 1 = c ∧ md a b c 0 (-1) 1 0 = -b ∧ vl a b c (-1) 0 = a := by
  unfold vl md
  refine ⟨by grind, by grind, by grind⟩
/-- centred, of a discriminant below nought -/
structure Ctr (dd a b c : Int) : Prop where
  a0 : 0 < a
  lo : -a < b
  hi : b ≤ a
  di : b * b - 4 * a * c = dd
theorem c_pos {dd a b c : Int} (hd : dd < 0) (h : 0 < a) (e : b * b - 4 * a * c = dd) : 0 < c := by
  by_cases z : 0 < c
  · exact z
  · have h1 := Int.mul_le_mul_of_nonneg_left (show c ≤ 0 by omega) (show 0 ≤ 4 * a by omega)
    have h2 := sq_nn b
    omega
theorem Ctr.next {dd a b c : Int} (hd : dd < 0) (h : Ctr dd a b c) : Ctr dd c (md a b c 0 (-1) 1 (cs c (-b))) (vl a b c (-1) (cs c (-b))) := by
  have c0 := c_pos hd h.a0 h.di
  have i := cs_in (a := c) (b := -b) c0
  obtain ⟨t1, t2, t3⟩ := led_t a b c (cs c (-b))
  have d := disc_led a b c 0 (-1) 1 (cs c (-b)) (by omega)
  rw [t1] at d
  refine ⟨c0, by rw [t2]; exact i.1, by rw [t2]; exact i.2, by rw [d]; exact h.di⟩
theorem Ctr.start {dd a b c : Int} (h0 : 0 < a) (e : b * b - 4 * a * c = dd) : Ctr dd a (md a b c 1 (cs a b) 0 1) (vl a b c (cs a b) 1) := by
  obtain ⟨t1, t2, t3⟩ := led_s a b c (cs a b)
  have i := cs_in (a := a) (b := b) h0
  have d := disc_led a b c 1 (cs a b) 0 1 (by omega)
  rw [t1] at d
  exact ⟨h0, by rw [t2]; exact i.1, by rw [t2]; exact i.2, by rw [d]; exact e⟩
theorem not_red {dd a b c : Int} (h : Ctr dd a b c) (n : ¬ red a b c) : c < a ∨ (c = a ∧ b < 0) := by
  unfold red at n
  have := h.lo; have := h.hi
  omega
/-- the second step of an odd end -/
theorem turn_red {dd a b : Int} (h : Ctr dd a b a) (hb : b < 0) : red a (md a b a 0 (-1) 1 (cs a (-b))) (vl a b a (-1) (cs a (-b))) := by
  have z : cs a (-b) = 0 := by
    unfold cs
    exact Int.ediv_eq_zero_of_lt (by have := h.lo; omega) (by have := h.a0; omega)
  rw [z]
  obtain ⟨t1, t2, t3⟩ := led_u a b a
  rw [t2, t3]
  have := h.lo; have := h.hi
  unfold red
  omega
theorem go_red {dd : Int} (hd : dd < 0) : ∀ (f : Nat) (a b c : Int), Ctr dd a b c → a + 2 ≤ f → ∃ x y z, go f a b c = (x, y, z) ∧ red x y z ∧ Ctr dd x y z ∧ x ≤ a
  | 0, a, b, c, h, hf => by have := h.a0; omega
  | 1, a, b, c, h, hf => by have := h.a0; omega
  | f + 2, a, b, c, h, hf => by
    unfold go
    by_cases n : red a b c
    · rw [if_pos n]; exact ⟨a, b, c, rfl, n, h, by omega⟩
    · rw [if_neg n]
      rcases not_red h n with z | ⟨rfl, z⟩
      · obtain ⟨x, y, w, e, r, i, l⟩ := go_red hd (f + 1) _ _ _ (h.next hd) (by omega)
        exact ⟨x, y, w, e, r, i, by omega⟩
      · have t := turn_red h z
        unfold go
        rw [if_pos t]
        exact ⟨_, _, _, rfl, t, h.next hd, by omega⟩
theorem Ctr.small {dd a b c : Int} (h : Ctr dd a b c) (hd : -400 ≤ dd) (hn : dd < 0) : b.natAbs ≤ a.natAbs ∧ c.natAbs ≤ (a * a + 400).natAbs := by
  have h1 := h.lo; have h2 := h.hi; have h0 := h.a0
  have hb : b.natAbs ≤ a.natAbs := by omega
  refine ⟨hb, ?_⟩
  have s1 : b * b ≤ a * a := by
    have e : ((b.natAbs * b.natAbs : Nat) : Int) = b * b := by rw [Int.natCast_mul]; exact Int.natAbs_mul_self' b
    have e2 : ((a.natAbs * a.natAbs : Nat) : Int) = a * a := by rw [Int.natCast_mul]; exact Int.natAbs_mul_self' a
    have := Nat.mul_le_mul hb hb
    omega
  have s2 : 4 * a * c ≤ a * a + 400 := by have := h.di; omega
  have s3 := sq_nn a
  have c0 := c_pos hn h0 h.di
  have s4 : c ≤ 4 * a * c := by
    have := Int.mul_le_mul_of_nonneg_right (show 1 ≤ 4 * a by omega) (show 0 ≤ c by omega)
    omega
  omega
end Law

set_option Elab.async false
set_option linter.all false
set_option maxRecDepth 100000
set_option maxHeartbeats 4000000
namespace Law
open PySem L2 Zm
/-! the program's reduction -/
structure Base (A B C : Int) : Prop where
  a0 : 0 < A
  lo : -400 ≤ B * B - 4 * A * C
  hi : B * B - 4 * A * C ≤ -3
  ba : Bd 800 A
  bb : Bd 800 B
  bc : Bd 800 C
structure Bds (a b c p q r s : Int) : Prop where
  a : Bd 2900 a
  b : Bd 2900 b
  c : Bd 2900 c
  p : Bd 2900 p
  q : Bd 2900 q
  r : Bd 2900 r
  s : Bd 2900 s
theorem bds {A B C a b c p q r s : Int} (h : Base A B C) (i : Inv A B C a b c p q r s) (k : Ctr (B * B - 4 * A * C) a b c) (l : a ≤ A) : Bds a b c p q r s := by
  have hlo := h.lo
  have hhi := h.hi
  obtain ⟨k1, k2⟩ := k.small hlo (by omega)
  have a0 := k.a0
  have ba : Bd 800 a := h.ba.of_le (by omega)
  have bb : Bd 800 b := ba.of_le k1
  have b4 : Bd 1600 (400 : Int) := Nat.lt_of_lt_of_le (show 400 < 2 ^ 9 by decide) (Nat.pow_le_pow_right (by decide) (by decide))
  have bc : Bd 1601 c := ((ba.mul ba).add b4).of_le k2
  have f : Bd 3 (4 : Int) := Bd.four (by decide)
  obtain ⟨r1, p1, s1, q1⟩ := i.bounds (by omega)
  exact ⟨ba.mono (by decide), bb.mono (by decide), bc.mono (by decide), (((f.mul h.bc).mul ba).of_le p1).mono (by decide), (((f.mul h.bc).mul bc).of_le q1).mono (by decide), (((f.mul h.ba).mul ba).of_le r1).mono (by decide), (((f.mul h.ba).mul bc).of_le s1).mono (by decide)⟩
theorem div_bd {k : Nat} {x y : Int} (h : Bd k x) : Bd k (x / y) := by
  refine h.of_le ?_
  have := Int.natAbs_ediv_le_natAbs x y
  exact this
theorem cs_bd {a b : Int} (ha : Bd 2900 a) (hb : Bd 2900 b) : Bd 3000 (cs a b) := (div_bd (ha.sub hb)).mono (by decide)
abbrev rdC : MT := (mNot (mTru (mCall 1 F_is_reduced (mCons (mVar 2) mNil))))
abbrev rdB : MB := (mSeq (mAsg (mCall 2 F_joined (mCons (mVar 3) (mCons (mCall 1 F_centring (mCons (mCall 2 F_led_by (mCons (mVar 2) (mCons (mVar 3) mNil))) mNil)) mNil))) (gN 4))
    (mSeq (mAsg (mCall 2 F_led_by (mCons (mVar 2) (mCons (mVar 4) mNil))) (gN 2))
    (mAsg (mCall 2 F_joined (mCons (mVar 1) (mCons (mVar 4) mNil))) (gN 1))))
theorem b_rd_eq : b_reduction = (mSeq (mAsg (mCall 1 F_centring (mCons (mVar 0) mNil)) (gN 1))
    (mSeq (mAsg (mCall 2 F_led_by (mCons (mVar 0) (mCons (mVar 1) mNil))) (gN 2))
    (mSeq (mAsg (mTup (mCons (mC (.int 0)) (mCons (mUn oNeg (mC (.int 1))) (mCons (mC (.int 1)) (mCons (mC (.int 0)) mNil))))) (gN 3))
    (mSeq (mWhile (fun ms => slT ms 2 0 + 2) rdC rdB)
    (mRet (mTup (mCons (mVar 2) (mCons (mVar 1) mNil)))))))) := rfl
theorem rd_test {h : Cells} {f0 f1 f3 f4 : Option D} {a b c : Int} : rdC ⟨[f0, f1, some (T3 a b c), f3, f4], h⟩ = some (!decide (red a b c), h) := by
  have e := is_reduced_ok (a := a) (b := b) (c := c) (h := h)
  generalize decide (red a b c) = k at e ⊢
  cases k <;> simp [rdC, mFun, line, mSeq, mAsg, mRet, mRetN, mDrop, mIfS, mTBin, mBin, mVar, mC, mCons, mNil, mTup, mLst, mLstC, mCB, mCall, mCallK, mIf, mAndV, mOrV, mNotV, mAnd, mOr, mNot, mTru, mUn, mChain, tB', mNx, mNev, mFor, mForL, mWhile, mComp, mCompL, mYes, gN, gT, gsCons, gsNil, gSubD, mApp, mPar, mPar3, mAugI, mSl, mSo, mNo, iR1, iR2, iR3, iS, iEn, iL, iT, asB, asL, asT, asLT, asInt, oB, oAdd, oSub, oMulA, oMul, oDiv, oMod, oPow, oNeg, cI, oEq, oNe, oIx, asSeq, oInt, oAbs, oLen, oMax2, oMin2, oDivmod, oIsi, tyD, okCell, truthD, mFrz, Option.bind_some, Option.map_some, Option.bind_none, Option.map_none, cond_true, cond_false, List.map_cons, List.map_nil, List.cons_append, List.nil_append, List.getElem?_cons_zero, List.getElem?_cons_succ, List.set_cons_zero, List.set_cons_succ, List.length_cons, List.length_nil, List.replicate , e]
theorem rd_step {h : Cells} {f0 f4 : Option D} {a b c p q r s : Int} (k : Bds a b c p q r s) (c0 : 0 < c) :
    rdB ⟨[f0, some (T4 p q r s), some (T3 a b c), some (T4 0 (-1) 1 0), f4], h⟩ = some (.nx, ⟨[f0, some (T4 (p * 0 + q * 1) (p * (-1) + q * cs c (-b)) (r * 0 + s * 1) (r * (-1) + s * cs c (-b))), some (T3 c (md a b c 0 (-1) 1 (cs c (-b))) (vl a b c (-1) (cs c (-b)))), some (T4 0 (-1) 1 0), some (T4 0 (-1) 1 (cs c (-b)))], h⟩) := by
  have z : ∀ n, Bd n (0 : Int) := fun n => Nat.pow_pos (by decide)
  have o : Bd 3000 (1 : Int) := Nat.lt_of_lt_of_le (show 1 < 2 ^ 1 by decide) (Nat.pow_le_pow_right (by decide) (by decide))
  have m : Bd 3000 (-1 : Int) := o.neg
  have t : Bd 3000 (cs c (-b)) := cs_bd k.c k.b.neg
  have M : ∀ {x : Int}, Bd 2900 x → Bd 3000 x := fun h => h.mono (by decide)
  have M9 : ∀ {x : Int}, Bd 3000 x → Bd 9000 x := fun h => h.mono (by decide)
  have e1 := led_ok (h := h) (M k.a) (M k.b) (M k.c) (z _) m o (z _)
  obtain ⟨u1, u2, u3⟩ := led_u a b c
  rw [u1, u2, u3] at e1
  have e2 := centring_ok (b := -b) (c := a) (h := h) c0 (M k.c)
  have e2' : F_centring [T3 c (-b) a] h = some (T4 1 (cs c (-b)) 0 1, h) := e2
  have e3 := joined_ok (h := h) (M9 (z _)) (M9 m) (M9 o) (M9 (z _)) (M9 o) (M9 t) (M9 (z _)) (M9 o)
  have x1 : (0 : Int) * 1 + -1 * 0 = 0 := by decide
  have x2 : (0 : Int) * cs c (-b) + -1 * 1 = -1 := by omega
  have x3 : (1 : Int) * 1 + 0 * 0 = 1 := by decide
  have x4 : (1 : Int) * cs c (-b) + 0 * 1 = cs c (-b) := by omega
  rw [x1, x2, x3, x4] at e3
  have e4 := led_ok (h := h) (M k.a) (M k.b) (M k.c) (z _) m o t
  rw [u1] at e4
  have e5 := joined_ok (h := h) (M9 (M k.p)) (M9 (M k.q)) (M9 (M k.r)) (M9 (M k.s)) (M9 (z _)) (M9 m) (M9 o) (M9 t)
  generalize p * 0 + q * 1 = P1 at e5 ⊢
  generalize p * -1 + q * cs c (-b) = P2 at e5 ⊢
  generalize r * 0 + s * 1 = P3 at e5 ⊢
  generalize r * -1 + s * cs c (-b) = P4 at e5 ⊢
  generalize md a b c 0 (-1) 1 (cs c (-b)) = Q1 at e4 ⊢
  generalize vl a b c (-1) (cs c (-b)) = Q2 at e4 ⊢
  generalize cs c (-b) = S at *
  simp [rdB, mFun, line, mSeq, mAsg, mRet, mRetN, mDrop, mIfS, mTBin, mBin, mVar, mC, mCons, mNil, mTup, mLst, mLstC, mCB, mCall, mCallK, mIf, mAndV, mOrV, mNotV, mAnd, mOr, mNot, mTru, mUn, mChain, tB', mNx, mNev, mFor, mForL, mWhile, mComp, mCompL, mYes, gN, gT, gsCons, gsNil, gSubD, mApp, mPar, mPar3, mAugI, mSl, mSo, mNo, iR1, iR2, iR3, iS, iEn, iL, iT, asB, asL, asT, asLT, asInt, oB, oAdd, oSub, oMulA, oMul, oDiv, oMod, oPow, oNeg, cI, oEq, oNe, oIx, asSeq, oInt, oAbs, oLen, oMax2, oMin2, oDivmod, oIsi, tyD, okCell, truthD, mFrz, Option.bind_some, Option.map_some, Option.bind_none, Option.map_none, cond_true, cond_false, List.map_cons, List.map_nil, List.cons_append, List.nil_append, List.getElem?_cons_zero, List.getElem?_cons_succ, List.set_cons_zero, List.set_cons_succ, List.length_cons, List.length_nil, List.replicate , e1, e2', e3, e4, e5]
theorem rd_loop {A B C : Int} (H : Base A B C) {h : Cells} {f0 : Option D} : ∀ (f : Nat) (a b c p q r s : Int) (f4 : Option D), Ctr (B * B - 4 * A * C) a b c → Inv A B C a b c p q r s → a ≤ A → a + 2 ≤ f →
    ∃ x y z p' q' r' s' f4', mWhileL rdC rdB f ⟨[f0, some (T4 p q r s), some (T3 a b c), some (T4 0 (-1) 1 0), f4], h⟩ = some (.nx, ⟨[f0, some (T4 p' q' r' s'), some (T3 x y z), some (T4 0 (-1) 1 0), f4'], h⟩) ∧ go f a b c = (x, y, z) ∧ Inv A B C x y z p' q' r' s' ∧ Ctr (B * B - 4 * A * C) x y z ∧ x ≤ A
  | 0, a, b, c, p, q, r, s, f4, k, i, l, hf => by have := k.a0; omega
  | 1, a, b, c, p, q, r, s, f4, k, i, l, hf => by have := k.a0; omega
  | f + 2, a, b, c, p, q, r, s, f4, k, i, l, hf => by
    have hd : B * B - 4 * A * C < 0 := by have := H.hi; omega
    rw [mWhileL, rd_test]
    by_cases n : red a b c
    · refine ⟨a, b, c, p, q, r, s, f4, ?_, by rw [go, if_pos n], i, k, l⟩
      rw [decide_eq_true n]; rfl
    · have c0 := c_pos hd k.a0 k.di
      have st := rd_step (h := h) (f0 := f0) (f4 := f4) (bds H i k l) c0
      have i2 := i.mul (t := 0) (u := -1) (v := 1) (w := cs c (-b)) (by omega)
      rw [(led_u a b c).1] at i2
      have k2 := k.next hd
      rw [decide_eq_false n]
      simp only [Option.bind_some, Bool.not_false, cond_true, st]
      have g : go (f + 2) a b c = go (f + 1) c (md a b c 0 (-1) 1 (cs c (-b))) (vl a b c (-1) (cs c (-b))) := by rw [go, if_neg n]
      rw [g]
      rcases not_red k n with z | ⟨rfl, z⟩
      · exact rd_loop H (f + 1) _ _ _ _ _ _ _ _ k2 i2 (by omega) (by omega)
      · have t := turn_red k z
        refine ⟨_, _, _, _, _, _, _, some (T4 0 (-1) 1 (cs c (-b))), ?_, by rw [go, if_pos t], i2, k2, l⟩
        rw [mWhileL, rd_test, decide_eq_true t]; rfl
def RD (A B C : Int) : Int × Int × Int := go (A.toNat + 2) A (md A B C 1 (cs A B) 0 1) (vl A B C (cs A B) 1)
theorem reduction_ok {A B C : Int} (H : Base A B C) {h : Cells} : ∃ x y z p q r s, F_reduction [T3 A B C] h = some (.tup [T3 x y z, T4 p q r s], h) ∧ RD A B C = (x, y, z) ∧ Inv A B C x y z p q r s ∧ Ctr (B * B - 4 * A * C) x y z ∧ x ≤ A := by
  have z : ∀ n, Bd n (0 : Int) := fun n => Nat.pow_pos (by decide)
  have o : Bd 3000 (1 : Int) := Nat.lt_of_lt_of_le (show 1 < 2 ^ 1 by decide) (Nat.pow_le_pow_right (by decide) (by decide))
  have M : ∀ {x : Int}, Bd 800 x → Bd 3000 x := fun h => h.mono (by decide)
  have e1 : F_centring [T3 A B C] h = some (T4 1 (cs A B) 0 1, h) := centring_ok H.a0 (M H.ba)
  have e2 := led_ok (h := h) (M H.ba) (M H.bb) (M H.bc) o (cs_bd (H.ba.mono (by decide)) (H.bb.mono (by decide))) (z _) o
  rw [(led_s A B C 0).1] at e2
  have i := (Inv.one A B C).mul (t := 1) (u := cs A B) (v := 0) (w := 1) (by omega)
  have y1 : (1 : Int) * 1 + 0 * 0 = 1 := by decide
  have y2 : (1 : Int) * cs A B + 0 * 1 = cs A B := by omega
  have y3 : (0 : Int) * 1 + 1 * 0 = 0 := by decide
  have y4 : (0 : Int) * cs A B + 1 * 1 = 1 := by omega
  rw [y1, y2, y3, y4, (led_s A B C 0).1] at i
  obtain ⟨x, y, w, p, q, r, s, f4, e, g, i', k', l'⟩ := rd_loop H (h := h) (f0 := some (T3 A B C)) (A.toNat + 2) _ _ _ _ _ _ _ none (Ctr.start H.a0 rfl) i (by omega) (by have := H.a0; omega)
  refine ⟨x, y, w, p, q, r, s, ?_, g, i', k', l'⟩
  unfold F_reduction
  rw [b_rd_eq]
  generalize rdC = CC at e ⊢
  generalize rdB = BB at e ⊢
  generalize md A B C 1 (cs A B) 0 1 = Q1 at e2 e
  generalize vl A B C (cs A B) 1 = Q2 at e2 e
  generalize cs A B = S at *
  simp [mFun, line, mSeq, mAsg, mRet, mRetN, mDrop, mIfS, mTBin, mBin, mVar, mC, mCons, mNil, mTup, mLst, mLstC, mCB, mCall, mCallK, mIf, mAndV, mOrV, mNotV, mAnd, mOr, mNot, mTru, mUn, mChain, tB', mNx, mNev, mFor, mForL, mWhile, mComp, mCompL, mYes, gN, gT, gsCons, gsNil, gSubD, mApp, mPar, mPar3, mAugI, mSl, mSo, mNo, iR1, iR2, iR3, iS, iEn, iL, iT, asB, asL, asT, asLT, asInt, oB, oAdd, oSub, oMulA, oMul, oDiv, oMod, oPow, oNeg, cI, oEq, oNe, oIx, asSeq, oInt, oAbs, oLen, oMax2, oMin2, oDivmod, oIsi, tyD, okCell, truthD, mFrz, Option.bind_some, Option.map_some, Option.bind_none, Option.map_none, cond_true, cond_false, List.map_cons, List.map_nil, List.cons_append, List.nil_append, List.getElem?_cons_zero, List.getElem?_cons_succ, List.set_cons_zero, List.set_cons_succ, List.length_cons, List.length_nil, List.replicate , e1, e2, slT, e]
end Law

set_option Elab.async false
set_option linter.all false
set_option maxRecDepth 100000
set_option maxHeartbeats 4000000
namespace Law
open PySem L2 Zm
/-! the law's way down -/
abbrev wdC : MT := (mTru (mC (.bl true)))
abbrev wdB : MB := (mSeq (mAsg (mBin oDiv (mBin oSub (mBin oIx (mVar 2) (mC (.int 0))) (mBin oIx (mVar 2) (mC (.int 1)))) (mBin oMulA (mC (.int 2)) (mBin oIx (mVar 2) (mC (.int 0))))) (gN 3))
    (mSeq (mAsg (mCall 2 F__law_both (mCons (mVar 1) (mCons (mTup (mCons (mC (.int 1)) (mCons (mVar 3) (mCons (mC (.int 0)) (mCons (mC (.int 1)) mNil))))) mNil))) (gN 1))
    (mSeq (mAsg (mCall 2 F__law_led (mCons (mVar 2) (mCons (mTup (mCons (mC (.int 1)) (mCons (mVar 3) (mCons (mC (.int 0)) (mCons (mC (.int 1)) mNil))))) mNil))) (gN 2))
    (mSeq (mIfS (mOr (mTBin cLt (mBin oIx (mVar 2) (mC (.int 0))) (mBin oIx (mVar 2) (mC (.int 2)))) (mAnd (mTBin oEq (mBin oIx (mVar 2) (mC (.int 0))) (mBin oIx (mVar 2) (mC (.int 2)))) (mTBin cGe (mBin oIx (mVar 2) (mC (.int 1))) (mC (.int 0))))) (mRet (mVar 1)) mNx)
    (mSeq (mAsg (mCall 2 F__law_both (mCons (mVar 1) (mCons (mTup (mCons (mC (.int 0)) (mCons (mUn oNeg (mC (.int 1))) (mCons (mC (.int 1)) (mCons (mC (.int 0)) mNil))))) mNil))) (gN 1))
    (mAsg (mCall 2 F__law_led (mCons (mVar 2) (mCons (mTup (mCons (mC (.int 0)) (mCons (mUn oNeg (mC (.int 1))) (mCons (mC (.int 1)) (mCons (mC (.int 0)) mNil))))) mNil))) (gN 2)))))))
theorem b_wd_eq : b__law_way_down = (mSeq (mPar 1 2 (mCons (mTup (mCons (mC (.int 1)) (mCons (mC (.int 0)) (mCons (mC (.int 0)) (mCons (mC (.int 1)) mNil))))) (mCons (mVar 0) mNil)))
    (mWhile (fun ms => slT ms 2 0 + 2) wdC wdB)) := rfl
theorem wd_test {h : Cells} {s : List (Option D)} : wdC ⟨s, h⟩ = some (true, h) := by
  simp [wdC, mFun, line, mSeq, mAsg, mRet, mRetN, mDrop, mIfS, mTBin, mBin, mVar, mC, mCons, mNil, mTup, mLst, mLstC, mCB, mCall, mCallK, mIf, mAndV, mOrV, mNotV, mAnd, mOr, mNot, mTru, mUn, mChain, tB', mNx, mNev, mFor, mForL, mWhile, mComp, mCompL, mYes, gN, gT, gsCons, gsNil, gSubD, mApp, mPar, mPar3, mAugI, mSl, mSo, mNo, iR1, iR2, iR3, iS, iEn, iL, iT, asB, asL, asT, asLT, asInt, oB, oAdd, oSub, oMulA, oMul, oDiv, oMod, oPow, oNeg, cI, oEq, oNe, oIx, asSeq, oInt, oAbs, oLen, oMax2, oMin2, oDivmod, oIsi, tyD, okCell, truthD, mFrz, Option.bind_some, Option.map_some, Option.bind_none, Option.map_none, cond_true, cond_false, List.map_cons, List.map_nil, List.cons_append, List.nil_append, List.getElem?_cons_zero, List.getElem?_cons_succ, List.set_cons_zero, List.set_cons_succ, List.length_cons, List.length_nil, List.replicate ]
theorem red_iff {dd a b c : Int} (h : Ctr dd a b c) : red a b c ↔ (a < c ∨ (a = c ∧ 0 ≤ b)) := by
  unfold red
  have := h.lo; have := h.hi
  omega
theorem wd_step {dd : Int} {h : Cells} {f0 f3 : Option D} {a b c p q r s S b1 c1 p1 q1 r1 s1 : Int} (a0 : 0 < a) (k : Bds a b c p q r s) (hS : S = cs a b) (hb1 : b1 = md a b c 1 S 0 1) (hc1 : c1 = vl a b c S 1)
    (hp : p1 = p * 1 + q * 0) (hq : q1 = p * S + q * 1) (hr : r1 = r * 1 + s * 0) (hs : s1 = r * S + s * 1) (k1 : Bds a b1 c1 p1 q1 r1 s1) (ct : Ctr dd a b1 c1) :
    (red a b1 c1 → wdB ⟨[f0, some (T4 p q r s), some (T3 a b c), f3], h⟩ = some (.ret (T4 p1 q1 r1 s1), ⟨[f0, some (T4 p1 q1 r1 s1), some (T3 a b1 c1), some (.int S)], h⟩)) ∧
    (¬ red a b1 c1 → wdB ⟨[f0, some (T4 p q r s), some (T3 a b c), f3], h⟩ = some (.nx, ⟨[f0, some (T4 (p1 * 0 + q1 * 1) (p1 * (-1) + q1 * 0) (r1 * 0 + s1 * 1) (r1 * (-1) + s1 * 0)), some (T3 c1 (-b1) a), some (.int S)], h⟩)) := by
  have z : ∀ n, Bd n (0 : Int) := fun n => Nat.pow_pos (by decide)
  have o : Bd 3000 (1 : Int) := Nat.lt_of_lt_of_le (show 1 < 2 ^ 1 by decide) (Nat.pow_le_pow_right (by decide) (by decide))
  have m : Bd 3000 (-1 : Int) := o.neg
  have M : ∀ {x : Int}, Bd 2900 x → Bd 3000 x := fun h => h.mono (by decide)
  have M9 : ∀ {x : Int}, Bd 3000 x → Bd 9000 x := fun h => h.mono (by decide)
  have t : Bd 3000 S := by rw [hS]; exact cs_bd k.a k.b
  have tw : Bd 3000 (2 : Int) := .two (by decide)
  have w1 : wideM 2 a = true := wide_B (tw.mono (by decide)) (k.a.mono (by decide))
  have w2 : wideD (2 * a) = true := wideD_B (by omega) ((tw.mul (M k.a)).mono (by decide))
  have e1 := both_ok (h := h) (M9 (M k.p)) (M9 (M k.q)) (M9 (M k.r)) (M9 (M k.s)) (M9 o) (M9 t) (M9 (z _)) (M9 o)
  rw [← hp, ← hq, ← hr, ← hs] at e1
  have e2 := lled_ok (h := h) (M k.a) (M k.b) (M k.c) o t (z _) o
  rw [(led_s a b c S).1, ← hb1, ← hc1] at e2
  have e3 := both_ok (h := h) (M9 (M k1.p)) (M9 (M k1.q)) (M9 (M k1.r)) (M9 (M k1.s)) (M9 (z _)) (M9 m) (M9 o) (M9 (z _))
  have e4 := lled_ok (h := h) (M k1.a) (M k1.b) (M k1.c) (z _) m o (z _)
  obtain ⟨u1, u2, u3⟩ := led_u a b1 c1
  rw [u1, u2, u3] at e4
  have hS' : (a - b) / (2 * a) = S := hS.symm
  rw [red_iff ct]
  generalize p1 * 0 + q1 * 1 = P1 at e3 ⊢
  generalize p1 * -1 + q1 * 0 = P2 at e3 ⊢
  generalize r1 * 0 + s1 * 1 = P3 at e3 ⊢
  generalize r1 * -1 + s1 * 0 = P4 at e3 ⊢
  clear hb1 hc1 hp hq hr hs hS k k1 ct
  constructor
  · rintro (g | ⟨g, g2⟩)
    · simp [wdB, mFun, line, mSeq, mAsg, mRet, mRetN, mDrop, mIfS, mTBin, mBin, mVar, mC, mCons, mNil, mTup, mLst, mLstC, mCB, mCall, mCallK, mIf, mAndV, mOrV, mNotV, mAnd, mOr, mNot, mTru, mUn, mChain, tB', mNx, mNev, mFor, mForL, mWhile, mComp, mCompL, mYes, gN, gT, gsCons, gsNil, gSubD, mApp, mPar, mPar3, mAugI, mSl, mSo, mNo, iR1, iR2, iR3, iS, iEn, iL, iT, asB, asL, asT, asLT, asInt, oB, oAdd, oSub, oMulA, oMul, oDiv, oMod, oPow, oNeg, cI, oEq, oNe, oIx, asSeq, oInt, oAbs, oLen, oMax2, oMin2, oDivmod, oIsi, tyD, okCell, truthD, mFrz, Option.bind_some, Option.map_some, Option.bind_none, Option.map_none, cond_true, cond_false, List.map_cons, List.map_nil, List.cons_append, List.nil_append, List.getElem?_cons_zero, List.getElem?_cons_succ, List.set_cons_zero, List.set_cons_succ, List.length_cons, List.length_nil, List.replicate , atI, ixN, w1, w2, hS', e1, e2, g]
    · subst g
      simp [wdB, mFun, line, mSeq, mAsg, mRet, mRetN, mDrop, mIfS, mTBin, mBin, mVar, mC, mCons, mNil, mTup, mLst, mLstC, mCB, mCall, mCallK, mIf, mAndV, mOrV, mNotV, mAnd, mOr, mNot, mTru, mUn, mChain, tB', mNx, mNev, mFor, mForL, mWhile, mComp, mCompL, mYes, gN, gT, gsCons, gsNil, gSubD, mApp, mPar, mPar3, mAugI, mSl, mSo, mNo, iR1, iR2, iR3, iS, iEn, iL, iT, asB, asL, asT, asLT, asInt, oB, oAdd, oSub, oMulA, oMul, oDiv, oMod, oPow, oNeg, cI, oEq, oNe, oIx, asSeq, oInt, oAbs, oLen, oMax2, oMin2, oDivmod, oIsi, tyD, okCell, truthD, mFrz, Option.bind_some, Option.map_some, Option.bind_none, Option.map_none, cond_true, cond_false, List.map_cons, List.map_nil, List.cons_append, List.nil_append, List.getElem?_cons_zero, List.getElem?_cons_succ, List.set_cons_zero, List.set_cons_succ, List.length_cons, List.length_nil, List.replicate , atI, ixN, w1, w2, hS', e1, e2, g2]
  · intro g
    have g1 : ¬ a < c1 := fun y => g (.inl y)
    by_cases y : a = c1
    · subst y
      have g2 : ¬ 0 ≤ b1 := fun y => g (.inr ⟨rfl, y⟩)
      simp [wdB, mFun, line, mSeq, mAsg, mRet, mRetN, mDrop, mIfS, mTBin, mBin, mVar, mC, mCons, mNil, mTup, mLst, mLstC, mCB, mCall, mCallK, mIf, mAndV, mOrV, mNotV, mAnd, mOr, mNot, mTru, mUn, mChain, tB', mNx, mNev, mFor, mForL, mWhile, mComp, mCompL, mYes, gN, gT, gsCons, gsNil, gSubD, mApp, mPar, mPar3, mAugI, mSl, mSo, mNo, iR1, iR2, iR3, iS, iEn, iL, iT, asB, asL, asT, asLT, asInt, oB, oAdd, oSub, oMulA, oMul, oDiv, oMod, oPow, oNeg, cI, oEq, oNe, oIx, asSeq, oInt, oAbs, oLen, oMax2, oMin2, oDivmod, oIsi, tyD, okCell, truthD, mFrz, Option.bind_some, Option.map_some, Option.bind_none, Option.map_none, cond_true, cond_false, List.map_cons, List.map_nil, List.cons_append, List.nil_append, List.getElem?_cons_zero, List.getElem?_cons_succ, List.set_cons_zero, List.set_cons_succ, List.length_cons, List.length_nil, List.replicate , atI, ixN, w1, w2, hS', e1, e2, e3, e4, g2]
    · simp [wdB, mFun, line, mSeq, mAsg, mRet, mRetN, mDrop, mIfS, mTBin, mBin, mVar, mC, mCons, mNil, mTup, mLst, mLstC, mCB, mCall, mCallK, mIf, mAndV, mOrV, mNotV, mAnd, mOr, mNot, mTru, mUn, mChain, tB', mNx, mNev, mFor, mForL, mWhile, mComp, mCompL, mYes, gN, gT, gsCons, gsNil, gSubD, mApp, mPar, mPar3, mAugI, mSl, mSo, mNo, iR1, iR2, iR3, iS, iEn, iL, iT, asB, asL, asT, asLT, asInt, oB, oAdd, oSub, oMulA, oMul, oDiv, oMod, oPow, oNeg, cI, oEq, oNe, oIx, asSeq, oInt, oAbs, oLen, oMax2, oMin2, oDivmod, oIsi, tyD, okCell, truthD, mFrz, Option.bind_some, Option.map_some, Option.bind_none, Option.map_none, cond_true, cond_false, List.map_cons, List.map_nil, List.cons_append, List.nil_append, List.getElem?_cons_zero, List.getElem?_cons_succ, List.set_cons_zero, List.set_cons_succ, List.length_cons, List.length_nil, List.replicate , atI, ixN, w1, w2, hS', e1, e2, e3, e4, g1, y]
theorem again (a b c : Int) : md c (-b) a 1 (cs c (-b)) 0 1 = md a b c 0 (-1) 1 (cs c (-b)) ∧ vl c (-b) a (cs c (-b)) 1 = vl a b c (-1) (cs c (-b)) := by
  obtain ⟨_, t2, t3⟩ := led_t a b c (cs c (-b))
  obtain ⟨_, s2, s3⟩ := led_s c (-b) a (cs c (-b))
  refine ⟨by rw [t2, s2], ?_⟩
  rw [t3, s3]
  grind
theorem wd_loop {A B C : Int} (H : Base A B C) {h : Cells} {f0 : Option D} : ∀ (f : Nat) (a b c p q r s : Int) (f3 : Option D), 0 < a → b * b - 4 * a * c = B * B - 4 * A * C → Bds a b c p q r s → Inv A B C a b c p q r s → a ≤ A → a + 2 ≤ f →
    ∃ x y z p' q' r' s' ms, mWhileL wdC wdB f ⟨[f0, some (T4 p q r s), some (T3 a b c), f3], h⟩ = some (.ret (T4 p' q' r' s'), ⟨ms, h⟩) ∧ go f a (md a b c 1 (cs a b) 0 1) (vl a b c (cs a b) 1) = (x, y, z) ∧ Inv A B C x y z p' q' r' s' ∧ Bds x y z p' q' r' s'
  | 0, a, b, c, p, q, r, s, f3, a0, e, k, i, l, hf => by omega
  | 1, a, b, c, p, q, r, s, f3, a0, e, k, i, l, hf => by omega
  | f + 2, a, b, c, p, q, r, s, f3, a0, e, k, i, l, hf => by
    have hd : B * B - 4 * A * C < 0 := by have := H.hi; omega
    have ct : Ctr (B * B - 4 * A * C) a (md a b c 1 (cs a b) 0 1) (vl a b c (cs a b) 1) := Ctr.start a0 e
    have i1 := i.mul (t := 1) (u := cs a b) (v := 0) (w := 1) (by omega)
    rw [(led_s a b c 0).1] at i1
    have k1 := bds H i1 ct l
    obtain ⟨g1, g2⟩ := wd_step (h := h) (f0 := f0) (f3 := f3) a0 k rfl rfl rfl rfl rfl rfl rfl k1 ct
    rw [mWhileL, wd_test]
    simp only [Option.bind_some, cond_true]
    generalize hb1 : md a b c 1 (cs a b) 0 1 = b1 at *
    generalize hc1 : vl a b c (cs a b) 1 = c1 at *
    by_cases n : red a b1 c1
    · rw [g1 n]
      refine ⟨a, b1, c1, _, _, _, _, _, rfl, by rw [go, if_pos n], i1, k1⟩
    · rw [g2 n]
      simp only [Option.bind_some]
      have c0 := c_pos hd ct.a0 ct.di
      have i2 := i1.mul (t := 0) (u := -1) (v := 1) (w := 0) (by omega)
      obtain ⟨u1, u2, u3⟩ := led_u a b1 c1
      rw [u1, u2, u3] at i2
      have k2 := ct.next hd
      obtain ⟨n1, n2⟩ := again a b1 c1
      have g : go (f + 2) a b1 c1 = go (f + 1) c1 (md a b1 c1 0 (-1) 1 (cs c1 (-b1))) (vl a b1 c1 (-1) (cs c1 (-b1))) := by rw [go, if_neg n]
      rw [g, ← n1, ← n2]
      have e2 : -b1 * -b1 - 4 * c1 * a = B * B - 4 * A * C := by
        rw [← ct.di]; grind
      have kb : Bds c1 (-b1) a ((p * 1 + q * 0) * 0 + (p * cs a b + q * 1) * 1) ((p * 1 + q * 0) * (-1) + (p * cs a b + q * 1) * 0) ((r * 1 + s * 0) * 0 + (r * cs a b + s * 1) * 1) ((r * 1 + s * 0) * (-1) + (r * cs a b + s * 1) * 0) := ⟨k1.c, k1.b.neg, k1.a, by
        have : (p * 1 + q * 0) * 0 + (p * cs a b + q * 1) * 1 = p * cs a b + q * 1 := by omega
        rw [this]; exact k1.q, by
        have : (p * 1 + q * 0) * (-1) + (p * cs a b + q * 1) * 0 = -(p * 1 + q * 0) := by omega
        rw [this]; exact k1.p.neg, by
        have : (r * 1 + s * 0) * 0 + (r * cs a b + s * 1) * 1 = r * cs a b + s * 1 := by omega
        rw [this]; exact k1.s, by
        have : (r * 1 + s * 0) * (-1) + (r * cs a b + s * 1) * 0 = -(r * 1 + s * 0) := by omega
        rw [this]; exact k1.r.neg⟩
      rcases not_red ct n with z | ⟨z1, z2⟩
      · exact wd_loop H (f + 1) _ _ _ _ _ _ _ _ c0 e2 kb i2 (by omega) (by omega)
      · have i3 := i2.mul (t := 1) (u := cs c1 (-b1)) (v := 0) (w := 1) (by omega)
        rw [(led_s c1 (-b1) a 0).1] at i3
        have ct3 : Ctr (B * B - 4 * A * C) c1 (md c1 (-b1) a 1 (cs c1 (-b1)) 0 1) (vl c1 (-b1) a (cs c1 (-b1)) 1) := Ctr.start c0 e2
        have k3 := bds H i3 ct3 (by omega)
        obtain ⟨h1, _⟩ := wd_step (h := h) (f0 := f0) (f3 := some (.int (cs a b))) c0 kb rfl rfl rfl rfl rfl rfl rfl k3 ct3
        have t : red c1 (md c1 (-b1) a 1 (cs c1 (-b1)) 0 1) (vl c1 (-b1) a (cs c1 (-b1)) 1) := by
          rw [n1, n2]
          have ct' := ct
          rw [z1] at ct' ⊢
          exact turn_red ct' z2
        rw [mWhileL, wd_test]
        simp only [Option.bind_some, cond_true]
        rw [h1 t]
        exact ⟨_, _, _, _, _, _, _, _, rfl, by rw [go, if_pos t], i3, k3⟩
theorem way_ok {A B C : Int} (H : Base A B C) {h : Cells} : ∃ x y z p q r s, F__law_way_down [T3 A B C] h = some (T4 p q r s, h) ∧ RD A B C = (x, y, z) ∧ Inv A B C x y z p q r s ∧ Bds x y z p q r s := by
  have z : ∀ n, Bd n (0 : Int) := fun n => Nat.pow_pos (by decide)
  have o : Bd 2900 (1 : Int) := Nat.lt_of_lt_of_le (show 1 < 2 ^ 1 by decide) (Nat.pow_le_pow_right (by decide) (by decide))
  have M : ∀ {x : Int}, Bd 800 x → Bd 2900 x := fun h => h.mono (by decide)
  obtain ⟨x, y, w, p, q, r, s, ms, e, g, i, k⟩ := wd_loop H (h := h) (f0 := some (T3 A B C)) (A.toNat + 2) A B C 1 0 0 1 none H.a0 rfl ⟨M H.ba, M H.bb, M H.bc, o, z _, z _, o⟩ (Inv.one A B C) (by omega) (by have := H.a0; omega)
  refine ⟨x, y, w, p, q, r, s, ?_, g, i, k⟩
  unfold F__law_way_down
  rw [b_wd_eq]
  generalize wdC = CC at e ⊢
  generalize wdB = BB at e ⊢
  simp [mFun, line, mSeq, mAsg, mRet, mRetN, mDrop, mIfS, mTBin, mBin, mVar, mC, mCons, mNil, mTup, mLst, mLstC, mCB, mCall, mCallK, mIf, mAndV, mOrV, mNotV, mAnd, mOr, mNot, mTru, mUn, mChain, tB', mNx, mNev, mFor, mForL, mWhile, mComp, mCompL, mYes, gN, gT, gsCons, gsNil, gSubD, mApp, mPar, mPar3, mAugI, mSl, mSo, mNo, iR1, iR2, iR3, iS, iEn, iL, iT, asB, asL, asT, asLT, asInt, oB, oAdd, oSub, oMulA, oMul, oDiv, oMod, oPow, oNeg, cI, oEq, oNe, oIx, asSeq, oInt, oAbs, oLen, oMax2, oMin2, oDivmod, oIsi, tyD, okCell, truthD, mFrz, Option.bind_some, Option.map_some, Option.bind_none, Option.map_none, cond_true, cond_false, List.map_cons, List.map_nil, List.cons_append, List.nil_append, List.getElem?_cons_zero, List.getElem?_cons_succ, List.set_cons_zero, List.set_cons_succ, List.length_cons, List.length_nil, List.replicate , slT, e]
theorem lreduced_ok {A B C : Int} (H : Base A B C) {h : Cells} : F__law_reduced [T3 A B C] h = some (T3 (RD A B C).1 (RD A B C).2.1 (RD A B C).2.2, h) := by
  obtain ⟨x, y, z, p, q, r, s, e, g, i, k⟩ := way_ok H (h := h)
  have M : ∀ {x : Int}, Bd 800 x → Bd 3000 x := fun h => h.mono (by decide)
  have N : ∀ {x : Int}, Bd 2900 x → Bd 3000 x := fun h => h.mono (by decide)
  have e2 := lled_ok (h := h) (M H.ba) (M H.bb) (M H.bc) (N k.p) (N k.q) (N k.r) (N k.s)
  rw [i.ea, i.eb, i.ec] at e2
  rw [g]
  simp [F__law_reduced, b__law_reduced, mFun, line, mSeq, mAsg, mRet, mRetN, mDrop, mIfS, mTBin, mBin, mVar, mC, mCons, mNil, mTup, mLst, mLstC, mCB, mCall, mCallK, mIf, mAndV, mOrV, mNotV, mAnd, mOr, mNot, mTru, mUn, mChain, tB', mNx, mNev, mFor, mForL, mWhile, mComp, mCompL, mYes, gN, gT, gsCons, gsNil, gSubD, mApp, mPar, mPar3, mAugI, mSl, mSo, mNo, iR1, iR2, iR3, iS, iEn, iL, iT, asB, asL, asT, asLT, asInt, oB, oAdd, oSub, oMulA, oMul, oDiv, oMod, oPow, oNeg, cI, oEq, oNe, oIx, asSeq, oInt, oAbs, oLen, oMax2, oMin2, oDivmod, oIsi, tyD, okCell, truthD, mFrz, Option.bind_some, Option.map_some, Option.bind_none, Option.map_none, cond_true, cond_false, List.map_cons, List.map_nil, List.cons_append, List.nil_append, List.getElem?_cons_zero, List.getElem?_cons_succ, List.set_cons_zero, List.set_cons_succ, List.length_cons, List.length_nil, List.replicate , e, e2]
theorem reduced_ok {A B C : Int} (H : Base A B C) (hf : isF A B C) {h : Cells} : F_reduced [T3 A B C] h = some (T3 (RD A B C).1 (RD A B C).2.1 (RD A B C).2.2, h) := by
  obtain ⟨x, y, z, p, q, r, s, e, g, i, k, l⟩ := reduction_ok H (h := h)
  have M : ∀ {x : Int}, Bd 800 x → Bd 3000 x := fun h => h.mono (by decide)
  have c := check_form_ok (h := h) (M H.ba) (M H.bb) (M H.bc) hf
  rw [g]
  simp [F_reduced, b_reduced, mFun, line, mSeq, mAsg, mRet, mRetN, mDrop, mIfS, mTBin, mBin, mVar, mC, mCons, mNil, mTup, mLst, mLstC, mCB, mCall, mCallK, mIf, mAndV, mOrV, mNotV, mAnd, mOr, mNot, mTru, mUn, mChain, tB', mNx, mNev, mFor, mForL, mWhile, mComp, mCompL, mYes, gN, gT, gsCons, gsNil, gSubD, mApp, mPar, mPar3, mAugI, mSl, mSo, mNo, iR1, iR2, iR3, iS, iEn, iL, iT, asB, asL, asT, asLT, asInt, oB, oAdd, oSub, oMulA, oMul, oDiv, oMod, oPow, oNeg, cI, oEq, oNe, oIx, asSeq, oInt, oAbs, oLen, oMax2, oMin2, oDivmod, oIsi, tyD, okCell, truthD, mFrz, Option.bind_some, Option.map_some, Option.bind_none, Option.map_none, cond_true, cond_false, List.map_cons, List.map_nil, List.cons_append, List.nil_append, List.getElem?_cons_zero, List.getElem?_cons_succ, List.set_cons_zero, List.set_cons_succ, List.length_cons, List.length_nil, List.replicate , c, e]
end Law

set_option Elab.async false
set_option linter.all false
set_option maxRecDepth 100000
set_option maxHeartbeats 4000000
namespace Law
open PySem L2 Zm
/-! equality of forms; changes between -/
theorem sh3 (a b c : Int) : SeqAt.shaped (.tuple [.int a, .int b, .int c]) = true := by first | rfl | simp [SeqAt.shaped]
theorem eqv3 (a b c x y z : Int) : PyData.eqv (.tuple [.int a, .int b, .int c]) (.tuple [.int x, .int y, .int z]) = decide (a = x ∧ b = y ∧ c = z) := by
  simp [PyData.eqv, PyData.eqvAll, Bool.decide_and]
  by_cases h1 : a = x <;> by_cases h2 : b = y <;> by_cases h3 : c = z <;> simp [h1, h2, h3]
theorem ne3 (h : Cells) (a b c x y z : Int) : oNe h (T3 a b c) (T3 x y z) = some (!decide (a = x ∧ b = y ∧ c = z)) := by
  have e1 : py h (T3 a b c) = some (.tuple [.int a, .int b, .int c]) := rfl
  have e2 : py h (T3 x y z) = some (.tuple [.int x, .int y, .int z]) := rfl
  show cEqP true h _ _ = _
  unfold cEqP
  rw [e1, e2]
  simp only [Option.bind_some, sh3, Bool.and_true, cond_true, eqv3, if_true]
theorem eq3 (h : Cells) (a b c x y z : Int) : oEq h (T3 a b c) (T3 x y z) = some (decide (a = x ∧ b = y ∧ c = z)) := by
  have e1 : py h (T3 a b c) = some (.tuple [.int a, .int b, .int c]) := rfl
  have e2 : py h (T3 x y z) = some (.tuple [.int x, .int y, .int z]) := rfl
  show cEqP false h _ _ = _
  unfold cEqP
  rw [e1, e2]
  simp only [Option.bind_some, sh3, Bool.and_true, cond_true, eqv3]
  rfl
theorem Inv.back {A B C x y z p q r s A' B' C' p' q' r' s' : Int} (i : Inv A B C x y z p q r s) (j : Inv A' B' C' x y z p' q' r' s') :
    Inv A B C A' B' C' (p * s' + q * -r') (p * -q' + q * p') (r * s' + s * -r') (r * -q' + s * p') := by
  have k := i.mul (t := s') (u := -q') (v := -r') (w := p') (by have := j.dt; grind)
  have d := j.dt
  have e1 : vl x y z s' (-r') = A' := by
    rw [← j.ea, ← j.eb, ← j.ec, comp_v, show p' * s' + q' * -r' = 1 by grind, show r' * s' + s' * -r' = 0 by grind]
    unfold vl; omega
  have e2 : md x y z s' (-q') (-r') p' = B' := by
    rw [← j.ea, ← j.eb, ← j.ec, comp_m, show p' * s' + q' * -r' = 1 by grind, show r' * s' + s' * -r' = 0 by grind, show p' * -q' + q' * p' = 0 by grind, show r' * -q' + s' * p' = 1 by grind]
    unfold md; omega
  have e3 : vl x y z (-q') p' = C' := by
    rw [← j.ea, ← j.eb, ← j.ec, comp_v, show p' * -q' + q' * p' = 0 by grind, show r' * -q' + s' * p' = 1 by grind]
    unfold vl; omega
  rw [e1, e2, e3] at k
  exact k
end Law

set_option Elab.async false
set_option linter.all false
set_option maxRecDepth 100000
set_option maxHeartbeats 4000000
namespace Law
open PySem L2 Zm
end Law

set_option Elab.async false
set_option linter.all false
set_option maxRecDepth 100000
set_option maxHeartbeats 4000000
namespace Law
open PySem L2 Zm
def upto (n : Nat) : List Int := (List.range n).map fun (i : Nat) => (i : Int)
theorem intsD_upto (n : Nat) : intsD 0 n = (upto n).map D.int := by simp [intsD, upto]
theorem upto_len (n : Nat) : (upto n).length = n := by simp [upto]
def allD : List Int := (List.range 398).filterMap fun (i : Nat) => if okD (-400 + i) then some (-400 + i) else none
theorem mem_allD {n : Int} (h : okD n) : n ∈ allD := by
  refine List.mem_filterMap.mpr ⟨(n + 400).toNat, List.mem_range.mpr (by have := h.1; have := h.2.1; omega), ?_⟩
  have e : -400 + (((n + 400).toNat : Nat) : Int) = n := by have := h.1; omega
  rw [e, if_pos h]
theorem map_at {α β : Type} {f g : α → β} : ∀ {l : List α}, l.map f = l.map g → ∀ x ∈ l, f x = g x
  | [], _, x, h => (by cases h)
  | a :: l, e, x, h => by
    simp only [List.map_cons, List.cons.injEq] at e
    rcases List.mem_cons.mp h with z | z
    · subst z; exact e.1
    · exact map_at e.2 x z
/-! the root -/
def rtOf : Option (D × Cells) → Int
  | some (.int a, _) => a
  | _ => 0
def rt (m : Nat) : Int := rtOf (F__law_root [.int (m : Int)] [])
theorem rt_all (h : Cells) : (List.range 134).map (fun (m : Nat) => F__law_root [.int (m : Int)] h) = (List.range 134).map (fun (m : Nat) => some (.int (rt m), h)) := by kernel_rfl
theorem rt_sq : ∀ m ∈ List.range 134, 0 ≤ rt m ∧ rt m ≤ 12 ∧ (m : Int) < (rt m + 1) * (rt m + 1) := by decide +kernel
theorem root_ok {m : Int} {h : Cells} (h0 : 0 ≤ m) (h1 : m ≤ 133) : F__law_root [.int m] h = some (.int (rt m.toNat), h) := by
  have e := map_at (rt_all h) m.toNat (List.mem_range.mpr (by omega))
  rw [Int.toNat_of_nonneg h0] at e
  exact e
end Law

set_option Elab.async false
set_option linter.all false
set_option maxRecDepth 100000
set_option maxHeartbeats 4000000
namespace Law
open PySem L2 Zm
/-! all classes -/
def okT (n a b : Int) : Bool := decide ((b * b - n) % (4 * a) = 0) && (decide (isF a b ((b * b - n) / (4 * a))) && decide (red a b ((b * b - n) / (4 * a))))
abbrev clI : MB := (mIfS (mTBin oEq (mBin oMod (mCB oInt (mCons (mBin oSub (mBin oMulA (mVar 3) (mVar 3)) (mVar 0)) mNil)) (mBin oMulA (mC (.int 4)) (mVar 2))) (mC (.int 0))) (mSeq (mAsg (mTup (mCons (mVar 2) (mCons (mVar 3) (mCons (mBin oDiv (mBin oSub (mBin oMulA (mVar 3) (mVar 3)) (mVar 0)) (mBin oMulA (mC (.int 4)) (mVar 2))) mNil)))) (gN 4))
    (mIfS (mAnd (mTru (mCall 1 F__law_is_form (mCons (mVar 4) mNil))) (mTru (mCall 1 F__law_is_reduced (mCons (mVar 4) mNil)))) (mDrop (mApp (mVar 1) (mCons (mVar 4) mNil))) mNx)) mNx)
abbrev clO : MB := (mFor (iR2 (mCons (mBin oSub (mC (.int 0)) (mVar 2)) (mCons (mBin oAdd (mVar 2) (mC (.int 1))) mNil))) (gN 3) clI)
theorem b_cl_eq : b__law_classes = (mSeq (mAsg (mLstC mNil) (gN 1))
    (mSeq (mFor (iR2 (mCons (mC (.int 1)) (mCons (mBin oAdd (mCall 1 F__law_root (mCons (mBin oDiv (mBin oSub (mC (.int 0)) (mVar 0)) (mC (.int 3))) mNil)) (mC (.int 1))) mNil))) (gN 2) clO)
    (mRet (mVar 1)))) := rfl
def it (n a b : Int) : D := T3 a b ((b * b - n) / (4 * a))
theorem gl {h : Cells} {x : List D} : (h ++ [x])[h.length]? = some x := by simp
theorem sl {h : Cells} {x y : List D} : (h ++ [x]).set h.length y = h ++ [y] := by simp
theorem cl_step {h : Cells} {n a b : Int} {x4 : Option D} {acc : List D} (hn : -400 ≤ n ∧ n < 0) (ha : 0 < a) (ha2 : a ≤ 12) (hb : b.natAbs ≤ 12) (hl : acc.length < 100000) :
    ∃ y4, clI ⟨[some (.int n), some (.cell h.length), some (.int a), some (.int b), x4], h ++ [acc]⟩ = some (.nx, ⟨[some (.int n), some (.cell h.length), some (.int a), some (.int b), y4], h ++ [acc ++ (if okT n a b then [it n a b] else [])]⟩) := by
  have S : ∀ x : Int, x.natAbs < 2 ^ 20 → Bd 3000 x := fun x hx => Nat.lt_of_lt_of_le hx (Nat.pow_le_pow_right (by decide) (by decide))
  have sb : b * b ≤ 144 ∧ 0 ≤ b * b := by
    have e : ((b.natAbs * b.natAbs : Nat) : Int) = b * b := by rw [Int.natCast_mul]; exact Int.natAbs_mul_self' b
    have := Nat.mul_le_mul hb hb
    omega
  have w1 : wideM b b = true := wide_B ((S b (by omega)).mono (by decide)) ((S b (by omega)).mono (by decide))
  have w2 : wideM 4 a = true := wide_B ((S 4 (by decide)).mono (by decide)) ((S a (by omega)).mono (by decide))
  have w3 : wideD (4 * a) = true := wideD_B (by omega) ((S (4 * a) (by omega)).mono (by decide))
  have p4 : decide (0 < 4 * a) = true := decide_eq_true (by omega)
  have bc : Bd 3000 ((b * b - n) / (4 * a)) := div_bd (S (b * b - n) (by omega))
  have e1 := lis_form_ok (h := h ++ [acc]) (S a (by omega)) (S b (by omega)) bc
  have e2 := lis_reduced_ok (a := a) (b := b) (c := (b * b - n) / (4 * a)) (h := h ++ [acc])
  have hl' : acc.length < 16777216 := by omega
  unfold okT it
  by_cases z : (b * b - n) % (4 * a) = 0
  · generalize hC : (b * b - n) / (4 * a) = C at bc e1 e2 ⊢
    generalize decide (isF a b C) = k1 at e1 ⊢
    generalize decide (red a b C) = k2 at e2 ⊢
    refine ⟨some (T3 a b C), ?_⟩
    cases k1 <;> cases k2 <;> simp [clI, mFun, line, mSeq, mAsg, mRet, mRetN, mDrop, mIfS, mTBin, mBin, mVar, mC, mCons, mNil, mTup, mLst, mLstC, mCB, mCall, mCallK, mIf, mAndV, mOrV, mNotV, mAnd, mOr, mNot, mTru, mUn, mChain, tB', mNx, mNev, mFor, mForL, mWhile, mComp, mCompL, mYes, gN, gT, gsCons, gsNil, gSubD, mApp, mPar, mPar3, mAugI, mSl, mSo, mNo, iR1, iR2, iR3, iS, iEn, iL, iT, asB, asL, asT, asLT, asInt, oB, oAdd, oSub, oMulA, oMul, oDiv, oMod, oPow, oNeg, cI, oEq, oNe, oIx, asSeq, oInt, oAbs, oLen, oMax2, oMin2, oDivmod, oIsi, tyD, okCell, truthD, mFrz, Option.bind_some, Option.map_some, Option.bind_none, Option.map_none, cond_true, cond_false, List.map_cons, List.map_nil, List.cons_append, List.nil_append, List.getElem?_cons_zero, List.getElem?_cons_succ, List.set_cons_zero, List.set_cons_succ, List.length_cons, List.length_nil, List.replicate , w1, w2, w3, p4, z, e1, e2, gl, sl, hl', hC]
  · refine ⟨x4, ?_⟩
    simp [clI, mFun, line, mSeq, mAsg, mRet, mRetN, mDrop, mIfS, mTBin, mBin, mVar, mC, mCons, mNil, mTup, mLst, mLstC, mCB, mCall, mCallK, mIf, mAndV, mOrV, mNotV, mAnd, mOr, mNot, mTru, mUn, mChain, tB', mNx, mNev, mFor, mForL, mWhile, mComp, mCompL, mYes, gN, gT, gsCons, gsNil, gSubD, mApp, mPar, mPar3, mAugI, mSl, mSo, mNo, iR1, iR2, iR3, iS, iEn, iL, iT, asB, asL, asT, asLT, asInt, oB, oAdd, oSub, oMulA, oMul, oDiv, oMod, oPow, oNeg, cI, oEq, oNe, oIx, asSeq, oInt, oAbs, oLen, oMax2, oMin2, oDivmod, oIsi, tyD, okCell, truthD, mFrz, Option.bind_some, Option.map_some, Option.bind_none, Option.map_none, cond_true, cond_false, List.map_cons, List.map_nil, List.cons_append, List.nil_append, List.getElem?_cons_zero, List.getElem?_cons_succ, List.set_cons_zero, List.set_cons_succ, List.length_cons, List.length_nil, List.replicate , w1, w2, w3, p4, z]
def row (n a : Int) (bs : List Int) : List D := (bs.filter (okT n a)).map (it n a)
theorem cl_inner {h : Cells} {n a : Int} (hn : -400 ≤ n ∧ n < 0) (ha : 0 < a) (ha2 : a ≤ 12) : ∀ (bs : List Int) (acc : List D) (x3 x4 : Option D), (∀ b ∈ bs, b.natAbs ≤ 12) → acc.length + bs.length < 100000 →
    ∃ y3 y4, mForL (gN 3) clI (bs.map D.int) ⟨[some (.int n), some (.cell h.length), some (.int a), x3, x4], h ++ [acc]⟩ = some (.nx, ⟨[some (.int n), some (.cell h.length), some (.int a), y3, y4], h ++ [acc ++ row n a bs]⟩)
  | [], acc, x3, x4, _, _ => ⟨x3, x4, by simp [mForL, row]⟩
  | b :: bs, acc, x3, x4, hb, hl => by
    simp only [List.length_cons] at hl
    obtain ⟨y4, e⟩ := cl_step (h := h) (x4 := x4) (acc := acc) hn ha ha2 (hb b List.mem_cons_self) (by omega)
    obtain ⟨z3, z4, e2⟩ := cl_inner hn ha ha2 bs (acc ++ (if okT n a b then [it n a b] else [])) (some (.int b)) y4 (fun x hx => hb x (List.mem_cons_of_mem _ hx)) (by split <;> simp <;> omega)
    refine ⟨z3, z4, ?_⟩
    have r : acc ++ row n a (b :: bs) = acc ++ (if okT n a b then [it n a b] else []) ++ row n a bs := by
      unfold row
      by_cases z : okT n a b = true
      · simp [z]
      · simp [z]
    rw [r, ← e2]
    show (clI ⟨[some (.int n), some (.cell h.length), some (.int a), some (.int b), x4], h ++ [acc]⟩).bind _ = _
    rw [e]; rfl
def bsOf (a : Int) : List Int := (List.range (2 * a.toNat + 1)).map fun (i : Nat) => -a + (i : Int)
theorem bsOf_eq {a : Int} (ha : 0 < a) : intsD (0 - a) (a + 1 - (0 - a)).toNat = (bsOf a).map D.int := by
  have e : (a + 1 - (0 - a)).toNat = 2 * a.toNat + 1 := by omega
  rw [e]
  simp [intsD, bsOf]
theorem mem_bsOf {a b : Int} (ha : 0 < a) : b ∈ bsOf a ↔ -a ≤ b ∧ b ≤ a := by
  unfold bsOf
  simp only [List.mem_map, List.mem_range]
  exact ⟨fun ⟨i, h1, h2⟩ => by omega, fun h => ⟨(b + a).toNat, by omega, by omega⟩⟩
theorem row_len (n a : Int) (bs : List Int) : (row n a bs).length ≤ bs.length := by
  unfold row; rw [List.length_map]; exact List.length_filter_le _ _
def rows (n : Int) (as : List Int) : List D := as.flatMap fun a => row n a (bsOf a)
theorem iR2_eq {f : MA} {ms : MS} {i j : Int} {h : Cells} (e1 : f ms = some ([.int i, .int j], h)) (b1 : big62 i = true) (b2 : big62 j = true) : iR2 f ms = some (intsD i (j - i).toNat, h) := by
  unfold iR2
  rw [e1]
  simp only [Option.bind_some, b1, b2, Bool.and_true, cond_true]
theorem for_iR2 {f : MA} {g : MG} {b : MB} {s : List (Option D)} {h1 : Cells} {i j : Int} {r : Option (Out × MS)} (e1 : f ⟨s, h1⟩ = some ([.int i, .int j], h1)) (b1 : big62 i = true) (b2 : big62 j = true) (e : mForL g b (intsD i (j - i).toNat) ⟨s, h1⟩ = r) : mFor (iR2 f) g b ⟨s, h1⟩ = r := by
  unfold mFor
  rw [iR2_eq e1 b1 b2]
  exact e
theorem cl_outer {h : Cells} {n : Int} (hn : -400 ≤ n ∧ n < 0) : ∀ (as : List Int) (acc : List D) (x2 x3 x4 : Option D), (∀ a ∈ as, 0 < a ∧ a ≤ 12) → acc.length + 30 * as.length < 90000 →
    ∃ y2 y3 y4, mForL (gN 2) clO (as.map D.int) ⟨[some (.int n), some (.cell h.length), x2, x3, x4], h ++ [acc]⟩ = some (.nx, ⟨[some (.int n), some (.cell h.length), y2, y3, y4], h ++ [acc ++ rows n as]⟩)
  | [], acc, x2, x3, x4, _, _ => ⟨x2, x3, x4, by simp [mForL, rows]⟩
  | a :: as, acc, x2, x3, x4, ha, hl => by
    simp only [List.length_cons] at hl
    obtain ⟨a0, a1⟩ := ha a List.mem_cons_self
    have bl : (bsOf a).length = 2 * a.toNat + 1 := by simp [bsOf]
    have rl := row_len n a (bsOf a)
    obtain ⟨y3, y4, e⟩ := cl_inner (h := h) hn a0 a1 (bsOf a) acc x3 x4 (fun b hb => by have := (mem_bsOf a0).mp hb; omega) (by omega)
    obtain ⟨z2, z3, z4, e2⟩ := cl_outer (h := h) hn as (acc ++ row n a (bsOf a)) (some (.int a)) y3 y4 (fun x hx => ha x (List.mem_cons_of_mem _ hx)) (by rw [List.length_append]; omega)
    refine ⟨z2, z3, z4, ?_⟩
    have r : acc ++ rows n (a :: as) = acc ++ row n a (bsOf a) ++ rows n as := by simp [rows]
    have st : clO ⟨[some (.int n), some (.cell h.length), some (.int a), x3, x4], h ++ [acc]⟩ = some (.nx, ⟨[some (.int n), some (.cell h.length), some (.int a), y3, y4], h ++ [acc ++ row n a (bsOf a)]⟩) := by
      have b1 : big62 (0 - a) = true := decide_eq_true (by omega)
      have b2 : big62 (a + 1) = true := decide_eq_true (by omega)
      rw [← bsOf_eq a0] at e
      exact for_iR2 rfl b1 b2 e
    rw [r, ← e2]
    show (clO ⟨[some (.int n), some (.cell h.length), some (.int a), x3, x4], h ++ [acc]⟩).bind _ = _
    rw [st]; rfl
end Law

set_option Elab.async false
set_option linter.all false
set_option maxRecDepth 100000
set_option maxHeartbeats 4000000
namespace Law
open PySem L2 Zm
abbrev clF : MB := (mFor (iR2 (mCons (mC (.int 1)) (mCons (mBin oAdd (mCall 1 F__law_root (mCons (mBin oDiv (mBin oSub (mC (.int 0)) (mVar 0)) (mC (.int 3))) mNil)) (mC (.int 1))) mNil))) (gN 2) clO)
theorem b_cl2_eq : b__law_classes = (mSeq (mAsg (mLstC mNil) (gN 1))
    (mSeq clF
    (mRet (mVar 1)))) := rfl
def asOf (n : Int) : List Int := (List.range (rt (-n / 3).toNat).toNat).map fun (i : Nat) => 1 + (i : Int)
def cls (n : Int) : List D := rows n (asOf n)
theorem mem_rows {n : Int} {as : List Int} {x : D} : x ∈ rows n as ↔ ∃ a b, a ∈ as ∧ b ∈ bsOf a ∧ okT n a b = true ∧ x = it n a b := by
  unfold rows row
  simp only [List.mem_flatMap, List.mem_map, List.mem_filter]
  constructor
  · rintro ⟨a, h1, b, ⟨h2, h3⟩, rfl⟩; exact ⟨a, b, h1, h2, h3, rfl⟩
  · rintro ⟨a, b, h1, h2, h3, rfl⟩; exact ⟨a, h1, b, ⟨h2, h3⟩, rfl⟩
theorem cleans_of : ∀ l : List D, (∀ x ∈ l, clean x = true) → cleans l = true
  | [], _ => rfl
  | x :: r, h => by simp [cleans, h x List.mem_cons_self, cleans_of r fun y hy => h y (List.mem_cons_of_mem _ hy)]
theorem cls_clean (n : Int) : cleans (cls n) = true := by
  refine cleans_of _ fun x hx => ?_
  obtain ⟨a, b, _, _, _, rfl⟩ := mem_rows.mp hx
  unfold it
  simp [clean, cleans]
theorem rt_at {n : Int} (hn : okD n) : 0 ≤ rt (-n / 3).toNat ∧ rt (-n / 3).toNat ≤ 12 ∧ -n / 3 < (rt (-n / 3).toNat + 1) * (rt (-n / 3).toNat + 1) := by
  have h1 := hn.1; have h2 := hn.2.1
  obtain ⟨x, y, z⟩ := rt_sq (-n / 3).toNat (List.mem_range.mpr (by omega))
  rw [Int.toNat_of_nonneg (by omega)] at z
  exact ⟨x, y, z⟩
theorem mem_asOf {n a : Int} (hn : okD n) : a ∈ asOf n ↔ 1 ≤ a ∧ a ≤ rt (-n / 3).toNat := by
  obtain ⟨r0, r1, _⟩ := rt_at hn
  unfold asOf
  simp only [List.mem_map, List.mem_range]
  exact ⟨fun ⟨i, h1, h2⟩ => by omega, fun h => ⟨(a - 1).toNat, by omega, by omega⟩⟩
theorem classes_ok {n : Int} {h : Cells} (hc : ∀ ds ∈ h, cleans ds = true) (hn : okD n) : F__law_classes [.int n] h = some (.lst (cls n), h) := by
  have h1 := hn.1; have h2 := hn.2.1
  obtain ⟨r0, r1, _⟩ := rt_at hn
  have rk := root_ok (m := -n / 3) (h := h ++ [[]]) (by omega) (by omega)
  have w3 : wideD 3 = true := divS (by decide) (by decide)
  obtain ⟨y2, y3, y4, e⟩ := cl_outer (h := h) (n := n) ⟨h1, by omega⟩ (asOf n) [] none none none (fun a ha => by have := (mem_asOf hn).mp ha; omega) (by simp [asOf]; omega)
  have ei : intsD 1 (rt (-n / 3).toNat + 1 - 1).toNat = (asOf n).map D.int := by
    have : (rt (-n / 3).toNat + 1 - 1).toNat = (rt (-n / 3).toNat).toNat := by omega
    rw [this]
    simp [intsD, asOf]
  rw [← ei] at e
  have ea : ((mCons (mC (.int 1)) (mCons (mBin oAdd (mCall 1 F__law_root (mCons (mBin oDiv (mBin oSub (mC (.int 0)) (mVar 0)) (mC (.int 3))) mNil)) (mC (.int 1))) mNil))) ⟨[some (.int n), some (.cell h.length), none, none, none], h ++ [[]]⟩ = some ([.int 1, .int (rt (-n / 3).toNat + 1)], h ++ [[]]) := by
    simp [mCons, mNil, mBin, mC, mVar, mCall, oSub, oDiv, oAdd, w3, rk]
  have b1 : big62 1 = true := by decide
  have b2 : big62 (rt (-n / 3).toNat + 1) = true := decide_eq_true (by omega)
  have f : clF ⟨[some (.int n), some (.cell h.length), none, none, none], h ++ [[]]⟩ = some (.nx, ⟨[some (.int n), some (.cell h.length), y2, y3, y4], h ++ [cls n]⟩) := for_iR2 ea b1 b2 e
  have hh : h.all cleans = true := List.all_eq_true.mpr hc
  have cx := cls_clean n
  unfold F__law_classes
  rw [b_cl2_eq]
  generalize clF = FF at f ⊢
  generalize cls n = L at f cx ⊢
  simp [mFun, line, mSeq, mAsg, mRet, mRetN, mDrop, mIfS, mTBin, mBin, mVar, mC, mCons, mNil, mTup, mLst, mLstC, mCB, mCall, mCallK, mIf, mAndV, mOrV, mNotV, mAnd, mOr, mNot, mTru, mUn, mChain, tB', mNx, mNev, mFor, mForL, mWhile, mComp, mCompL, mYes, gN, gT, gsCons, gsNil, gSubD, mApp, mPar, mPar3, mAugI, mSl, mSo, mNo, iR1, iR2, iR3, iS, iEn, iL, iT, asB, asL, asT, asLT, asInt, oB, oAdd, oSub, oMulA, oMul, oDiv, oMod, oPow, oNeg, cI, oEq, oNe, oIx, asSeq, oInt, oAbs, oLen, oMax2, oMin2, oDivmod, oIsi, tyD, okCell, truthD, mFrz, Option.bind_some, Option.map_some, Option.bind_none, Option.map_none, cond_true, cond_false, List.map_cons, List.map_nil, List.cons_append, List.nil_append, List.getElem?_cons_zero, List.getElem?_cons_succ, List.set_cons_zero, List.set_cons_succ, List.length_cons, List.length_nil, List.replicate , f, gl, sl, frzD, hh, cx]
theorem cls_some : ∀ n ∈ allD, (cls n).isEmpty = false := by decide +kernel
/-- what stands in the list -/
theorem cls_mem {n : Int} (hn : okD n) {x : D} (hx : x ∈ cls n) : ∃ a b c, x = T3 a b c ∧ isF a b c ∧ b * b - 4 * a * c = n ∧ Base a b c ∧ Bd 10 a ∧ Bd 10 b ∧ Bd 10 c := by
  obtain ⟨a, b, ha, hb, ok, rfl⟩ := mem_rows.mp hx
  have a1 := (mem_asOf hn).mp ha
  have b1 := (mem_bsOf (by omega)).mp hb
  obtain ⟨r0, r1, _⟩ := rt_at hn
  have h1 := hn.1; have h2 := hn.2.1
  unfold okT at ok
  simp only [Bool.and_eq_true, decide_eq_true_eq] at ok
  obtain ⟨o1, o2, o3⟩ := ok
  have dv : b * b - n = 4 * a * ((b * b - n) / (4 * a)) := by
    have := Int.mul_ediv_add_emod (b * b - n) (4 * a); omega
  have sb : b * b ≤ 144 := by
    have e : ((b.natAbs * b.natAbs : Nat) : Int) = b * b := by rw [Int.natCast_mul]; exact Int.natAbs_mul_self' b
    have := Nat.mul_le_mul (show b.natAbs ≤ 12 by omega) (show b.natAbs ≤ 12 by omega)
    omega
  have sb0 := sq_nn b
  have cb : ((b * b - n) / (4 * a)).natAbs ≤ 544 := by
    have := Int.natAbs_ediv_le_natAbs (b * b - n) (4 * a); omega
  unfold it
  generalize (b * b - n) / (4 * a) = c at *
  have ba : Bd 10 a := by show a.natAbs < 1024; omega
  have bb : Bd 10 b := by show b.natAbs < 1024; omega
  have bc : Bd 10 c := by show c.natAbs < 1024; omega
  exact ⟨a, b, c, rfl, o2, by omega, ⟨by omega, by omega, by omega, ba.mono (by decide), bb.mono (by decide), bc.mono (by decide)⟩, ba, bb, bc⟩
theorem mem_cls {n a b c : Int} (hn : okD n) (hf : isF a b c) (hr : red a b c) (hd : b * b - 4 * a * c = n) : T3 a b c ∈ cls n := by
  obtain ⟨r0, r1, r2⟩ := rt_at hn
  have h1 := hn.1; have h2 := hn.2.1
  have a0 := hf.1
  obtain ⟨q1, q2, q3, _⟩ := hr
  have dd : b * b - n = 4 * a * c := by omega
  have c1 : (b * b - n) / (4 * a) = c := by rw [dd]; exact Int.mul_ediv_cancel_left _ (by omega)
  have c2 : (b * b - n) % (4 * a) = 0 := by rw [dd]; exact Int.mul_emod_right _ _
  have sb : b * b ≤ a * a := by
    have e : ((b.natAbs * b.natAbs : Nat) : Int) = b * b := by rw [Int.natCast_mul]; exact Int.natAbs_mul_self' b
    have e2 : ((a.natAbs * a.natAbs : Nat) : Int) = a * a := by rw [Int.natCast_mul]; exact Int.natAbs_mul_self' a
    have := Nat.mul_le_mul (show b.natAbs ≤ a.natAbs by omega) (show b.natAbs ≤ a.natAbs by omega)
    omega
  have ac : a * a ≤ a * c := Int.mul_le_mul_of_nonneg_left q3 (by omega)
  have e4 : 4 * a * c = 4 * (a * c) := Int.mul_assoc 4 a c
  have a3 : a * a ≤ -n / 3 := by omega
  have al : a ≤ rt (-n / 3).toNat := by
    by_cases z : a ≤ rt (-n / 3).toNat
    · exact z
    · have := Int.mul_le_mul (show rt (-n / 3).toNat + 1 ≤ a by omega) (show rt (-n / 3).toNat + 1 ≤ a by omega) (by omega) (by omega)
      omega
  refine mem_rows.mpr ⟨a, b, (mem_asOf hn).mpr ⟨by omega, al⟩, (mem_bsOf a0).mpr ⟨q1, q2⟩, ?_, ?_⟩
  · unfold okT
    rw [c1, c2, decide_eq_true hf, decide_eq_true (show red a b c from ⟨q1, q2, q3, by assumption⟩)]
    rfl
  · unfold it; rw [c1]
/-! the greatest common divisor is kept -/
theorem dvd_g3 {g : Int} {a b c : Int} (h1 : g ∣ a) (h2 : g ∣ b) (h3 : g ∣ c) : g.natAbs ∣ g3 a b c := by
  unfold g3
  exact Nat.dvd_gcd (Nat.dvd_gcd (Int.natAbs_dvd_natAbs.mpr h1) (Int.natAbs_dvd_natAbs.mpr h2)) (Int.natAbs_dvd_natAbs.mpr h3)
theorem g3_dvd (a b c : Int) : ((g3 a b c : Nat) : Int) ∣ a ∧ ((g3 a b c : Nat) : Int) ∣ b ∧ ((g3 a b c : Nat) : Int) ∣ c := by
  unfold g3
  have d1 := Nat.gcd_dvd_left (a.natAbs.gcd b.natAbs) c.natAbs
  have d2 := Nat.gcd_dvd_right (a.natAbs.gcd b.natAbs) c.natAbs
  exact ⟨Int.ofNat_dvd_left.mpr (Nat.dvd_trans d1 (Nat.gcd_dvd_left _ _)), Int.ofNat_dvd_left.mpr (Nat.dvd_trans d1 (Nat.gcd_dvd_right _ _)), Int.ofNat_dvd_left.mpr d2⟩
theorem dvd_vl {g a b c x y : Int} (h1 : g ∣ a) (h2 : g ∣ b) (h3 : g ∣ c) : g ∣ vl a b c x y := by
  unfold vl
  rw [Int.mul_assoc, Int.mul_assoc, Int.mul_assoc]
  exact Int.dvd_add (Int.dvd_add (Int.dvd_mul_of_dvd_left h1) (Int.dvd_mul_of_dvd_left h2)) (Int.dvd_mul_of_dvd_left h3)
theorem dvd_md {g a b c p q r s : Int} (h1 : g ∣ a) (h2 : g ∣ b) (h3 : g ∣ c) : g ∣ md a b c p q r s := by
  have e : md a b c p q r s = a * (2 * p * q) + b * (p * s + q * r) + c * (2 * r * s) := by unfold md; grind
  rw [e]
  exact Int.dvd_add (Int.dvd_add (Int.dvd_mul_of_dvd_left h1) (Int.dvd_mul_of_dvd_left h2)) (Int.dvd_mul_of_dvd_left h3)
theorem Inv.inv {A B C a b c p q r s : Int} (i : Inv A B C a b c p q r s) : Inv a b c A B C s (-q) (-r) p := by
  have j := (Inv.one a b c).back (Inv.mk i.ea i.eb i.ec i.dt)
  have e1 : (1 : Int) * s + 0 * -r = s := by omega
  have e2 : (1 : Int) * -q + 0 * p = -q := by omega
  have e3 : (0 : Int) * s + 1 * -r = -r := by omega
  have e4 : (0 : Int) * -q + 1 * p = p := by omega
  rw [e1, e2, e3, e4] at j
  exact j
theorem Inv.pos {A B C a b c p q r s : Int} (i : Inv A B C a b c p q r s) (hA : 0 < A) (hd : 1 ≤ 4 * A * C - B * B) : 0 < a := by
  have h := posA A B C p r
  rw [i.ea] at h
  have s1 := sq_nn (2 * A * p + B * r)
  have s2 := sq_nn r
  by_cases z : r = 0
  · subst z
    have d := i.dt
    have p0 : p ≠ 0 := by rintro rfl; omega
    have e := i.ea
    unfold vl at e
    have pp : 0 < p * p := by
      have := sq_nn p
      by_cases y : p * p = 0
      · exact absurd ((Int.mul_eq_zero.mp y).elim id id) p0
      · omega
    have := Int.mul_pos hA pp
    rw [Int.mul_assoc] at e
    omega
  · have rr : 1 ≤ r * r := by
      by_cases y : r * r = 0
      · exact absurd ((Int.mul_eq_zero.mp y).elim id id) z
      · omega
    have m := Int.mul_le_mul hd rr (by omega) (by omega)
    have : 0 < 4 * A * a := by omega
    by_cases y : 0 < a
    · exact y
    · have := Int.mul_le_mul_of_nonneg_left (show a ≤ 0 by omega) (show 0 ≤ 4 * A by omega)
      omega
theorem Inv.isF {A B C a b c p q r s : Int} (i : Inv A B C a b c p q r s) (hf : isF A B C) (ha : 0 < a) : Law.isF a b c := by
  refine ⟨ha, ?_, by rw [i.disc]; exact hf.2.2⟩
  obtain ⟨d1, d2, d3⟩ := g3_dvd a b c
  have j := i.inv
  have e1 : ((g3 a b c : Nat) : Int) ∣ A := by rw [← j.ea]; exact dvd_vl d1 d2 d3
  have e2 : ((g3 a b c : Nat) : Int) ∣ B := by rw [← j.eb]; exact dvd_md d1 d2 d3
  have e3 : ((g3 a b c : Nat) : Int) ∣ C := by rw [← j.ec]; exact dvd_vl d1 d2 d3
  have := dvd_g3 e1 e2 e3
  rw [hf.2.1, Int.natAbs_natCast] at this
  exact Nat.dvd_one.mp this
end Law

set_option Elab.async false
set_option linter.all false
set_option maxRecDepth 100000
set_option maxHeartbeats 4000000
namespace Law
open PySem L2 Zm
/-! forms of the law -/
structure Gd (n a b c : Int) : Prop where
  f : isF a b c
  d : b * b - 4 * a * c = n
  k : Bd 800 a ∧ Bd 800 b ∧ Bd 800 c
theorem Gd.base {n a b c : Int} (hn : okD n) (g : Gd n a b c) : Base a b c := by
  have h1 := hn.1; have h2 := hn.2.1; have h3 := g.d
  exact ⟨g.f.1, by omega, by omega, g.k.1, g.k.2.1, g.k.2.2⟩
theorem led_gd {n a b c p q r s : Int} {k : Nat} (hn : okD n) (g : isF a b c) (gd : b * b - 4 * a * c = n) (ka : Bd k a) (kb : Bd k b) (kc : Bd k c) (hp : Bd 190 p) (hq : Bd 190 q) (hr : Bd 190 r) (hs : Bd 190 s) (d : p * s - q * r = 1) (hk : k + 390 ≤ 800) (hk2 : 5 ≤ k) :
    Gd n (vl a b c p r) (md a b c p q r s) (vl a b c q s) ∧ Bd (k + 390) (vl a b c p r) ∧ Bd (k + 390) (md a b c p q r s) ∧ Bd (k + 390) (vl a b c q s) := by
  have i : Inv a b c (vl a b c p r) (md a b c p q r s) (vl a b c q s) p q r s := ⟨rfl, rfl, rfl, d⟩
  have h1 := hn.1; have h2 := hn.2.1
  have V : ∀ {x y : Int}, Bd 190 x → Bd 190 y → Bd (k + 390) (vl a b c x y) := fun hx hy => by
    unfold vl
    exact (((((ka.mul hx).mul hx).add ((kb.mul hx).mul hy))).add (((kc.mul hy).mul hy).mono (by omega))).mono (by omega)
  have t : Bd 2 (2 : Int) := .two (by decide)
  have Md : Bd (k + 390) (md a b c p q r s) := by
    unfold md
    have m1 : Bd (k + 383) (2 * a * p * q) := (((t.mul ka).mul hp).mul hq).mono (by omega)
    have m2 : Bd (k + 383) (b * (p * s + q * r)) := (kb.mul ((hp.mul hs).add (hq.mul hr))).mono (by omega)
    have m3 : Bd (k + 384) (2 * c * r * s) := (((t.mul kc).mul hr).mul hs).mono (by omega)
    exact ((m1.add m2).add m3).mono (by omega)
  have v1 := V hp hr
  have v2 := V hq hs
  exact ⟨⟨i.isF g (i.pos g.1 (by omega)), by rw [i.disc]; exact gd, v1.mono (by omega), Md.mono (by omega), v2.mono (by omega)⟩, v1, Md, v2⟩
theorem opp_gd {n a b c : Int} (g : Gd n a b c) : Gd n a (-b) c := by
  obtain ⟨⟨f1, f2, f3⟩, d, k1, k2, k3⟩ := g
  have e : -b * -b = b * b := Int.neg_mul_neg b b
  refine ⟨⟨f1, ?_, by rw [e]; exact f3⟩, by rw [e]; exact d, k1, k2.neg, k3⟩
  unfold g3 at f2 ⊢
  rw [Int.natAbs_neg]; exact f2
def fi (n : Int) : Int × Int × Int := if n % 4 = 0 then (1, 0, -n / 4) else (1, 1, (1 - n) / 4)
theorem fi_all : ∀ n ∈ allD, isF (fi n).1 (fi n).2.1 (fi n).2.2 ∧ (fi n).2.1 * (fi n).2.1 - 4 * (fi n).1 * (fi n).2.2 = n ∧ (fi n).1.natAbs < 1024 ∧ (fi n).2.1.natAbs < 1024 ∧ (fi n).2.2.natAbs < 1024 := by decide +kernel
theorem fi_gd {n : Int} (hn : okD n) : Gd n (fi n).1 (fi n).2.1 (fi n).2.2 := by
  obtain ⟨f, d, k1, k2, k3⟩ := fi_all n (mem_allD hn)
  have L : ∀ {x : Int}, x.natAbs < 1024 → Bd 800 x := fun h => Bd.mono (k := 10) h (by decide)
  exact ⟨f, d, L k1, L k2, L k3⟩
/-! the reduced form -/
theorem RD_red {n a b c : Int} (hn : okD n) (g : Gd n a b c) : T3 (RD a b c).1 (RD a b c).2.1 (RD a b c).2.2 ∈ cls n ∧ red (RD a b c).1 (RD a b c).2.1 (RD a b c).2.2 := by
  have H := g.base hn
  have hd := g.d
  have hlo := H.hi
  obtain ⟨x, y, z, e, r, ct, _⟩ := go_red (dd := b * b - 4 * a * c) (by omega) (a.toNat + 2) _ _ _ (Ctr.start H.a0 rfl) (by have := H.a0; omega)
  obtain ⟨x', y', z', p, q, r', s, _, e', i, _, _⟩ := reduction_ok H (h := [])
  have ee : RD a b c = (x, y, z) := e
  rw [ee] at e'
  cases e'
  rw [ee]
  exact ⟨mem_cls hn (i.isF g.f ct.a0) r (by rw [ct.di]; exact hd), r⟩
/-! texts of small forms -/
end Law

set_option Elab.async false
set_option linter.all false
set_option maxRecDepth 100000
set_option maxHeartbeats 4000000
namespace Law
open PySem L2 Zm
/-! small numbers -/
def sm (x : Int) : Bool := decide (x.natAbs < 1073741824)
theorem sm_nat {x : Int} (h : sm x = true) : x.natAbs < 1073741824 := of_decide_eq_true h
theorem sm_bd {x : Int} (h : sm x = true) : Bd 30 x := Nat.lt_of_lt_of_le (sm_nat h) (by decide)
theorem sm_wide {x y : Int} (h : sm x = true) (g : sm y = true) : wideM x y = true := wide_B ((sm_bd h).mono (by decide)) ((sm_bd g).mono (by decide))
theorem iR1_eq {f : MA} {ms : MS} {j : Int} {h : Cells} (e1 : f ms = some ([.int j], h)) (e2 : big62 j = true) : iR1 f ms = some (intsD 0 j.toNat, h) := by
  unfold iR1
  rw [e1]
  simp only [Option.bind_some, e2, cond_true]
theorem for_iR1 {f : MA} {g : MG} {b : MB} {s : List (Option D)} {h0 h1 : Cells} {j : Int} {r : Option (Out × MS)} (e1 : f ⟨s, h0⟩ = some ([.int j], h1)) (e2 : big62 j = true) (e : mForL g b (intsD 0 j.toNat) ⟨s, h1⟩ = r) : mFor (iR1 f) g b ⟨s, h0⟩ = r := by
  unfold mFor
  rw [iR1_eq e1 e2]
  exact e
theorem seq_nx {a b : MB} {m m' : MS} (h : a m = some (.nx, m')) : mSeq a b m = b m' := by unfold mSeq; rw [h]; rfl
theorem while_go {c : MT} {b : MB} {f : Nat} {ms ms' : MS} {h : Cells} (e1 : c ms = some (true, h)) (e2 : b { ms with h := h } = some (.nx, ms')) : mWhileL c b (f + 1) ms = mWhileL c b f ms' := by
  rw [mWhileL, e1]
  simp only [Option.bind_some, cond_true, e2]
theorem while_no {c : MT} {b : MB} {f : Nat} {ms : MS} {h : Cells} (e1 : c ms = some (false, h)) : mWhileL c b (f + 1) ms = some (.nx, { ms with h := h }) := by
  rw [mWhileL, e1]
  simp only [Option.bind_some, cond_false]
/-! bezout -/
abbrev bzC : MT := (mTBin cGt (mVar 1) (mC (.int 0)))
abbrev bzB : MB := (mSeq (mAsg (mCB oDivmod (mCons (mVar 0) (mCons (mVar 1) mNil))) (gT 2 (gsCons (gN 6) (gsCons (gN 7) gsNil))))
    (mSeq (mPar 0 1 (mCons (mVar 1) (mCons (mVar 7) mNil)))
    (mAsg (mTup (mCons (mVar 4) (mCons (mVar 5) (mCons (mBin oSub (mVar 2) (mBin oMulA (mVar 6) (mVar 4))) (mCons (mBin oSub (mVar 3) (mBin oMulA (mVar 6) (mVar 5))) mNil))))) (gT 4 (gsCons (gN 2) (gsCons (gN 3) (gsCons (gN 4) (gsCons (gN 5) gsNil))))))))
theorem b_bz_eq : b_bezout = (mSeq (mAsg (mTup (mCons (mC (.int 1)) (mCons (mC (.int 0)) (mCons (mC (.int 0)) (mCons (mC (.int 1)) mNil))))) (gT 4 (gsCons (gN 2) (gsCons (gN 3) (gsCons (gN 4) (gsCons (gN 5) gsNil))))))
    (mSeq (mWhile (fun ms => slI ms 1 + 1) bzC bzB)
    (mRet (mTup (mCons (mVar 2) (mCons (mVar 3) mNil)))))) := rfl
def bezO : Nat → Int → Int → Int → Int → Int → Int → Option (Int × Int)
  | 0, _, _, _, _, _, _ => none
  | f + 1, n, o, s, t, u, v => if 0 < o then (bif sm n && (sm o && (sm (n / o) && (sm u && sm v))) then bezO f o (n % o) u v (s - n / o * u) (t - n / o * v) else none) else some (s, t)
theorem bez_loop {h : Cells} : ∀ (f : Nat) (n o s t u v : Int) (a6 a7 : Option D) (r : Int × Int), bezO f n o s t u v = some r → ∃ b0 b1 b4 b5 b6 b7, mWhileL bzC bzB f ⟨[some (.int n), some (.int o), some (.int s), some (.int t), some (.int u), some (.int v), a6, a7], h⟩ = some (.nx, ⟨[b0, b1, some (.int r.1), some (.int r.2), b4, b5, b6, b7], h⟩)
  | 0, _, _, _, _, _, _, _, _, _, e => by cases e
  | f + 1, n, o, s, t, u, v, a6, a7, r, e => by
    unfold bezO at e
    have et : bzC ⟨[some (.int n), some (.int o), some (.int s), some (.int t), some (.int u), some (.int v), a6, a7], h⟩ = some (decide (0 < o), h) := by
      simp [bzC, mFun, line, mSeq, mAsg, mRet, mRetN, mDrop, mIfS, mTBin, mBin, mVar, mC, mCons, mNil, mTup, mLst, mLstC, mCB, mCall, mCallK, mIf, mAndV, mOrV, mNotV, mAnd, mOr, mNot, mTru, mUn, mChain, tB', mNx, mNev, mFor, mForL, mWhile, mComp, mCompL, mYes, gN, gT, gsCons, gsNil, gSubD, mApp, mPar, mPar3, mAugI, mSl, mSo, mNo, iR1, iR2, iR3, iS, iEn, iL, iT, asB, asL, asT, asLT, asInt, oB, oAdd, oSub, oMulA, oMul, oDiv, oMod, oPow, oNeg, cI, oEq, oNe, oIx, asSeq, oInt, oAbs, oLen, oMax2, oMin2, oDivmod, oIsi, tyD, okCell, truthD, mFrz, Option.bind_some, Option.map_some, Option.bind_none, Option.map_none, cond_true, cond_false, List.map_cons, List.map_nil, List.cons_append, List.nil_append, List.getElem?_cons_zero, List.getElem?_cons_succ, List.set_cons_zero, List.set_cons_succ, List.length_cons, List.length_nil, List.replicate ]
    by_cases ho : 0 < o
    · rw [if_pos ho] at e
      rw [decide_eq_true ho] at et
      cases hs : sm n && (sm o && (sm (n / o) && (sm u && sm v))) with
      | false => rw [hs] at e; cases e
      | true =>
        rw [hs, cond_true] at e
        simp only [Bool.and_eq_true] at hs
        obtain ⟨h1, h2, h3, h4, h5⟩ := hs
        have w1 := sm_wide h3 h4
        have w2 := sm_wide h3 h5
        have dm : dmOk n o = true := by
          unfold dmOk
          have lt : o < 1073741824 := by have := sm_nat h2; omega
          rw [decide_eq_true ho, decide_eq_true lt]
          rfl
        have eb : bzB ⟨[some (.int n), some (.int o), some (.int s), some (.int t), some (.int u), some (.int v), a6, a7], h⟩ = some (.nx, ⟨[some (.int o), some (.int (n % o)), some (.int u), some (.int v), some (.int (s - n / o * u)), some (.int (t - n / o * v)), some (.int (n / o)), some (.int (n % o))], h⟩) := by
          simp [bzB, mFun, line, mSeq, mAsg, mRet, mRetN, mDrop, mIfS, mTBin, mBin, mVar, mC, mCons, mNil, mTup, mLst, mLstC, mCB, mCall, mCallK, mIf, mAndV, mOrV, mNotV, mAnd, mOr, mNot, mTru, mUn, mChain, tB', mNx, mNev, mFor, mForL, mWhile, mComp, mCompL, mYes, gN, gT, gsCons, gsNil, gSubD, mApp, mPar, mPar3, mAugI, mSl, mSo, mNo, iR1, iR2, iR3, iS, iEn, iL, iT, asB, asL, asT, asLT, asInt, oB, oAdd, oSub, oMulA, oMul, oDiv, oMod, oPow, oNeg, cI, oEq, oNe, oIx, asSeq, oInt, oAbs, oLen, oMax2, oMin2, oDivmod, oIsi, tyD, okCell, truthD, mFrz, Option.bind_some, Option.map_some, Option.bind_none, Option.map_none, cond_true, cond_false, List.map_cons, List.map_nil, List.cons_append, List.nil_append, List.getElem?_cons_zero, List.getElem?_cons_succ, List.set_cons_zero, List.set_cons_succ, List.length_cons, List.length_nil, List.replicate , w1, w2, dm]
        obtain ⟨b0, b1, b4, b5, b6, b7, e2⟩ := bez_loop f o (n % o) u v (s - n / o * u) (t - n / o * v) (some (.int (n / o))) (some (.int (n % o))) r e
        exact ⟨b0, b1, b4, b5, b6, b7, by rw [while_go et eb]; exact e2⟩
    · rw [if_neg ho] at e
      cases e
      rw [decide_eq_false ho] at et
      exact ⟨_, _, _, _, _, _, while_no et⟩
def bz (n o : Int) : Option (Int × Int) := bezO (o.natAbs + 1) n o 1 0 0 1
theorem bezout_ok {n o : Int} {h : Cells} {r : Int × Int} (e : bz n o = some r) : F_bezout [.int n, .int o] h = some (.tup [.int r.1, .int r.2], h) := by
  obtain ⟨b0, b1, b4, b5, b6, b7, e1⟩ := bez_loop (h := h) (o.natAbs + 1) n o 1 0 0 1 none none r e
  have e2 : (mWhile (fun ms => slI ms 1 + 1) bzC bzB) ⟨[some (.int n), some (.int o), some (.int 1), some (.int 0), some (.int 0), some (.int 1), none, none], h⟩ = some (.nx, ⟨[b0, b1, some (.int r.1), some (.int r.2), b4, b5, b6, b7], h⟩) := e1
  unfold F_bezout
  rw [b_bz_eq]
  generalize mWhile (fun ms => slI ms 1 + 1) bzC bzB = W at e2 ⊢
  simp [mFun, line, mSeq, mAsg, mRet, mRetN, mDrop, mIfS, mTBin, mBin, mVar, mC, mCons, mNil, mTup, mLst, mLstC, mCB, mCall, mCallK, mIf, mAndV, mOrV, mNotV, mAnd, mOr, mNot, mTru, mUn, mChain, tB', mNx, mNev, mFor, mForL, mWhile, mComp, mCompL, mYes, gN, gT, gsCons, gsNil, gSubD, mApp, mPar, mPar3, mAugI, mSl, mSo, mNo, iR1, iR2, iR3, iS, iEn, iL, iT, asB, asL, asT, asLT, asInt, oB, oAdd, oSub, oMulA, oMul, oDiv, oMod, oPow, oNeg, cI, oEq, oNe, oIx, asSeq, oInt, oAbs, oLen, oMax2, oMin2, oDivmod, oIsi, tyD, okCell, truthD, mFrz, Option.bind_some, Option.map_some, Option.bind_none, Option.map_none, cond_true, cond_false, List.map_cons, List.map_nil, List.cons_append, List.nil_append, List.getElem?_cons_zero, List.getElem?_cons_succ, List.set_cons_zero, List.set_cons_succ, List.length_cons, List.length_nil, List.replicate , e2]
/-! a place without -/
abbrev plB : MB := (mIfS (mAnd (mTBin oEq (mCB oGcd2 (mCons (mVar 2) (mCons (mVar 3) mNil))) (mC (.int 1))) (mTBin oEq (mCB oGcd2 (mCons (mCall 3 F_value_at (mCons (mVar 0) (mCons (mVar 2) (mCons (mVar 3) mNil)))) (mCons (mVar 1) mNil))) (mC (.int 1)))) (mRet (mTup (mCons (mVar 2) (mCons (mVar 3) mNil)))) mNx)
abbrev plI : MB := (mFor (iR1 (mCons (mBin oAdd (mVar 1) (mC (.int 1))) mNil)) (gN 3) plB)
theorem b_pl_eq : b_place_without = (mFor (iR1 (mCons (mBin oAdd (mVar 1) (mC (.int 1))) mNil)) (gN 2) plI) := rfl
def cop (x y : Int) : Bool := decide (Nat.gcd x.natAbs y.natAbs = 1)
def hit (a b c m x y : Int) : Bool := cop x y && cop (vl a b c x y) m
def plY (a b c m x : Int) : Nat → Int → Option (Int × Int)
  | 0, _ => none
  | f + 1, y => bif hit a b c m x y then some (x, y) else plY a b c m x f (y + 1)
def plX (a b c m : Int) (w : Nat) : Nat → Int → Option (Int × Int)
  | 0, _ => none
  | f + 1, x => match plY a b c m x w 0 with
    | some r => some r
    | none => plX a b c m w f (x + 1)
def plc (a b c m : Int) : Option (Int × Int) := plX a b c m (m + 1).toNat (m + 1).toNat 0
theorem intsD_cons (lo : Int) (n : Nat) : intsD lo (n + 1) = .int lo :: intsD (lo + 1) n := by
  unfold intsD
  rw [List.range_succ_eq_map, List.map_cons, List.map_map]
  congr 1
  · simp
  · refine List.map_congr_left fun i _ => ?_
    simp only [Function.comp]
    congr 1
    omega
theorem pl_step {h : Cells} {a b c m x y : Int} (ba : Bd 3000 a) (bb : Bd 3000 b) (bc : Bd 3000 c) (bx : Bd 3000 x) (by' : Bd 3000 y) : plB ⟨[some (T3 a b c), some (.int m), some (.int x), some (.int y)], h⟩ = some (bif hit a b c m x y then .ret (.tup [.int x, .int y]) else .nx, ⟨[some (T3 a b c), some (.int m), some (.int x), some (.int y)], h⟩) := by
  have e := value_ok (h := h) ba bb bc bx by'
  have i1 : ((Nat.gcd x.natAbs y.natAbs : Nat) : Int) = 1 ↔ Nat.gcd x.natAbs y.natAbs = 1 := by omega
  have i2 : ((Nat.gcd (vl a b c x y).natAbs m.natAbs : Nat) : Int) = 1 ↔ Nat.gcd (vl a b c x y).natAbs m.natAbs = 1 := by omega
  unfold hit cop
  generalize vl a b c x y = V at *
  by_cases z1 : Nat.gcd x.natAbs y.natAbs = 1
  · by_cases z2 : Nat.gcd V.natAbs m.natAbs = 1
    · simp [plB, mFun, line, mSeq, mAsg, mRet, mRetN, mDrop, mIfS, mTBin, mBin, mVar, mC, mCons, mNil, mTup, mLst, mLstC, mCB, mCall, mCallK, mIf, mAndV, mOrV, mNotV, mAnd, mOr, mNot, mTru, mUn, mChain, tB', mNx, mNev, mFor, mForL, mWhile, mComp, mCompL, mYes, gN, gT, gsCons, gsNil, gSubD, mApp, mPar, mPar3, mAugI, mSl, mSo, mNo, iR1, iR2, iR3, iS, iEn, iL, iT, asB, asL, asT, asLT, asInt, oB, oAdd, oSub, oMulA, oMul, oDiv, oMod, oPow, oNeg, cI, oEq, oNe, oIx, asSeq, oInt, oAbs, oLen, oMax2, oMin2, oDivmod, oIsi, tyD, okCell, truthD, mFrz, Option.bind_some, Option.map_some, Option.bind_none, Option.map_none, cond_true, cond_false, List.map_cons, List.map_nil, List.cons_append, List.nil_append, List.getElem?_cons_zero, List.getElem?_cons_succ, List.set_cons_zero, List.set_cons_succ, List.length_cons, List.length_nil, List.replicate , oGcd2, e, z1, z2]
    · have z2' : ¬ ((Nat.gcd V.natAbs m.natAbs : Nat) : Int) = 1 := fun z => z2 (i2.mp z)
      simp [plB, mFun, line, mSeq, mAsg, mRet, mRetN, mDrop, mIfS, mTBin, mBin, mVar, mC, mCons, mNil, mTup, mLst, mLstC, mCB, mCall, mCallK, mIf, mAndV, mOrV, mNotV, mAnd, mOr, mNot, mTru, mUn, mChain, tB', mNx, mNev, mFor, mForL, mWhile, mComp, mCompL, mYes, gN, gT, gsCons, gsNil, gSubD, mApp, mPar, mPar3, mAugI, mSl, mSo, mNo, iR1, iR2, iR3, iS, iEn, iL, iT, asB, asL, asT, asLT, asInt, oB, oAdd, oSub, oMulA, oMul, oDiv, oMod, oPow, oNeg, cI, oEq, oNe, oIx, asSeq, oInt, oAbs, oLen, oMax2, oMin2, oDivmod, oIsi, tyD, okCell, truthD, mFrz, Option.bind_some, Option.map_some, Option.bind_none, Option.map_none, cond_true, cond_false, List.map_cons, List.map_nil, List.cons_append, List.nil_append, List.getElem?_cons_zero, List.getElem?_cons_succ, List.set_cons_zero, List.set_cons_succ, List.length_cons, List.length_nil, List.replicate , oGcd2, e, z1, z2, z2']
  · have z1' : ¬ ((Nat.gcd x.natAbs y.natAbs : Nat) : Int) = 1 := fun z => z1 (i1.mp z)
    simp [plB, mFun, line, mSeq, mAsg, mRet, mRetN, mDrop, mIfS, mTBin, mBin, mVar, mC, mCons, mNil, mTup, mLst, mLstC, mCB, mCall, mCallK, mIf, mAndV, mOrV, mNotV, mAnd, mOr, mNot, mTru, mUn, mChain, tB', mNx, mNev, mFor, mForL, mWhile, mComp, mCompL, mYes, gN, gT, gsCons, gsNil, gSubD, mApp, mPar, mPar3, mAugI, mSl, mSo, mNo, iR1, iR2, iR3, iS, iEn, iL, iT, asB, asL, asT, asLT, asInt, oB, oAdd, oSub, oMulA, oMul, oDiv, oMod, oPow, oNeg, cI, oEq, oNe, oIx, asSeq, oInt, oAbs, oLen, oMax2, oMin2, oDivmod, oIsi, tyD, okCell, truthD, mFrz, Option.bind_some, Option.map_some, Option.bind_none, Option.map_none, cond_true, cond_false, List.map_cons, List.map_nil, List.cons_append, List.nil_append, List.getElem?_cons_zero, List.getElem?_cons_succ, List.set_cons_zero, List.set_cons_succ, List.length_cons, List.length_nil, List.replicate , oGcd2, z1, z1']
theorem pl_in {h : Cells} {a b c m x : Int} (ba : Bd 3000 a) (bb : Bd 3000 b) (bc : Bd 3000 c) (bx : Bd 3000 x) : ∀ (f : Nat) (y : Int) (a3 : Option D), y.natAbs + f < 1000 → ∃ b3, mForL (gN 3) plB (intsD y f) ⟨[some (T3 a b c), some (.int m), some (.int x), a3], h⟩ =
      some (match plY a b c m x f y with | some r => .ret (.tup [.int r.1, .int r.2]) | none => .nx, ⟨[some (T3 a b c), some (.int m), some (.int x), b3], h⟩)
  | 0, y, a3, _ => ⟨a3, rfl⟩
  | f + 1, y, a3, hb => by
    have by' : Bd 3000 y := Nat.lt_of_lt_of_le (show y.natAbs < 2 ^ 10 by omega) (Nat.pow_le_pow_right (by decide) (by decide))
    have st := pl_step (h := h) (m := m) ba bb bc bx by'
    rw [intsD_cons]
    simp only [mForL, gN, List.set_cons_succ, List.set_cons_zero, Option.bind_some, st, plY]
    cases z : hit a b c m x y with
    | true => exact ⟨some (.int y), rfl⟩
    | false =>
      obtain ⟨b3, e⟩ := pl_in (m := m) ba bb bc bx f (y + 1) (some (.int y)) (by omega)
      exact ⟨b3, e⟩
theorem pl_out {h : Cells} {a b c m : Int} (ba : Bd 3000 a) (bb : Bd 3000 b) (bc : Bd 3000 c) (m0 : 0 ≤ m) (m1 : m < 400) : ∀ (f : Nat) (x : Int) (a2 a3 : Option D), x.natAbs + f < 1000 → ∃ b2 b3, mForL (gN 2) plI (intsD x f) ⟨[some (T3 a b c), some (.int m), a2, a3], h⟩ =
      some (match plX a b c m (m + 1).toNat f x with | some r => .ret (.tup [.int r.1, .int r.2]) | none => .nx, ⟨[some (T3 a b c), some (.int m), b2, b3], h⟩)
  | 0, x, a2, a3, _ => ⟨a2, a3, rfl⟩
  | f + 1, x, a2, a3, hb => by
    have bx : Bd 3000 x := Nat.lt_of_lt_of_le (show x.natAbs < 2 ^ 10 by omega) (Nat.pow_le_pow_right (by decide) (by decide))
    obtain ⟨b3, e⟩ := pl_in (h := h) (m := m) ba bb bc bx (m + 1).toNat 0 a3 (by omega)
    have st : plI ⟨[some (T3 a b c), some (.int m), some (.int x), a3], h⟩ = some (match plY a b c m x (m + 1).toNat 0 with | some r => .ret (.tup [.int r.1, .int r.2]) | none => .nx, ⟨[some (T3 a b c), some (.int m), some (.int x), b3], h⟩) := for_iR1 (j := m + 1) (h1 := h) rfl (decide_eq_true (by omega)) e
    rw [intsD_cons]
    simp only [mForL, gN, List.set_cons_succ, List.set_cons_zero, Option.bind_some, st, plX]
    cases z : plY a b c m x (m + 1).toNat 0 with
    | some r => exact ⟨some (.int x), b3, rfl⟩
    | none =>
      obtain ⟨b2, b3', e⟩ := pl_out ba bb bc m0 m1 f (x + 1) (some (.int x)) b3 (by omega)
      exact ⟨b2, b3', e⟩
theorem place_ok {h : Cells} {a b c m : Int} {r : Int × Int} (ba : Bd 3000 a) (bb : Bd 3000 b) (bc : Bd 3000 c) (m0 : 0 ≤ m) (m1 : m < 400) (e : plc a b c m = some r) : F_place_without [T3 a b c, .int m] h = some (.tup [.int r.1, .int r.2], h) := by
  obtain ⟨b2, b3, e1⟩ := pl_out (h := h) ba bb bc m0 m1 (m + 1).toNat 0 none none (by omega)
  have e' : plX a b c m (m + 1).toNat (m + 1).toNat 0 = some r := e
  rw [e'] at e1
  have e2 : b_place_without ⟨[some (T3 a b c), some (.int m), none, none], h⟩ = some (.ret (.tup [.int r.1, .int r.2]), ⟨[some (T3 a b c), some (.int m), b2, b3], h⟩) := by
    rw [b_pl_eq]
    exact for_iR1 (j := m + 1) (h1 := h) rfl (decide_eq_true (by omega)) e1
  unfold F_place_without mFun
  show (b_place_without ⟨[some (T3 a b c), some (.int m), none, none], h⟩).bind _ = _
  rw [e2]
  rfl
end Law

set_option Elab.async false
set_option linter.all false
set_option maxRecDepth 100000
set_option maxHeartbeats 4000000
namespace Law
open PySem L2 Zm
abbrev Tri := Int × Int × Int
/-! what is composed, plainly -/
structure Un where
  x : Int
  y : Int
  s : Int
  t : Int
  lead : Int
  mid : Int
  k : Int
  u : Int
def unC (a b lead mid e x y s t : Int) : Option Un :=
  bif sm e && sm ((b + 2 * a * ((mid - b) / 2 * e % lead) - mid) / (2 * lead)) then some ⟨x, y, s, t, lead, mid, (mid - b) / 2 * e % lead, (b + 2 * a * ((mid - b) / 2 * e % lead) - mid) / (2 * lead)⟩ else none
def unB (a b lead mid x y s t : Int) : Option Un :=
  bif decide (0 < lead) && (sm lead && sm mid) then (match bz a lead with
    | some (e, _) => unC a b lead mid e x y s t
    | none => none) else none
def unA (r1 r2 : Tri) (x y : Int) : Option Un :=
  bif sm x && sm y then (match bz x y with
    | some (s, t) => bif sm s && sm t then unB r1.1 r1.2.1 (vl r2.1 r2.2.1 r2.2.2 x y) (md r2.1 r2.2.1 r2.2.2 x (-t) y s) x y s t else none
    | none => none) else none
def un (r1 r2 : Tri) : Option Un := match plc r2.1 r2.2.1 r2.2.2 r1.1 with
  | some (x, y) => unA r1 r2 x y
  | none => none
structure UnOk (r1 r2 : Tri) (v : Un) : Prop where
  p : plc r2.1 r2.2.1 r2.2.2 r1.1 = some (v.x, v.y)
  sx : sm v.x = true
  sy : sm v.y = true
  b1 : bz v.x v.y = some (v.s, v.t)
  ss : sm v.s = true
  st : sm v.t = true
  el : v.lead = vl r2.1 r2.2.1 r2.2.2 v.x v.y
  em : v.mid = md r2.1 r2.2.1 r2.2.2 v.x (-v.t) v.y v.s
  l0 : 0 < v.lead
  sl : sm v.lead = true
  sd : sm v.mid = true
  b2 : ∃ e f, bz r1.1 v.lead = some (e, f) ∧ sm e = true ∧ v.k = (v.mid - r1.2.1) / 2 * e % v.lead
  eu : v.u = (r1.2.1 + 2 * r1.1 * v.k - v.mid) / (2 * v.lead)
  su : sm v.u = true
theorem bif_go {α : Type} {c : Bool} {x : Option α} {v : α} (h : (bif c then x else none) = some v) : c = true ∧ x = some v := by
  cases c with
  | true => exact ⟨rfl, h⟩
  | false => cases h
theorem un_ok {r1 r2 : Tri} {v : Un} (h : un r1 r2 = some v) : UnOk r1 r2 v := by
  unfold un at h
  split at h
  · rename_i x y ep
    unfold unA at h
    obtain ⟨c1, h⟩ := bif_go h
    rw [Bool.and_eq_true] at c1
    split at h
    · rename_i s t eb
      obtain ⟨c2, h⟩ := bif_go h
      rw [Bool.and_eq_true] at c2
      unfold unB at h
      obtain ⟨c3, h⟩ := bif_go h
      rw [Bool.and_eq_true, Bool.and_eq_true] at c3
      split at h
      · rename_i e f eb2
        unfold unC at h
        obtain ⟨c4, h⟩ := bif_go h
        rw [Bool.and_eq_true] at c4
        cases h
        exact ⟨ep, c1.1, c1.2, eb, c2.1, c2.2, rfl, rfl, of_decide_eq_true c3.1, c3.2.1, c3.2.2, ⟨e, f, eb2, c4.1, rfl⟩, rfl, c4.2⟩
      · cases h
    · cases h
  · cases h
/-! in the machine -/
structure Rd (h : Cells) (A B C a b c p q r s : Int) : Prop where
  e : F_reduction [T3 A B C] h = some (.tup [T3 a b c, T4 p q r s], h)
  i : Inv A B C a b c p q r s
  bp : Bd 2900 p
  bq : Bd 2900 q
  br : Bd 2900 r
  bs : Bd 2900 s
theorem rd_of {A B C : Int} (H : Base A B C) (h : Cells) : ∃ a b c p q r s, Rd h A B C a b c p q r s ∧ RD A B C = (a, b, c) := by
  obtain ⟨a, b, c, p, q, r, s, e, er, i, k, l⟩ := reduction_ok H (h := h)
  have d := bds H i k l
  exact ⟨a, b, c, p, q, r, s, ⟨e, i, d.p, d.q, d.r, d.s⟩, er⟩
section
variable {h : Cells} {A B C A' B' C' a b c p q r s a' b' c' p' q' r' s' : Int}
theorem clw_ok (R' : Rd h A' B' C' a' b' c' p' q' r' s') (ka : Bd 3000 a') (kb : Bd 3000 b') (kc : Bd 3000 c') (m0 : 0 ≤ a) (m1 : a < 400) {v : Un} (U : UnOk (a, b, c) (a', b', c') v) :
    F_change_to_lead_without [T3 A' B' C', .int a] h = some (T4 (p' * v.x + q' * v.y) (p' * -v.t + q' * v.s) (r' * v.x + s' * v.y) (r' * -v.t + s' * v.s), h) := by
  have e1 := R'.e
  have e2 := place_ok (h := h) ka kb kc m0 m1 U.p
  have e3 := bezout_ok (h := h) U.b1
  have M9 : ∀ {x : Int}, Bd 2900 x → Bd 9000 x := fun h => h.mono (by decide)
  have S9 : ∀ {x : Int}, sm x = true → Bd 9000 x := fun h => (sm_bd h).mono (by decide)
  have e4 := joined_ok (h := h) (M9 R'.bp) (M9 R'.bq) (M9 R'.br) (M9 R'.bs) (S9 U.sx) ((sm_bd U.st).neg.mono (by decide)) (S9 U.sy) (S9 U.ss)
  dsimp only at e2 e3
  generalize (p' * v.x + q' * v.y) = E1 at *
  generalize (p' * -v.t + q' * v.s) = E2 at *
  generalize (r' * v.x + s' * v.y) = E3 at *
  generalize (r' * -v.t + s' * v.s) = E4 at *
  simp [F_change_to_lead_without, b_change_to_lead_without, mFun, line, mSeq, mAsg, mRet, mRetN, mDrop, mIfS, mTBin, mBin, mVar, mC, mCons, mNil, mTup, mLst, mLstC, mCB, mCall, mCallK, mIf, mAndV, mOrV, mNotV, mAnd, mOr, mNot, mTru, mUn, mChain, tB', mNx, mNev, mFor, mForL, mWhile, mComp, mCompL, mYes, gN, gT, gsCons, gsNil, gSubD, mApp, mPar, mPar3, mAugI, mSl, mSo, mNo, iR1, iR2, iR3, iS, iEn, iL, iT, asB, asL, asT, asLT, asInt, oB, oAdd, oSub, oMulA, oMul, oDiv, oMod, oPow, oNeg, cI, oEq, oNe, oIx, asSeq, oInt, oAbs, oLen, oMax2, oMin2, oDivmod, oIsi, tyD, okCell, truthD, mFrz, Option.bind_some, Option.map_some, Option.bind_none, Option.map_none, cond_true, cond_false, List.map_cons, List.map_nil, List.cons_append, List.nil_append, List.getElem?_cons_zero, List.getElem?_cons_succ, List.set_cons_zero, List.set_cons_succ, List.length_cons, List.length_nil, List.replicate , e1, e2, e3, e4]
theorem mix {k : Nat} {x y z w : Int} (h1 : Bd k x) (h2 : sm y = true) (h3 : Bd k z) (h4 : sm w = true) : Bd (k + 31) (x * y + z * w) := ((h1.mul (sm_bd h2)).add (h3.mul (sm_bd h4)))
theorem sm_neg {x : Int} (h : sm x = true) : sm (-x) = true := by
  unfold sm at *
  rw [Int.natAbs_neg]
  exact h
theorem uniting_ok (R : Rd h A B C a b c p q r s) (R' : Rd h A' B' C' a' b' c' p' q' r' s') (ha : Bd 800 A' ∧ Bd 800 B' ∧ Bd 800 C') (ka : Bd 3000 a') (kb : Bd 3000 b') (kc : Bd 3000 c') (m0 : 0 < a) (m1 : a < 400) (mb : Bd 20 b) {v : Un} (U : UnOk (a, b, c) (a', b', c') v) :
    ∃ P Q S T, F_uniting [T3 A B C, T3 A' B' C'] h = some (.tup [T4 (p * 1 + q * 0) (p * v.k + q * 1) (r * 1 + s * 0) (r * v.k + s * 1), T4 (P * 1 + Q * 0) (P * v.u + Q * 1) (S * 1 + T * 0) (S * v.u + T * 1)], h) ∧ Bd 2931 P ∧ Bd 2931 Q ∧ Bd 2931 S ∧ Bd 2931 T ∧ vl A' B' C' P S = v.lead ∧ md A' B' C' P Q S T = v.mid ∧ (v.x * v.s + v.y * v.t = 1 → P * T - Q * S = 1) := by
  have e1 := R.e
  have e2 := clw_ok R' ka kb kc (by omega) m1 U
  have n1 := mix R'.bp U.sx R'.bq U.sy
  have n2 := mix R'.bp (sm_neg U.st) R'.bq U.ss
  have n3 := mix R'.br U.sx R'.bs U.sy
  have n4 := mix R'.br (sm_neg U.st) R'.bs U.ss
  have M3 : ∀ {x : Int}, Bd 2931 x → Bd 3000 x := fun h => h.mono (by decide)
  have A3 : ∀ {x : Int}, Bd 800 x → Bd 3000 x := fun h => h.mono (by decide)
  have e3 := led_ok (h := h) (A3 ha.1) (A3 ha.2.1) (A3 ha.2.2) (M3 n1) (M3 n2) (M3 n3) (M3 n4)
  have v1 := comp_v A' B' C' p' q' r' s' v.x v.y
  have v2 := comp_m A' B' C' p' q' r' s' v.x (-v.t) v.y v.s
  rw [R'.i.ea, R'.i.eb, R'.i.ec] at v1 v2
  have el := U.el
  have em := U.em
  dsimp only at el em
  rw [← el] at v1
  rw [← em] at v2
  refine ⟨p' * v.x + q' * v.y, p' * -v.t + q' * v.s, r' * v.x + s' * v.y, r' * -v.t + s' * v.s, ?_, n1, n2, n3, n4, v1.symm, v2.symm, fun hh => det_mul _ _ _ _ _ _ _ _ R'.i.dt (by rw [show v.x * v.s - -v.t * v.y = v.x * v.s + v.y * v.t by grind]; exact hh)⟩
  rw [← v1, ← v2] at e3
  generalize (p' * v.x + q' * v.y) = E1 at *
  generalize (p' * -v.t + q' * v.s) = E2 at *
  generalize (r' * v.x + s' * v.y) = E3 at *
  generalize (r' * -v.t + s' * v.s) = E4 at *
  obtain ⟨e, f, eb, se, ek⟩ := U.b2
  have e4 := bezout_ok (h := h) eb
  dsimp only at e4 ek
  have k0 : 0 ≤ v.k ∧ v.k < v.lead := by
    rw [ek]
    exact ⟨Int.emod_nonneg _ (by have := U.l0; omega), Int.emod_lt_of_pos _ U.l0⟩
  have sk : sm v.k = true := by
    have := sm_nat U.sl
    exact decide_eq_true (by omega)
  have M9 : ∀ {x : Int}, Bd 2900 x → Bd 9000 x := fun h => h.mono (by decide)
  have N9 : ∀ {x : Int}, Bd 2931 x → Bd 9000 x := fun h => h.mono (by decide)
  have S9 : ∀ {x : Int}, sm x = true → Bd 9000 x := fun h => (sm_bd h).mono (by decide)
  have o9 : Bd 9000 (1 : Int) := Nat.lt_of_lt_of_le (show 1 < 2 ^ 1 by decide) (Nat.pow_le_pow_right (by decide) (by decide))
  have z9 : Bd 9000 (0 : Int) := Nat.pow_pos (by decide)
  have e5 := joined_ok (h := h) (M9 R.bp) (M9 R.bq) (M9 R.br) (M9 R.bs) o9 (S9 sk) z9 o9
  have e6 := joined_ok (h := h) (N9 n1) (N9 n2) (N9 n3) (N9 n4) o9 (S9 U.su) z9 o9
  have b31 : Bd 31 (v.mid - b) := (sm_bd U.sd).sub (mb.mono (by decide))
  have w1 : wideM ((v.mid - b) / 2) e = true := wide_B ((div_bd b31).mono (by decide)) ((sm_bd se).mono (by decide))
  have w2 : wideM 2 a = true := wide_B (.two (by decide)) (Nat.lt_of_lt_of_le (show a.natAbs < 2 ^ 9 by omega) (Nat.pow_le_pow_right (by decide) (by decide)))
  have w3 : wideM (2 * a) v.k = true := wide_B (Nat.lt_of_lt_of_le (show (2 * a).natAbs < 2 ^ 10 by omega) (Nat.pow_le_pow_right (by decide) (by decide))) ((sm_bd sk).mono (by decide))
  have w4 : wideM 2 v.lead = true := wide_B (.two (by decide)) ((sm_bd U.sl).mono (by decide))
  have d1 : wideD 2 = true := divS (by decide) (by decide)
  have d2 : wideD (2 * v.lead) = true := divS (by have := U.l0; omega) (by have := sm_nat U.sl; omega)
  have d3 : decide (0 < v.lead) = true := decide_eq_true U.l0
  have eu := U.eu
  dsimp only at eu
  rw [eu] at e6 ⊢
  rw [ek] at e5 w3 e6 ⊢
  generalize p * ((v.mid - b) / 2 * e % v.lead) + q * 1 = F2 at *
  generalize r * ((v.mid - b) / 2 * e % v.lead) + s * 1 = F4 at *
  generalize E1 * ((b + 2 * a * ((v.mid - b) / 2 * e % v.lead) - v.mid) / (2 * v.lead)) + E2 * 1 = G2 at *
  generalize E3 * ((b + 2 * a * ((v.mid - b) / 2 * e % v.lead) - v.mid) / (2 * v.lead)) + E4 * 1 = G4 at *
  generalize p * 1 + q * 0 = F1 at *
  generalize r * 1 + s * 0 = F3 at *
  generalize E1 * 1 + E2 * 0 = G1 at *
  generalize E3 * 1 + E4 * 0 = G3 at *
  have l0 := U.l0
  simp [F_uniting, b_uniting, mFun, line, mSeq, mAsg, mRet, mRetN, mDrop, mIfS, mTBin, mBin, mVar, mC, mCons, mNil, mTup, mLst, mLstC, mCB, mCall, mCallK, mIf, mAndV, mOrV, mNotV, mAnd, mOr, mNot, mTru, mUn, mChain, tB', mNx, mNev, mFor, mForL, mWhile, mComp, mCompL, mYes, gN, gT, gsCons, gsNil, gSubD, mApp, mPar, mPar3, mAugI, mSl, mSo, mNo, iR1, iR2, iR3, iS, iEn, iL, iT, asB, asL, asT, asLT, asInt, oB, oAdd, oSub, oMulA, oMul, oDiv, oMod, oPow, oNeg, cI, oEq, oNe, oIx, asSeq, oInt, oAbs, oLen, oMax2, oMin2, oDivmod, oIsi, tyD, okCell, truthD, mFrz, Option.bind_some, Option.map_some, Option.bind_none, Option.map_none, cond_true, cond_false, List.map_cons, List.map_nil, List.cons_append, List.nil_append, List.getElem?_cons_zero, List.getElem?_cons_succ, List.set_cons_zero, List.set_cons_succ, List.length_cons, List.length_nil, List.replicate , e1, e2, e3, e4, e5, e6, w1, w2, w3, w4, d1, d2, l0]
end
end Law

set_option Elab.async false
set_option linter.all false
set_option maxRecDepth 100000
set_option maxHeartbeats 4000000
namespace Law
open PySem L2 Zm
/-! the numbers that compose -/
abbrev cnB : MB := (mSeq (mDrop (mApp (mVar 9) (mCons (mBin oSub (mBin oMulA (mVar 11) (mVar 13)) (mBin oMulA (mBin oMulA (mVar 8) (mVar 12)) (mVar 14))) mNil)))
    (mDrop (mApp (mVar 10) (mCons (mBin oAdd (mBin oAdd (mBin oMulA (mBin oMulA (mVar 4) (mVar 11)) (mVar 14)) (mBin oMulA (mBin oMulA (mVar 7) (mVar 12)) (mVar 13))) (mBin oMulA (mBin oMulA (mVar 5) (mVar 12)) (mVar 14))) mNil))))
abbrev cnI : MB := (mFor (iS (mCall 1 F_columns (mCons (mCall 1 F_inverse (mCons (mVar 3) mNil)) mNil))) (gT 2 (gsCons (gN 13) (gsCons (gN 14) gsNil))) cnB)
abbrev cnF : MB := (mFor (iS (mCall 1 F_columns (mCons (mCall 1 F_inverse (mCons (mVar 2) mNil)) mNil))) (gT 2 (gsCons (gN 11) (gsCons (gN 12) gsNil))) cnI)
theorem b_cn_eq : b_composing_numbers = (mSeq (mDrop (mCall 1 F_check_form (mCons (mVar 0) mNil)))
    (mSeq (mDrop (mCall 1 F_check_form (mCons (mVar 1) mNil)))
    (mSeq (mIfS (mTBin oNe (mCall 1 F_discriminant_of (mCons (mVar 0) mNil)) (mCall 1 F_discriminant_of (mCons (mVar 1) mNil))) mNev mNx)
    (mSeq (mAsg (mCall 2 F_uniting (mCons (mVar 0) (mCons (mVar 1) mNil))) (gT 2 (gsCons (gN 2) (gsCons (gN 3) gsNil))))
    (mSeq (mAsg (mCall 2 F_led_by (mCons (mVar 0) (mCons (mVar 2) mNil))) (gT 3 (gsCons (gN 4) (gsCons (gN 5) (gsCons (gN 6) gsNil)))))
    (mSeq (mAsg (mBin oIx (mCall 2 F_led_by (mCons (mVar 1) (mCons (mVar 3) mNil))) (mC (.int 0))) (gN 7))
    (mSeq (mAsg (mBin oDiv (mVar 6) (mVar 7)) (gN 8))
    (mSeq (mAsg (mLstC mNil) (gN 9))
    (mSeq (mAsg (mLstC mNil) (gN 10))
    (mSeq cnF
    (mRet (mTup (mCons (mTup (mCons (mBin oMulA (mVar 4) (mVar 7)) (mCons (mVar 5) (mCons (mVar 8) mNil)))) (mCons (mCB oTup (mCons (mBin oAddC (mVar 9) (mVar 10)) mNil)) mNil)))))))))))))) := rfl
/-- the eight numbers -/
def nU (c x y z w : Int) : Int := x * z - c * y * w
def nW (a lead b x y z w : Int) : Int := a * x * w + lead * y * z + b * y * w
theorem g0 {h : Cells} {U W : List D} : (h ++ [U, W])[h.length]? = some U := by simp
theorem g1' {h : Cells} {U W : List D} : (h ++ [U, W])[h.length + 1]? = some W := by simp
theorem s0 {h : Cells} {U W V : List D} : (h ++ [U, W]).set h.length V = h ++ [V, W] := by simp
theorem s1' {h : Cells} {U W V : List D} : (h ++ [U, W]).set (h.length + 1) V = h ++ [U, V] := by
  rw [List.set_append_right _ _ (by omega)]
  simp
section
variable {h : Cells} {a b lead c x y z w : Int} {a0 a1 a2 a3 a6 : Option D}
theorem cn_step {U W : List D} (lU : U.length < 8) (lW : W.length < 8) (ka : Bd 3000 a) (kb : Bd 3000 b) (kl : Bd 3000 lead) (kc : Bd 3000 c) (kx : Bd 3000 x) (ky : Bd 3000 y) (kz : Bd 3000 z) (kw : Bd 3000 w) :
    cnB ⟨[a0, a1, a2, a3, some (.int a), some (.int b), a6, some (.int lead), some (.int c), some (.cell h.length), some (.cell (h.length + 1)), some (.int x), some (.int y), some (.int z), some (.int w)], h ++ [U, W]⟩ =
      some (.nx, ⟨[a0, a1, a2, a3, some (.int a), some (.int b), a6, some (.int lead), some (.int c), some (.cell h.length), some (.cell (h.length + 1)), some (.int x), some (.int y), some (.int z), some (.int w)], h ++ [U ++ [.int (nU c x y z w)], W ++ [.int (nW a lead b x y z w)]]⟩) := by
  have M : ∀ {x : Int}, Bd 3000 x → Bd 20000 x := fun h => h.mono (by decide)
  have M6 : ∀ {x y : Int}, Bd 3000 x → Bd 3000 y → Bd 20000 (x * y) := fun h g => (h.mul g).mono (by decide)
  have w1 : wideM x z = true := wide_B (M kx) (M kz)
  have w2 : wideM c y = true := wide_B (M kc) (M ky)
  have w3 : wideM (c * y) w = true := wide_B (M6 kc ky) (M kw)
  have w4 : wideM a x = true := wide_B (M ka) (M kx)
  have w5 : wideM (a * x) w = true := wide_B (M6 ka kx) (M kw)
  have w6 : wideM lead y = true := wide_B (M kl) (M ky)
  have w7 : wideM (lead * y) z = true := wide_B (M6 kl ky) (M kz)
  have w8 : wideM b y = true := wide_B (M kb) (M ky)
  have w9 : wideM (b * y) w = true := wide_B (M6 kb ky) (M kw)
  have lU' : U.length < 16777216 := by omega
  have lW' : W.length < 16777216 := by omega
  unfold nU nW
  simp [cnB, mFun, line, mSeq, mAsg, mRet, mRetN, mDrop, mIfS, mTBin, mBin, mVar, mC, mCons, mNil, mTup, mLst, mLstC, mCB, mCall, mCallK, mIf, mAndV, mOrV, mNotV, mAnd, mOr, mNot, mTru, mUn, mChain, tB', mNx, mNev, mFor, mForL, mWhile, mComp, mCompL, mYes, gN, gT, gsCons, gsNil, gSubD, mApp, mPar, mPar3, mAugI, mSl, mSo, mNo, iR1, iR2, iR3, iS, iEn, iL, iT, asB, asL, asT, asLT, asInt, oB, oAdd, oSub, oMulA, oMul, oDiv, oMod, oPow, oNeg, cI, oEq, oNe, oIx, asSeq, oInt, oAbs, oLen, oMax2, oMin2, oDivmod, oIsi, tyD, okCell, truthD, mFrz, Option.bind_some, Option.map_some, Option.bind_none, Option.map_none, cond_true, cond_false, List.map_cons, List.map_nil, List.cons_append, List.nil_append, List.getElem?_cons_zero, List.getElem?_cons_succ, List.set_cons_zero, List.set_cons_succ, List.length_cons, List.length_nil, List.replicate , w1, w2, w3, w4, w5, w6, w7, w8, w9, g0, g1', s0, s1', lU', lW']
end
section
variable {h : Cells} {a b lead c P Q S T P' Q' S' T' : Int} {a0 a1 a6 : Option D}
theorem inv_ok {P Q S T : Int} {h : Cells} : F_columns [T4 T (-Q) (-S) P] h = some (.tup [.tup [.int T, .int (-S)], .tup [.int (-Q), .int P]], h) := by
  simp [F_columns, b_columns, mFun, line, mSeq, mAsg, mRet, mRetN, mDrop, mIfS, mTBin, mBin, mVar, mC, mCons, mNil, mTup, mLst, mLstC, mCB, mCall, mCallK, mIf, mAndV, mOrV, mNotV, mAnd, mOr, mNot, mTru, mUn, mChain, tB', mNx, mNev, mFor, mForL, mWhile, mComp, mCompL, mYes, gN, gT, gsCons, gsNil, gSubD, mApp, mPar, mPar3, mAugI, mSl, mSo, mNo, iR1, iR2, iR3, iS, iEn, iL, iT, asB, asL, asT, asLT, asInt, oB, oAdd, oSub, oMulA, oMul, oDiv, oMod, oPow, oNeg, cI, oEq, oNe, oIx, asSeq, oInt, oAbs, oLen, oMax2, oMin2, oDivmod, oIsi, tyD, okCell, truthD, mFrz, Option.bind_some, Option.map_some, Option.bind_none, Option.map_none, cond_true, cond_false, List.map_cons, List.map_nil, List.cons_append, List.nil_append, List.getElem?_cons_zero, List.getElem?_cons_succ, List.set_cons_zero, List.set_cons_succ, List.length_cons, List.length_nil, List.replicate ]
theorem cn_in {x y : Int} {U W : List D} {a11 a12 a13 a14 : Option D} (lU : U.length ≤ 4) (lW : W.length ≤ 4) (ka : Bd 3000 a) (kb : Bd 3000 b) (kl : Bd 3000 lead) (kc : Bd 3000 c) (kx : Bd 3000 x) (ky : Bd 3000 y) (k1 : Bd 3000 P') (k2 : Bd 3000 Q') (k3 : Bd 3000 S') (k4 : Bd 3000 T') :
    ∃ b13 b14, cnI ⟨[a0, a1, a11, some (T4 P' Q' S' T'), some (.int a), some (.int b), a6, some (.int lead), some (.int c), some (.cell h.length), some (.cell (h.length + 1)), some (.int x), some (.int y), a13, a14], h ++ [U, W]⟩ =
      some (.nx, ⟨[a0, a1, a11, some (T4 P' Q' S' T'), some (.int a), some (.int b), a6, some (.int lead), some (.int c), some (.cell h.length), some (.cell (h.length + 1)), some (.int x), some (.int y), b13, b14], h ++ [U ++ [.int (nU c x y T' (-S'))] ++ [.int (nU c x y (-Q') P')], W ++ [.int (nW a lead b x y T' (-S'))] ++ [.int (nW a lead b x y (-Q') P')]]⟩) := by
  have e1 := cn_step (h := h) (a0 := a0) (a1 := a1) (a2 := a11) (a3 := some (T4 P' Q' S' T')) (a6 := a6) (U := U) (W := W) (by omega) (by omega) ka kb kl kc kx ky k4 k3.neg
  have e2 := cn_step (h := h) (a0 := a0) (a1 := a1) (a2 := a11) (a3 := some (T4 P' Q' S' T')) (a6 := a6) (U := U ++ [.int (nU c x y T' (-S'))]) (W := W ++ [.int (nW a lead b x y T' (-S'))]) (by simp; omega) (by simp; omega) ka kb kl kc kx ky k2.neg k1
  have i1 := inverse_ok (p := P') (q := Q') (r := S') (s := T') (h := h ++ [U, W])
  have i2 := inv_ok (P := P') (Q := Q') (S := S') (T := T') (h := h ++ [U, W])
  refine ⟨some (.int (-Q')), some (.int P'), ?_⟩
  generalize (U ++ [D.int (nU c x y T' (-S'))]) ++ [.int (nU c x y (-Q') P')] = U2 at *
  generalize (W ++ [D.int (nW a lead b x y T' (-S'))]) ++ [.int (nW a lead b x y (-Q') P')] = W2 at *
  generalize (U ++ [D.int (nU c x y T' (-S'))]) = U1 at *
  generalize (W ++ [D.int (nW a lead b x y T' (-S'))]) = W1 at *
  unfold cnI
  generalize cnB = B at *
  simp [mFun, line, mSeq, mAsg, mRet, mRetN, mDrop, mIfS, mTBin, mBin, mVar, mC, mCons, mNil, mTup, mLst, mLstC, mCB, mCall, mCallK, mIf, mAndV, mOrV, mNotV, mAnd, mOr, mNot, mTru, mUn, mChain, tB', mNx, mNev, mFor, mForL, mWhile, mComp, mCompL, mYes, gN, gT, gsCons, gsNil, gSubD, mApp, mPar, mPar3, mAugI, mSl, mSo, mNo, iR1, iR2, iR3, iS, iEn, iL, iT, asB, asL, asT, asLT, asInt, oB, oAdd, oSub, oMulA, oMul, oDiv, oMod, oPow, oNeg, cI, oEq, oNe, oIx, asSeq, oInt, oAbs, oLen, oMax2, oMin2, oDivmod, oIsi, tyD, okCell, truthD, mFrz, Option.bind_some, Option.map_some, Option.bind_none, Option.map_none, cond_true, cond_false, List.map_cons, List.map_nil, List.cons_append, List.nil_append, List.getElem?_cons_zero, List.getElem?_cons_succ, List.set_cons_zero, List.set_cons_succ, List.length_cons, List.length_nil, List.replicate , i1, i2, e1, e2]
/-- by columns of the inverse changes -/
def rU (c P Q S T P' Q' S' T' : Int) : List D := [.int (nU c T (-S) T' (-S')), .int (nU c T (-S) (-Q') P'), .int (nU c (-Q) P T' (-S')), .int (nU c (-Q) P (-Q') P')]
def rW (a lead b P Q S T P' Q' S' T' : Int) : List D := [.int (nW a lead b T (-S) T' (-S')), .int (nW a lead b T (-S) (-Q') P'), .int (nW a lead b (-Q) P T' (-S')), .int (nW a lead b (-Q) P (-Q') P')]
theorem cn_all {a11 a12 a13 a14 : Option D} (ka : Bd 3000 a) (kb : Bd 3000 b) (kl : Bd 3000 lead) (kc : Bd 3000 c) (j1 : Bd 3000 P) (j2 : Bd 3000 Q) (j3 : Bd 3000 S) (j4 : Bd 3000 T) (k1 : Bd 3000 P') (k2 : Bd 3000 Q') (k3 : Bd 3000 S') (k4 : Bd 3000 T') :
    ∃ b11 b12 b13 b14, cnF ⟨[a0, a1, some (T4 P Q S T), some (T4 P' Q' S' T'), some (.int a), some (.int b), a6, some (.int lead), some (.int c), some (.cell h.length), some (.cell (h.length + 1)), a11, a12, a13, a14], h ++ [[], []]⟩ =
      some (.nx, ⟨[a0, a1, some (T4 P Q S T), some (T4 P' Q' S' T'), some (.int a), some (.int b), a6, some (.int lead), some (.int c), some (.cell h.length), some (.cell (h.length + 1)), b11, b12, b13, b14], h ++ [rU c P Q S T P' Q' S' T', rW a lead b P Q S T P' Q' S' T']⟩) := by
  obtain ⟨b13, b14, e1⟩ := cn_in (h := h) (a0 := a0) (a1 := a1) (a11 := some (T4 P Q S T)) (a12 := a12) (a6 := a6) (a13 := a13) (a14 := a14) (U := []) (W := []) (by simp) (by simp) ka kb kl kc j4 j3.neg k1 k2 k3 k4
  obtain ⟨c13, c14, e2⟩ := cn_in (h := h) (a0 := a0) (a1 := a1) (a11 := some (T4 P Q S T)) (a12 := a12) (a6 := a6) (a13 := b13) (a14 := b14) (U := ([] ++ [.int (nU c T (-S) T' (-S'))] ++ [.int (nU c T (-S) (-Q') P')])) (W := ([] ++ [.int (nW a lead b T (-S) T' (-S'))] ++ [.int (nW a lead b T (-S) (-Q') P')])) (by simp) (by simp) ka kb kl kc j2.neg j1 k1 k2 k3 k4
  have i1 := inverse_ok (p := P) (q := Q) (r := S) (s := T) (h := h ++ [[], []])
  have i2 := inv_ok (P := P) (Q := Q) (S := S) (T := T) (h := h ++ [[], []])
  refine ⟨some (.int (-Q)), some (.int P), c13, c14, ?_⟩
  have f1 : ([] ++ [.int (nU c T (-S) T' (-S'))] ++ [.int (nU c T (-S) (-Q') P')]) ++ [.int (nU c (-Q) P T' (-S'))] ++ [.int (nU c (-Q) P (-Q') P')] = rU c P Q S T P' Q' S' T' := by simp [rU]
  have f2 : ([] ++ [.int (nW a lead b T (-S) T' (-S'))] ++ [.int (nW a lead b T (-S) (-Q') P')]) ++ [.int (nW a lead b (-Q) P T' (-S'))] ++ [.int (nW a lead b (-Q) P (-Q') P')] = rW a lead b P Q S T P' Q' S' T' := by simp [rW]
  rw [f1, f2] at e2
  generalize rU c P Q S T P' Q' S' T' = U2 at *
  generalize rW a lead b P Q S T P' Q' S' T' = W2 at *
  generalize ([] ++ [D.int (nU c T (-S) T' (-S'))] ++ [.int (nU c T (-S) (-Q') P')]) = U1 at *
  generalize ([] ++ [D.int (nW a lead b T (-S) T' (-S'))] ++ [.int (nW a lead b T (-S) (-Q') P')]) = W1 at *
  unfold cnF
  generalize cnI = B at *
  simp [mFun, line, mSeq, mAsg, mRet, mRetN, mDrop, mIfS, mTBin, mBin, mVar, mC, mCons, mNil, mTup, mLst, mLstC, mCB, mCall, mCallK, mIf, mAndV, mOrV, mNotV, mAnd, mOr, mNot, mTru, mUn, mChain, tB', mNx, mNev, mFor, mForL, mWhile, mComp, mCompL, mYes, gN, gT, gsCons, gsNil, gSubD, mApp, mPar, mPar3, mAugI, mSl, mSo, mNo, iR1, iR2, iR3, iS, iEn, iL, iT, asB, asL, asT, asLT, asInt, oB, oAdd, oSub, oMulA, oMul, oDiv, oMod, oPow, oNeg, cI, oEq, oNe, oIx, asSeq, oInt, oAbs, oLen, oMax2, oMin2, oDivmod, oIsi, tyD, okCell, truthD, mFrz, Option.bind_some, Option.map_some, Option.bind_none, Option.map_none, cond_true, cond_false, List.map_cons, List.map_nil, List.cons_append, List.nil_append, List.getElem?_cons_zero, List.getElem?_cons_succ, List.set_cons_zero, List.set_cons_succ, List.length_cons, List.length_nil, List.replicate , i1, i2, e1, e2]
end
theorem frz2 {F : MF} {ds : List D} {h : Cells} {U W : List D} {d : D} (e : F ds h = some (d, h ++ [U, W])) (hc : ∀ x ∈ h, cleans x = true) (c : clean d = true) (nc : ∀ j, d ≠ .cell j) : mFrz F ds h = some (d, h) := by
  have t : (h ++ [U, W]).take h.length = h := by simp
  have f : frzD h.length (h ++ [U, W]) d = some d := by
    cases d <;> first | exact absurd rfl (nc _) | simp only [frzD, c, cond_true]
  have b : (decide (h.length ≤ (h ++ [U, W]).length) && h.all cleans) = true := by
    rw [Bool.and_eq_true]
    exact ⟨decide_eq_true (by rw [List.length_append]; omega), List.all_eq_true.mpr hc⟩
  unfold mFrz
  rw [e]
  simp only [Option.bind_some, t, b, cond_true, f, Option.map_some]
def third (r1 : Tri) (v : Un) : Tri := (r1.1 * v.lead, 2 * r1.1 * v.k + r1.2.1, (r1.1 * v.k * v.k + r1.2.1 * v.k + r1.2.2) / v.lead)
theorem pdisc_ok {a b c : Int} {h : Cells} (ha : Bd 3000 a) (hb : Bd 3000 b) (hc : Bd 3000 c) (hf : isF a b c) : F_discriminant_of [T3 a b c] h = some (.int (b * b - 4 * a * c), h) := by
  have e1 := check_form_ok (h := h) ha hb hc hf
  have w1 : wideM b b = true := wide_B (hb.mono (by decide)) (hb.mono (by decide))
  have f : Bd 3000 (4 : Int) := .four (by decide)
  have w2 : wideM 4 a = true := wide_B (f.mono (by decide)) (ha.mono (by decide))
  have w3 : wideM (4 * a) c = true := wide_B ((f.mul ha).mono (by decide)) (hc.mono (by decide))
  simp [F_discriminant_of, b_discriminant_of, mFun, line, mSeq, mAsg, mRet, mRetN, mDrop, mIfS, mTBin, mBin, mVar, mC, mCons, mNil, mTup, mLst, mLstC, mCB, mCall, mCallK, mIf, mAndV, mOrV, mNotV, mAnd, mOr, mNot, mTru, mUn, mChain, tB', mNx, mNev, mFor, mForL, mWhile, mComp, mCompL, mYes, gN, gT, gsCons, gsNil, gSubD, mApp, mPar, mPar3, mAugI, mSl, mSo, mNo, iR1, iR2, iR3, iS, iEn, iL, iT, asB, asL, asT, asLT, asInt, oB, oAdd, oSub, oMulA, oMul, oDiv, oMod, oPow, oNeg, cI, oEq, oNe, oIx, asSeq, oInt, oAbs, oLen, oMax2, oMin2, oDivmod, oIsi, tyD, okCell, truthD, mFrz, Option.bind_some, Option.map_some, Option.bind_none, Option.map_none, cond_true, cond_false, List.map_cons, List.map_nil, List.cons_append, List.nil_append, List.getElem?_cons_zero, List.getElem?_cons_succ, List.set_cons_zero, List.set_cons_succ, List.length_cons, List.length_nil, List.replicate , e1, w1, w2, w3]
theorem numbers_ok {n A B C A' B' C' a b c p q r s a' b' c' p' q' r' s' : Int} {h : Cells} (hc : ∀ x ∈ h, cleans x = true) (o : okD n) (g : Gd n A B C) (g' : Gd n A' B' C') (R : Rd h A B C a b c p q r s) (R' : Rd h A' B' C' a' b' c' p' q' r' s')
    (ka : Bd 10 a) (kb : Bd 10 b) (kc : Bd 10 c) (ka' : Bd 10 a') (kb' : Bd 10 b') (kc' : Bd 10 c') (m0 : 0 < a) (m1 : a < 400) {v : Un} (U : UnOk (a, b, c) (a', b', c') v) :
    ∃ X1 X2 X3 X4 Y1 Y2 Y3 Y4, F_composing_numbers [T3 A B C, T3 A' B' C'] h = some (.tup [T3 (third (a, b, c) v).1 (third (a, b, c) v).2.1 (third (a, b, c) v).2.2, .tup (rU (third (a, b, c) v).2.2 X1 X2 X3 X4 Y1 Y2 Y3 Y4 ++ rW a v.lead (third (a, b, c) v).2.1 X1 X2 X3 X4 Y1 Y2 Y3 Y4)], h) ∧
      Bd 3000 X1 ∧ Bd 3000 X2 ∧ Bd 3000 X3 ∧ Bd 3000 X4 ∧ Bd 3000 Y1 ∧ Bd 3000 Y2 ∧ Bd 3000 Y3 ∧ Bd 3000 Y4 ∧ Bd 20 a ∧ Bd 60 (third (a, b, c) v).2.1 ∧ Bd 100 (third (a, b, c) v).2.2 ∧ Bd 30 v.lead ∧
      X1 * X4 - X2 * X3 = 1 ∧ vl A B C X1 X3 = a ∧ md A B C X1 X2 X3 X4 = (third (a, b, c) v).2.1 ∧ (v.x * v.s + v.y * v.t = 1 → Y1 * Y4 - Y2 * Y3 = 1) ∧ vl A' B' C' Y1 Y3 = v.lead ∧ md A' B' C' Y1 Y2 Y3 Y4 = 2 * v.lead * v.u + v.mid := by
  have A3 : ∀ {x : Int}, Bd 800 x → Bd 3000 x := fun h => h.mono (by decide)
  have T3' : ∀ {x : Int}, Bd 10 x → Bd 3000 x := fun h => h.mono (by decide)
  have e1 := check_form_ok (h := h) (A3 g.k.1) (A3 g.k.2.1) (A3 g.k.2.2) g.f
  have e2 := check_form_ok (h := h) (A3 g'.k.1) (A3 g'.k.2.1) (A3 g'.k.2.2) g'.f
  have e3 := pdisc_ok (h := h) (A3 g.k.1) (A3 g.k.2.1) (A3 g.k.2.2) g.f
  have e4 := pdisc_ok (h := h) (A3 g'.k.1) (A3 g'.k.2.1) (A3 g'.k.2.2) g'.f
  rw [g.d] at e3
  rw [g'.d] at e4
  obtain ⟨P, Q, S, T, e5, n1, n2, n3, n4, el, em, dt⟩ := uniting_ok R R' g'.k (T3' ka') (T3' kb') (T3' kc') m0 m1 (kb.mono (by decide)) U
  obtain ⟨e, f, _, se, ek⟩ := U.b2
  have k0 : 0 ≤ v.k ∧ v.k < v.lead := by
    rw [ek]
    exact ⟨Int.emod_nonneg _ (by have := U.l0; omega), Int.emod_lt_of_pos _ U.l0⟩
  have sk : sm v.k = true := by
    have := sm_nat U.sl
    exact decide_eq_true (by omega)
  have o1 : sm 1 = true := by decide
  have z1 : sm 0 = true := by decide
  have c1 := (mix R.bp o1 R.bq z1).mono (show 2900 + 31 ≤ 3000 by decide)
  have c2 := (mix R.bp sk R.bq o1).mono (show 2900 + 31 ≤ 3000 by decide)
  have c3 := (mix R.br o1 R.bs z1).mono (show 2900 + 31 ≤ 3000 by decide)
  have c4 := (mix R.br sk R.bs o1).mono (show 2900 + 31 ≤ 3000 by decide)
  have d1 := (mix n1 o1 n2 z1).mono (show 2931 + 31 ≤ 3000 by decide)
  have d2 := (mix n1 U.su n2 o1).mono (show 2931 + 31 ≤ 3000 by decide)
  have d3 := (mix n3 o1 n4 z1).mono (show 2931 + 31 ≤ 3000 by decide)
  have d4 := (mix n3 U.su n4 o1).mono (show 2931 + 31 ≤ 3000 by decide)
  have e6 := led_ok (h := h) (A3 g.k.1) (A3 g.k.2.1) (A3 g.k.2.2) c1 c2 c3 c4
  have e7 := led_ok (h := h) (A3 g'.k.1) (A3 g'.k.2.1) (A3 g'.k.2.2) d1 d2 d3 d4
  have q1 := comp_v A B C p q r s 1 0
  have q2 := comp_m A B C p q r s 1 v.k 0 1
  have q3 := comp_v A B C p q r s v.k 1
  rw [R.i.ea, R.i.eb, R.i.ec] at q1 q2 q3
  obtain ⟨l1, l2, l3⟩ := led_s a b c v.k
  rw [l1] at q1
  rw [l2] at q2
  rw [l3] at q3
  rw [← q1, ← q2, ← q3] at e6
  have el' : vl A' B' C' (P * 1 + Q * 0) (S * 1 + T * 0) = v.lead := by
    rw [show P * 1 + Q * 0 = P by omega, show S * 1 + T * 0 = S by omega]
    exact el
  rw [el'] at e7
  have bk : Bd 30 v.k := sm_bd sk
  have bL : Bd 30 v.lead := sm_bd U.sl
  have bm : Bd 3000 (2 * a * v.k + b) := ((((Bd.two (k := 2) (by decide)).mul ka).mul bk).add (kb.mono (by decide))).mono (by decide)
  have bc' : Bd 100 ((a * v.k * v.k + b * v.k + c) / v.lead) := (div_bd ((((ka.mul bk).mul bk).add ((kb.mul bk).mono (by decide))).add (kc.mono (by decide)) : Bd _ (a * v.k * v.k + b * v.k + c))).mono (by decide)
  have bl : Bd 2999 (a * v.k * v.k + b * v.k + c) := ((((ka.mul bk).mul bk).add ((kb.mul bk).mono (by decide))).add (kc.mono (by decide))).mono (by decide)
  have bc : Bd 3000 ((a * v.k * v.k + b * v.k + c) / v.lead) := (div_bd bl).mono (by decide)
  obtain ⟨b11, b12, b13, b14, e8⟩ := cn_all (h := h) (a0 := some (T3 A B C)) (a1 := some (T3 A' B' C')) (a6 := some (.int (a * v.k * v.k + b * v.k + c))) (a11 := none) (a12 := none) (a13 := none) (a14 := none) (T3' ka) bm (bL.mono (by decide)) bc c1 c2 c3 c4 d1 d2 d3 d4
  have w1 : wideM a v.lead = true := wide_B (ka.mono (by decide)) (bL.mono (by decide))
  have wd : wideD v.lead = true := divS U.l0 (by have := sm_nat U.sl; omega)
  refine ⟨p * 1 + q * 0, p * v.k + q * 1, r * 1 + s * 0, r * v.k + s * 1, P * 1 + Q * 0, P * v.u + Q * 1, S * 1 + T * 0, S * v.u + T * 1, ?_, c1, c2, c3, c4, d1, d2, d3, d4, ka.mono (by decide), ((((Bd.two (k := 2) (by decide)).mul ka).mul bk).add (kb.mono (by decide))).mono (by decide), bc', bL, ?_, ?_, ?_, ?_, ?_, ?_⟩
  rotate_left
  · exact det_mul p q r s 1 v.k 0 1 R.i.dt (by omega)
  · exact q1.symm
  · exact q2.symm
  · exact fun hh => det_mul P Q S T 1 v.u 0 1 (dt hh) (by omega)
  · exact el'
  · have z2 := comp_m A' B' C' P Q S T 1 v.u 0 1
    rw [el, em] at z2
    rw [← z2]
    exact (led_s v.lead v.mid (vl A' B' C' Q T) v.u).2.1
  have lV : (rU ((a * v.k * v.k + b * v.k + c) / v.lead) (p * 1 + q * 0) (p * v.k + q * 1) (r * 1 + s * 0) (r * v.k + s * 1) (P * 1 + Q * 0) (P * v.u + Q * 1) (S * 1 + T * 0) (S * v.u + T * 1)).length = 4 := rfl
  have lW : (rW a v.lead (2 * a * v.k + b) (p * 1 + q * 0) (p * v.k + q * 1) (r * 1 + s * 0) (r * v.k + s * 1) (P * 1 + Q * 0) (P * v.u + Q * 1) (S * 1 + T * 0) (S * v.u + T * 1)).length = 4 := rfl
  have cl : cleans (rU ((a * v.k * v.k + b * v.k + c) / v.lead) (p * 1 + q * 0) (p * v.k + q * 1) (r * 1 + s * 0) (r * v.k + s * 1) (P * 1 + Q * 0) (P * v.u + Q * 1) (S * 1 + T * 0) (S * v.u + T * 1) ++ rW a v.lead (2 * a * v.k + b) (p * 1 + q * 0) (p * v.k + q * 1) (r * 1 + s * 0) (r * v.k + s * 1) (P * 1 + Q * 0) (P * v.u + Q * 1) (S * 1 + T * 0) (S * v.u + T * 1)) = true := rfl
  unfold third
  dsimp only
  generalize rU ((a * v.k * v.k + b * v.k + c) / v.lead) (p * 1 + q * 0) (p * v.k + q * 1) (r * 1 + s * 0) (r * v.k + s * 1) (P * 1 + Q * 0) (P * v.u + Q * 1) (S * 1 + T * 0) (S * v.u + T * 1) = V at *
  generalize rW a v.lead (2 * a * v.k + b) (p * 1 + q * 0) (p * v.k + q * 1) (r * 1 + s * 0) (r * v.k + s * 1) (P * 1 + Q * 0) (P * v.u + Q * 1) (S * 1 + T * 0) (S * v.u + T * 1) = W at *
  have ln : V.length + W.length ≤ 16777216 := by omega
  unfold F_composing_numbers
  refine frz2 (U := V) (W := W) ?_ hc (by simp [clean, cleans, cl]) (fun _ z => by cases z)
  rw [b_cn_eq]
  generalize cnF = FF at *
  generalize p * 1 + q * 0 = X1 at *
  generalize p * v.k + q * 1 = X2 at *
  generalize r * 1 + s * 0 = X3 at *
  generalize r * v.k + s * 1 = X4 at *
  generalize P * 1 + Q * 0 = Y1 at *
  generalize P * v.u + Q * 1 = Y2 at *
  generalize S * 1 + T * 0 = Y3 at *
  generalize S * v.u + T * 1 = Y4 at *
  generalize md A' B' C' Y1 Y2 Y3 Y4 = Z1 at *
  generalize vl A' B' C' Y2 Y4 = Z2 at *
  generalize a * v.k * v.k + b * v.k + c = K1 at *
  generalize 2 * a * v.k + b = K2 at *
  simp [mFun, line, mSeq, mAsg, mRet, mRetN, mDrop, mIfS, mTBin, mBin, mVar, mC, mCons, mNil, mTup, mLst, mLstC, mCB, mCall, mCallK, mIf, mAndV, mOrV, mNotV, mAnd, mOr, mNot, mTru, mUn, mChain, tB', mNx, mNev, mFor, mForL, mWhile, mComp, mCompL, mYes, gN, gT, gsCons, gsNil, gSubD, mApp, mPar, mPar3, mAugI, mSl, mSo, mNo, iR1, iR2, iR3, iS, iEn, iL, iT, asB, asL, asT, asLT, asInt, oB, oAdd, oSub, oMulA, oMul, oDiv, oMod, oPow, oNeg, cI, oEq, oNe, oIx, asSeq, oInt, oAbs, oLen, oMax2, oMin2, oDivmod, oIsi, tyD, okCell, truthD, mFrz, Option.bind_some, Option.map_some, Option.bind_none, Option.map_none, cond_true, cond_false, List.map_cons, List.map_nil, List.cons_append, List.nil_append, List.getElem?_cons_zero, List.getElem?_cons_succ, List.set_cons_zero, List.set_cons_succ, List.length_cons, List.length_nil, List.replicate , e1, e2, e3, e4, e5, e6, e7, e8, w1, wd, atI, ixN, oAddC, g0, g1', s0, s1', oTup, ln]
end Law

set_option Elab.async false
set_option linter.all false
set_option maxRecDepth 100000
set_option maxHeartbeats 4000000
namespace Law
open PySem L2 Zm
abbrev TT (r : Tri) : D := T3 r.1 r.2.1 r.2.2
structure Cmp (n : Int) (r1 r2 r : Tri) : Prop where
  ex : ∃ v, un r1 r2 = some v ∧ (v.mid + 2 * v.lead * v.u = r1.2.1 + 2 * r1.1 * v.k ∧ v.x * v.s + v.y * v.t = 1) ∧ Gd n (third r1 v).1 (third r1 v).2.1 (third r1 v).2.2 ∧ RD (third r1 v).1 (third r1 v).2.1 (third r1 v).2.2 = r
def aB (x : D) : Bool := match x with
  | .tup [.int a, .int b, .int c] => decide (0 < a ∧ a < 400)
  | _ => false
theorem a_all : ∀ n ∈ allD, (cls n).all aB = true := by decide +kernel
theorem cls_in {n a b c : Int} (o : okD n) (m : T3 a b c ∈ cls n) : 0 < a ∧ a < 400 ∧ Bd 10 a ∧ Bd 10 b ∧ Bd 10 c := by
  have h : aB (T3 a b c) = true := List.all_eq_true.mp (a_all n (mem_allD o)) _ m
  have h' := of_decide_eq_true h
  obtain ⟨a', b', c', e, _, _, _, k1, k2, k3⟩ := cls_mem o m
  cases e
  exact ⟨h'.1, h'.2, k1, k2, k3⟩
theorem composed_ok {n A B C A' B' C' : Int} {r1 r2 r : Tri} {h : Cells} (hc : ∀ x ∈ h, cleans x = true) (o : okD n) (g : Gd n A B C) (g' : Gd n A' B' C') (e : RD A B C = r1) (e' : RD A' B' C' = r2) (K : Cmp n r1 r2 r) :
    F_composed [T3 A B C, T3 A' B' C'] h = some (TT r, h) := by
  obtain ⟨a, b, c, p, q, s, t, R, er⟩ := rd_of (g.base o) h
  obtain ⟨a', b', c', p', q', s', t', R', er'⟩ := rd_of (g'.base o) h
  have m := (RD_red o g).1
  have m' := (RD_red o g').1
  rw [er] at m e
  rw [er'] at m' e'
  subst e e'
  obtain ⟨k1, k2, k3, k4, k5⟩ := cls_in o m
  obtain ⟨_, _, j3, j4, j5⟩ := cls_in o m'
  obtain ⟨v, ev, _, gv, rv⟩ := K.ex
  obtain ⟨X1, X2, X3, X4, Y1, Y2, Y3, Y4, e1, _⟩ := numbers_ok hc o g g' R R' k3 k4 k5 j3 j4 j5 k1 k2 (un_ok ev)
  have e2 := reduced_ok (gv.base o) gv.f (h := h)
  generalize (rU (third (a, b, c) v).2.2 X1 X2 X3 X4 Y1 Y2 Y3 Y4 ++ rW a v.lead (third (a, b, c) v).2.1 X1 X2 X3 X4 Y1 Y2 Y3 Y4) = d at e1
  rw [rv] at e2
  generalize (third (a, b, c) v).1 = X at *
  generalize (third (a, b, c) v).2.1 = Y at *
  generalize (third (a, b, c) v).2.2 = Z at *
  obtain ⟨r1, r2, r3⟩ := r
  simp [F_composed, b_composed, mFun, line, mSeq, mAsg, mRet, mRetN, mDrop, mIfS, mTBin, mBin, mVar, mC, mCons, mNil, mTup, mLst, mLstC, mCB, mCall, mCallK, mIf, mAndV, mOrV, mNotV, mAnd, mOr, mNot, mTru, mUn, mChain, tB', mNx, mNev, mFor, mForL, mWhile, mComp, mCompL, mYes, gN, gT, gsCons, gsNil, gSubD, mApp, mPar, mPar3, mAugI, mSl, mSo, mNo, iR1, iR2, iR3, iS, iEn, iL, iT, asB, asL, asT, asLT, asInt, oB, oAdd, oSub, oMulA, oMul, oDiv, oMod, oPow, oNeg, cI, oEq, oNe, oIx, asSeq, oInt, oAbs, oLen, oMax2, oMin2, oDivmod, oIsi, tyD, okCell, truthD, mFrz, Option.bind_some, Option.map_some, Option.bind_none, Option.map_none, cond_true, cond_false, List.map_cons, List.map_nil, List.cons_append, List.nil_append, List.getElem?_cons_zero, List.getElem?_cons_succ, List.set_cons_zero, List.set_cons_succ, List.length_cons, List.length_nil, List.replicate , e1, e2]
/-! the law's product -/
abbrev cpC : MT := (mTBin oNe (mVar 3) (mC (.int 0)))
abbrev cpB : MB := (mSeq (mAsg (mBin oDiv (mVar 2) (mVar 3)) (gN 8))
    (mAsg (mTup (mCons (mVar 3) (mCons (mBin oSub (mVar 2) (mBin oMulA (mVar 8) (mVar 3))) (mCons (mVar 6) (mCons (mVar 7) (mCons (mBin oSub (mVar 4) (mBin oMulA (mVar 8) (mVar 6))) (mCons (mBin oSub (mVar 5) (mBin oMulA (mVar 8) (mVar 7))) mNil))))))) (gT 6 (gsCons (gN 2) (gsCons (gN 3) (gsCons (gN 4) (gsCons (gN 5) (gsCons (gN 6) (gsCons (gN 7) gsNil)))))))))
theorem b_cp_eq : b__law_completed = (mSeq (mAsg (mTup (mCons (mVar 0) (mCons (mVar 1) (mCons (mC (.int 1)) (mCons (mC (.int 0)) (mCons (mC (.int 0)) (mCons (mC (.int 1)) mNil))))))) (gT 6 (gsCons (gN 2) (gsCons (gN 3) (gsCons (gN 4) (gsCons (gN 5) (gsCons (gN 6) (gsCons (gN 7) gsNil))))))))
    (mSeq (mWhile (fun ms => slI ms 3 + 2) cpC cpB)
    (mRet (mTup (mCons (mVar 0) (mCons (mBin oSub (mC (.int 0)) (mBin oMulA (mVar 5) (mVar 2))) (mCons (mVar 1) (mCons (mBin oMulA (mVar 4) (mVar 2)) mNil)))))))) := rfl
def comO : Nat → Int → Int → Int → Int → Int → Int → Option (Int × Int × Int)
  | 0, _, _, _, _, _, _ => none
  | f + 1, one, two, p, q, r, s => if two = 0 then some (one, p, q) else (bif decide (0 < two) && (sm two && (sm (one / two) && (sm r && sm s))) then comO f two (one - one / two * two) r s (p - one / two * r) (q - one / two * s) else none)
theorem com_loop {h : Cells} {a0 a1 : Option D} : ∀ (f : Nat) (n o p q r s : Int) (a8 : Option D) (w : Int × Int × Int), comO f n o p q r s = some w → ∃ b3 b6 b7 b8, mWhileL cpC cpB f ⟨[a0, a1, some (.int n), some (.int o), some (.int p), some (.int q), some (.int r), some (.int s), a8], h⟩ = some (.nx, ⟨[a0, a1, some (.int w.1), b3, some (.int w.2.1), some (.int w.2.2), b6, b7, b8], h⟩)
  | 0, _, _, _, _, _, _, _, _, e => by cases e
  | f + 1, n, o, p, q, r, s, a8, w, e => by
    unfold comO at e
    have et : cpC ⟨[a0, a1, some (.int n), some (.int o), some (.int p), some (.int q), some (.int r), some (.int s), a8], h⟩ = some (!decide (o = 0), h) := by
      simp [cpC, mFun, line, mSeq, mAsg, mRet, mRetN, mDrop, mIfS, mTBin, mBin, mVar, mC, mCons, mNil, mTup, mLst, mLstC, mCB, mCall, mCallK, mIf, mAndV, mOrV, mNotV, mAnd, mOr, mNot, mTru, mUn, mChain, tB', mNx, mNev, mFor, mForL, mWhile, mComp, mCompL, mYes, gN, gT, gsCons, gsNil, gSubD, mApp, mPar, mPar3, mAugI, mSl, mSo, mNo, iR1, iR2, iR3, iS, iEn, iL, iT, asB, asL, asT, asLT, asInt, oB, oAdd, oSub, oMulA, oMul, oDiv, oMod, oPow, oNeg, cI, oEq, oNe, oIx, asSeq, oInt, oAbs, oLen, oMax2, oMin2, oDivmod, oIsi, tyD, okCell, truthD, mFrz, Option.bind_some, Option.map_some, Option.bind_none, Option.map_none, cond_true, cond_false, List.map_cons, List.map_nil, List.cons_append, List.nil_append, List.getElem?_cons_zero, List.getElem?_cons_succ, List.set_cons_zero, List.set_cons_succ, List.length_cons, List.length_nil, List.replicate ]
    by_cases ho : o = 0
    · rw [if_pos ho] at e
      cases e
      rw [decide_eq_true ho] at et
      exact ⟨_, _, _, _, while_no et⟩
    · rw [if_neg ho] at e
      rw [decide_eq_false ho] at et
      obtain ⟨c, e⟩ := bif_go e
      simp only [Bool.and_eq_true] at c
      obtain ⟨h0, h1, h2, h3, h4⟩ := c
      have o0 : 0 < o := of_decide_eq_true h0
      have w1 := sm_wide h2 h1
      have w2 := sm_wide h2 h3
      have w3 := sm_wide h2 h4
      have wd : wideD o = true := divS o0 (by have := sm_nat h1; omega)
      have eb : cpB ⟨[a0, a1, some (.int n), some (.int o), some (.int p), some (.int q), some (.int r), some (.int s), a8], h⟩ = some (.nx, ⟨[a0, a1, some (.int o), some (.int (n - n / o * o)), some (.int r), some (.int s), some (.int (p - n / o * r)), some (.int (q - n / o * s)), some (.int (n / o))], h⟩) := by
        simp [cpB, mFun, line, mSeq, mAsg, mRet, mRetN, mDrop, mIfS, mTBin, mBin, mVar, mC, mCons, mNil, mTup, mLst, mLstC, mCB, mCall, mCallK, mIf, mAndV, mOrV, mNotV, mAnd, mOr, mNot, mTru, mUn, mChain, tB', mNx, mNev, mFor, mForL, mWhile, mComp, mCompL, mYes, gN, gT, gsCons, gsNil, gSubD, mApp, mPar, mPar3, mAugI, mSl, mSo, mNo, iR1, iR2, iR3, iS, iEn, iL, iT, asB, asL, asT, asLT, asInt, oB, oAdd, oSub, oMulA, oMul, oDiv, oMod, oPow, oNeg, cI, oEq, oNe, oIx, asSeq, oInt, oAbs, oLen, oMax2, oMin2, oDivmod, oIsi, tyD, okCell, truthD, mFrz, Option.bind_some, Option.map_some, Option.bind_none, Option.map_none, cond_true, cond_false, List.map_cons, List.map_nil, List.cons_append, List.nil_append, List.getElem?_cons_zero, List.getElem?_cons_succ, List.set_cons_zero, List.set_cons_succ, List.length_cons, List.length_nil, List.replicate , w1, w2, w3, wd]
      obtain ⟨b3, b6, b7, b8, e2⟩ := com_loop f o (n - n / o * o) r s (p - n / o * r) (q - n / o * s) (some (.int (n / o))) w e
      exact ⟨b3, b6, b7, b8, by rw [while_go et eb]; exact e2⟩
def com (x y : Int) : Option (Int × Int × Int) := comO (y.natAbs + 2) x y 1 0 0 1
theorem completed_ok {x y : Int} {h : Cells} {w : Int × Int × Int} (e : com x y = some w) (s1 : sm w.1 = true) (s2 : sm w.2.1 = true) (s3 : sm w.2.2 = true) : F__law_completed [.int x, .int y] h = some (T4 x (0 - w.2.2 * w.1) y (w.2.1 * w.1), h) := by
  obtain ⟨b3, b6, b7, b8, e1⟩ := com_loop (h := h) (a0 := some (.int x)) (a1 := some (.int y)) (y.natAbs + 2) x y 1 0 0 1 none w e
  have e2 : (mWhile (fun ms => slI ms 3 + 2) cpC cpB) ⟨[some (.int x), some (.int y), some (.int x), some (.int y), some (.int 1), some (.int 0), some (.int 0), some (.int 1), none], h⟩ = some (.nx, ⟨[some (.int x), some (.int y), some (.int w.1), b3, some (.int w.2.1), some (.int w.2.2), b6, b7, b8], h⟩) := e1
  have w1 := sm_wide s3 s1
  have w2 := sm_wide s2 s1
  unfold F__law_completed
  rw [b_cp_eq]
  generalize mWhile (fun ms => slI ms 3 + 2) cpC cpB = W at e2 ⊢
  simp [mFun, line, mSeq, mAsg, mRet, mRetN, mDrop, mIfS, mTBin, mBin, mVar, mC, mCons, mNil, mTup, mLst, mLstC, mCB, mCall, mCallK, mIf, mAndV, mOrV, mNotV, mAnd, mOr, mNot, mTru, mUn, mChain, tB', mNx, mNev, mFor, mForL, mWhile, mComp, mCompL, mYes, gN, gT, gsCons, gsNil, gSubD, mApp, mPar, mPar3, mAugI, mSl, mSo, mNo, iR1, iR2, iR3, iS, iEn, iL, iT, asB, asL, asT, asLT, asInt, oB, oAdd, oSub, oMulA, oMul, oDiv, oMod, oPow, oNeg, cI, oEq, oNe, oIx, asSeq, oInt, oAbs, oLen, oMax2, oMin2, oDivmod, oIsi, tyD, okCell, truthD, mFrz, Option.bind_some, Option.map_some, Option.bind_none, Option.map_none, cond_true, cond_false, List.map_cons, List.map_nil, List.cons_append, List.nil_append, List.getElem?_cons_zero, List.getElem?_cons_succ, List.set_cons_zero, List.set_cons_succ, List.length_cons, List.length_nil, List.replicate , e2, w1, w2]
/-! turned -/
abbrev tuB : MB := (mSeq (mAsg (mBin oSub (mVar 2) (mVar 3)) (gN 4))
    (mIfS (mAnd (mTBin oEq (mCall 2 F__law_gcd (mCons (mVar 3) (mCons (mVar 4) mNil))) (mC (.int 1))) (mTBin oEq (mCall 2 F__law_gcd (mCons (mCall 3 F__law_value (mCons (mVar 0) (mCons (mVar 3) (mCons (mVar 4) mNil)))) (mCons (mVar 1) mNil))) (mC (.int 1)))) (mRet (mCall 2 F__law_led (mCons (mVar 0) (mCons (mCall 2 F__law_completed (mCons (mVar 3) (mCons (mVar 4) mNil))) mNil)))) mNx))
abbrev tuI : MB := (mFor (iR1 (mCons (mBin oAdd (mVar 2) (mC (.int 1))) mNil)) (gN 3) tuB)
theorem b_tu_eq : b__law_turned = (mSeq (mFor (iR2 (mCons (mC (.int 1)) (mCons (mC (.int 40)) mNil))) (gN 2) tuI)
    (mRet (mVar 0))) := rfl
def tuX (a b c m g : Int) : Nat → Int → Option (Int × Int)
  | 0, _ => none
  | f + 1, x => bif hit a b c m x (g - x) then some (x, g - x) else tuX a b c m g f (x + 1)
def tuG (a b c m : Int) : Nat → Int → Option (Int × Int)
  | 0, _ => none
  | f + 1, g => match tuX a b c m g (g + 1).toNat 0 with
    | some r => some r
    | none => tuG a b c m f (g + 1)
/-- what stands at a place, when the completion is small -/
def chg (x y : Int) : Option (Int × Int × Int × Int) := match com x y with
  | some (n, p, q) => bif sm n && (sm p && (sm q && (sm (0 - q * n) && sm (p * n)))) then some (x, 0 - q * n, y, p * n) else none
  | none => none
theorem chg_ok {x y : Int} {h : Cells} {w : Int × Int × Int × Int} (e : chg x y = some w) : F__law_completed [.int x, .int y] h = some (T4 w.1 w.2.1 w.2.2.1 w.2.2.2, h) ∧ w.1 = x ∧ w.2.2.1 = y ∧ sm w.2.1 = true ∧ sm w.2.2.2 = true := by
  unfold chg at e
  split at e
  · rename_i n p q ec
    obtain ⟨c, e⟩ := bif_go e
    simp only [Bool.and_eq_true] at c
    cases e
    exact ⟨completed_ok (w := (n, p, q)) ec c.1 c.2.1 c.2.2.1, rfl, rfl, c.2.2.2.1, c.2.2.2.2⟩
  · cases e
def ledT (a b c : Int) (w : Int × Int × Int × Int) : D := T3 (vl a b c w.1 w.2.2.1) (md a b c w.1 w.2.1 w.2.2.1 w.2.2.2) (vl a b c w.2.1 w.2.2.2)
theorem tu_step {h : Cells} {a b c m g x : Int} {a4 : Option D} (ba : Bd 3000 a) (bb : Bd 3000 b) (bc : Bd 3000 c) (x0 : 0 ≤ x) (x1 : x ≤ g) (g1 : g < 100) (hk : hit a b c m x (g - x) = true → ∃ w, chg x (g - x) = some w) :
    tuB ⟨[some (T3 a b c), some (.int m), some (.int g), some (.int x), a4], h⟩ = some (match hit a b c m x (g - x), chg x (g - x) with | true, some w => .ret (ledT a b c w) | _, _ => .nx, ⟨[some (T3 a b c), some (.int m), some (.int g), some (.int x), some (.int (g - x))], h⟩) := by
  have bx : Bd 3000 x := Nat.lt_of_lt_of_le (show x.natAbs < 2 ^ 10 by omega) (Nat.pow_le_pow_right (by decide) (by decide))
  have by' : Bd 3000 (g - x) := Nat.lt_of_lt_of_le (show (g - x).natAbs < 2 ^ 10 by omega) (Nat.pow_le_pow_right (by decide) (by decide))
  have e := lvalue_ok (h := h) ba bb bc bx by'
  have q1 := gcd_ok (h := h) (x := x) (y := g - x)
  have q2 := gcd_ok (h := h) (x := vl a b c x (g - x)) (y := m)
  cases hh : hit a b c m x (g - x) with
  | true =>
    obtain ⟨⟨W1, W2, W3, W4⟩, ew⟩ := hk hh
    rw [ew]
    obtain ⟨ec, w1, w2, w3, w4⟩ := chg_ok (h := h) ew
    dsimp only at ec w1 w2 w3 w4
    have el := lled_ok (h := h) ba bb bc (p := W1) (q := W2) (r := W3) (s := W4) (by rw [w1]; exact bx) ((sm_bd w3).mono (by decide)) (by rw [w2]; exact by') ((sm_bd w4).mono (by decide))
    unfold hit cop at hh
    rw [Bool.and_eq_true, decide_eq_true_eq, decide_eq_true_eq] at hh
    rw [hh.1] at q1
    rw [hh.2] at q2
    show _ = some (Out.ret (T3 (vl a b c W1 W3) (md a b c W1 W2 W3 W4) (vl a b c W2 W4)), _)
    generalize vl a b c W1 W3 = X at *
    generalize md a b c W1 W2 W3 W4 = Y at *
    generalize vl a b c W2 W4 = Z at *
    generalize vl a b c x (g - x) = V at *
    simp [tuB, mFun, line, mSeq, mAsg, mRet, mRetN, mDrop, mIfS, mTBin, mBin, mVar, mC, mCons, mNil, mTup, mLst, mLstC, mCB, mCall, mCallK, mIf, mAndV, mOrV, mNotV, mAnd, mOr, mNot, mTru, mUn, mChain, tB', mNx, mNev, mFor, mForL, mWhile, mComp, mCompL, mYes, gN, gT, gsCons, gsNil, gSubD, mApp, mPar, mPar3, mAugI, mSl, mSo, mNo, iR1, iR2, iR3, iS, iEn, iL, iT, asB, asL, asT, asLT, asInt, oB, oAdd, oSub, oMulA, oMul, oDiv, oMod, oPow, oNeg, cI, oEq, oNe, oIx, asSeq, oInt, oAbs, oLen, oMax2, oMin2, oDivmod, oIsi, tyD, okCell, truthD, mFrz, Option.bind_some, Option.map_some, Option.bind_none, Option.map_none, cond_true, cond_false, List.map_cons, List.map_nil, List.cons_append, List.nil_append, List.getElem?_cons_zero, List.getElem?_cons_succ, List.set_cons_zero, List.set_cons_succ, List.length_cons, List.length_nil, List.replicate , e, q1, q2, ec, el]
  | false =>
    unfold hit cop at hh
    by_cases z1 : Nat.gcd x.natAbs (g - x).natAbs = 1
    · have z2 : ¬ Nat.gcd (vl a b c x (g - x)).natAbs m.natAbs = 1 := fun z => by
        rw [decide_eq_true z1, decide_eq_true z] at hh
        cases hh
      have z2' : ¬ ((Nat.gcd (vl a b c x (g - x)).natAbs m.natAbs : Nat) : Int) = 1 := by omega
      rw [z1] at q1
      generalize vl a b c x (g - x) = V at *
      simp [tuB, mFun, line, mSeq, mAsg, mRet, mRetN, mDrop, mIfS, mTBin, mBin, mVar, mC, mCons, mNil, mTup, mLst, mLstC, mCB, mCall, mCallK, mIf, mAndV, mOrV, mNotV, mAnd, mOr, mNot, mTru, mUn, mChain, tB', mNx, mNev, mFor, mForL, mWhile, mComp, mCompL, mYes, gN, gT, gsCons, gsNil, gSubD, mApp, mPar, mPar3, mAugI, mSl, mSo, mNo, iR1, iR2, iR3, iS, iEn, iL, iT, asB, asL, asT, asLT, asInt, oB, oAdd, oSub, oMulA, oMul, oDiv, oMod, oPow, oNeg, cI, oEq, oNe, oIx, asSeq, oInt, oAbs, oLen, oMax2, oMin2, oDivmod, oIsi, tyD, okCell, truthD, mFrz, Option.bind_some, Option.map_some, Option.bind_none, Option.map_none, cond_true, cond_false, List.map_cons, List.map_nil, List.cons_append, List.nil_append, List.getElem?_cons_zero, List.getElem?_cons_succ, List.set_cons_zero, List.set_cons_succ, List.length_cons, List.length_nil, List.replicate , e, q1, q2, z2, z2']
    · have z1' : ¬ ((Nat.gcd x.natAbs (g - x).natAbs : Nat) : Int) = 1 := by omega
      simp [tuB, mFun, line, mSeq, mAsg, mRet, mRetN, mDrop, mIfS, mTBin, mBin, mVar, mC, mCons, mNil, mTup, mLst, mLstC, mCB, mCall, mCallK, mIf, mAndV, mOrV, mNotV, mAnd, mOr, mNot, mTru, mUn, mChain, tB', mNx, mNev, mFor, mForL, mWhile, mComp, mCompL, mYes, gN, gT, gsCons, gsNil, gSubD, mApp, mPar, mPar3, mAugI, mSl, mSo, mNo, iR1, iR2, iR3, iS, iEn, iL, iT, asB, asL, asT, asLT, asInt, oB, oAdd, oSub, oMulA, oMul, oDiv, oMod, oPow, oNeg, cI, oEq, oNe, oIx, asSeq, oInt, oAbs, oLen, oMax2, oMin2, oDivmod, oIsi, tyD, okCell, truthD, mFrz, Option.bind_some, Option.map_some, Option.bind_none, Option.map_none, cond_true, cond_false, List.map_cons, List.map_nil, List.cons_append, List.nil_append, List.getElem?_cons_zero, List.getElem?_cons_succ, List.set_cons_zero, List.set_cons_succ, List.length_cons, List.length_nil, List.replicate , q1, z1, z1']
/-- the place that is found, with its change -/
def tuW (a b c m g : Int) : Nat → Int → Option (Option (Int × Int × Int × Int))
  | 0, _ => some none
  | f + 1, x => bif hit a b c m x (g - x) then (match chg x (g - x) with
    | some w => some (some w)
    | none => none) else tuW a b c m g f (x + 1)
def tuV (a b c m : Int) : Nat → Int → Option (Int × Int × Int × Int)
  | 0, _ => none
  | f + 1, g => match tuW a b c m g (g + 1).toNat 0 with
    | some (some w) => some w
    | some none => tuV a b c m f (g + 1)
    | none => none
theorem tu_in {h : Cells} {a b c m g : Int} (ba : Bd 3000 a) (bb : Bd 3000 b) (bc : Bd 3000 c) (g1 : g < 100) : ∀ (f : Nat) (x : Int) (a3 a4 : Option D) (w : Option (Int × Int × Int × Int)), 0 ≤ x → x + f ≤ g + 1 → tuW a b c m g f x = some w → ∃ b3 b4, mForL (gN 3) tuB (intsD x f) ⟨[some (T3 a b c), some (.int m), some (.int g), a3, a4], h⟩ =
      some (match w with | some w => .ret (ledT a b c w) | none => .nx, ⟨[some (T3 a b c), some (.int m), some (.int g), b3, b4], h⟩)
  | 0, x, a3, a4, w, _, _, e => by cases e; exact ⟨a3, a4, rfl⟩
  | f + 1, x, a3, a4, w, x0, x1, e => by
    unfold tuW at e
    have st := tu_step (h := h) (m := m) (a4 := a4) ba bb bc x0 (by omega) g1 (fun hh => by
      rw [hh] at e
      dsimp only [cond_true] at e
      split at e
      · exact ⟨_, by assumption⟩
      · cases e)
    rw [intsD_cons]
    simp only [mForL, gN, List.set_cons_succ, List.set_cons_zero, Option.bind_some, st]
    cases hh : hit a b c m x (g - x) with
    | true =>
      rw [hh] at e
      dsimp only [cond_true] at e
      split at e
      · rename_i w' ew
        cases e
        rw [ew]
        exact ⟨_, _, rfl⟩
      · cases e
    | false =>
      rw [hh] at e
      obtain ⟨b3, b4, e2⟩ := tu_in ba bb bc g1 f (x + 1) (some (.int x)) (some (.int (g - x))) w (by omega) (by omega) e
      exact ⟨b3, b4, e2⟩
theorem tu_out {h : Cells} {a b c m : Int} (ba : Bd 3000 a) (bb : Bd 3000 b) (bc : Bd 3000 c) : ∀ (f : Nat) (g : Int) (a2 a3 a4 : Option D) (w : Int × Int × Int × Int), 0 ≤ g → g + f ≤ 50 → tuV a b c m f g = some w → ∃ b2 b3 b4, mForL (gN 2) tuI (intsD g f) ⟨[some (T3 a b c), some (.int m), a2, a3, a4], h⟩ =
      some (.ret (ledT a b c w), ⟨[some (T3 a b c), some (.int m), b2, b3, b4], h⟩)
  | 0, g, a2, a3, a4, w, _, _, e => by cases e
  | f + 1, g, a2, a3, a4, w, g0, g1, e => by
    unfold tuV at e
    have go : ∀ w' : Option (Int × Int × Int × Int), tuW a b c m g (g + 1).toNat 0 = some w' → ∃ b3 b4, tuI ⟨[some (T3 a b c), some (.int m), some (.int g), a3, a4], h⟩ = some (match w' with | some w => .ret (ledT a b c w) | none => .nx, ⟨[some (T3 a b c), some (.int m), some (.int g), b3, b4], h⟩) := fun w' ew => by
      obtain ⟨b3, b4, e1⟩ := tu_in (h := h) ba bb bc (by omega) (g + 1).toNat 0 a3 a4 w' (by omega) (by omega) ew
      exact ⟨b3, b4, for_iR1 (j := g + 1) (h1 := h) rfl (decide_eq_true (by omega)) e1⟩
    rw [intsD_cons]
    split at e
    · rename_i w' ew
      cases e
      obtain ⟨b3, b4, st⟩ := go _ ew
      refine ⟨some (.int g), b3, b4, ?_⟩
      simp only [mForL, gN, List.set_cons_succ, List.set_cons_zero, Option.bind_some, st]
    · rename_i ew
      obtain ⟨b3, b4, st⟩ := go _ ew
      obtain ⟨c2, c3, c4, e2⟩ := tu_out ba bb bc f (g + 1) (some (.int g)) b3 b4 w (by omega) (by omega) e
      refine ⟨c2, c3, c4, ?_⟩
      simp only [mForL, gN, List.set_cons_succ, List.set_cons_zero, Option.bind_some, st]
      exact e2
    · cases e
theorem turned_ok {h : Cells} {a b c m : Int} {w : Int × Int × Int × Int} (ba : Bd 3000 a) (bb : Bd 3000 b) (bc : Bd 3000 c) (e : tuV a b c m 39 1 = some w) : F__law_turned [T3 a b c, .int m] h = some (ledT a b c w, h) := by
  obtain ⟨b2, b3, b4, e1⟩ := tu_out (h := h) ba bb bc 39 1 none none none w (by omega) (by omega) e
  have e2 : (mFor (iR2 (mCons (mC (.int 1)) (mCons (mC (.int 40)) mNil))) (gN 2) tuI) ⟨[some (T3 a b c), some (.int m), none, none, none], h⟩ = some (.ret (ledT a b c w), ⟨[some (T3 a b c), some (.int m), b2, b3, b4], h⟩) := by
    have : intsD 1 ((40 : Int) - 1).toNat = intsD 1 39 := rfl
    exact for_iR2 (i := 1) (j := 40) (h1 := h) rfl (by decide) (by decide) (by rw [this]; exact e1)
  unfold F__law_turned mFun
  rw [b_tu_eq]
  show (mSeq _ _ ⟨[some (T3 a b c), some (.int m), none, none, none], h⟩).bind _ = _
  unfold mSeq
  rw [e2]
  rfl
/-! the product -/
abbrev lpC : MT := (mTBin oNe (mBin oMod (mCB oInt (mCons (mBin oSub (mBin oAdd (mBin oIx (mVar 0) (mC (.int 1))) (mBin oMulA (mBin oMulA (mC (.int 2)) (mBin oIx (mVar 0) (mC (.int 0)))) (mVar 4))) (mBin oIx (mVar 2) (mC (.int 1)))) mNil)) (mBin oMulA (mC (.int 2)) (mBin oIx (mVar 2) (mC (.int 0))))) (mC (.int 0)))
abbrev lpB : MB := (mAsg (mBin oAdd (mVar 4) (mC (.int 1))) (gN 4))
theorem b_lp_eq : b__law_product = (mSeq (mPar 2 3 (mCons (mCall 2 F__law_turned (mCons (mVar 1) (mCons (mBin oIx (mVar 0) (mC (.int 0))) mNil))) (mCons (mCall 1 F__law_disc_of (mCons (mVar 0) mNil)) mNil)))
    (mSeq (mAsg (mC (.int 0)) (gN 4))
    (mSeq (mWhile (fun _ => 900) lpC lpB)
    (mSeq (mPar 5 6 (mCons (mBin oAdd (mBin oIx (mVar 0) (mC (.int 1))) (mBin oMulA (mBin oMulA (mC (.int 2)) (mBin oIx (mVar 0) (mC (.int 0)))) (mVar 4))) (mCons (mBin oMulA (mBin oIx (mVar 0) (mC (.int 0))) (mBin oIx (mVar 2) (mC (.int 0)))) mNil)))
    (mRet (mCall 1 F__law_reduced (mCons (mTup (mCons (mVar 6) (mCons (mVar 5) (mCons (mBin oDiv (mBin oSub (mBin oMulA (mVar 5) (mVar 5)) (mVar 3)) (mBin oMulA (mC (.int 4)) (mVar 6))) mNil)))) mNil))))))) := rfl
def lpS : Nat → Int → Int → Int → Int → Int → Option Int
  | 0, _, _, _, _, _ => none
  | f + 1, b, a, d, e, s => if (b + 2 * a * s - d) % (2 * e) = 0 then some s else (bif sm (s + 1) then lpS f b a d e (s + 1) else none)
theorem lp_loop {h : Cells} {a b c a' b' c' lead mid last : Int} {a3 a5 a6 : Option D} (ka : Bd 10 a) (l0 : 0 < lead) (sl : sm lead = true) : ∀ (f : Nat) (s r : Int), sm s = true → lpS f b a mid lead s = some r → sm r = true ∧ mWhileL lpC lpB f ⟨[some (T3 a b c), some (T3 a' b' c'), some (T3 lead mid last), a3, some (.int s), a5, a6], h⟩ = some (.nx, ⟨[some (T3 a b c), some (T3 a' b' c'), some (T3 lead mid last), a3, some (.int r), a5, a6], h⟩)
  | 0, _, _, _, e => by cases e
  | f + 1, s, r, hs, e => by
    unfold lpS at e
    have w1 : wideM 2 a = true := wide_B (.two (by decide)) (ka.mono (by decide))
    have w2 : wideM (2 * a) s = true := wide_B (((Bd.two (k := 2) (by decide)).mul ka).mono (by decide)) ((sm_bd hs).mono (by decide))
    have w3 : wideM 2 lead = true := wide_B (.two (by decide)) ((sm_bd sl).mono (by decide))
    have p2 : decide (0 < 2 * lead) = true := decide_eq_true (by omega)
    have et : lpC ⟨[some (T3 a b c), some (T3 a' b' c'), some (T3 lead mid last), a3, some (.int s), a5, a6], h⟩ = some (!decide ((b + 2 * a * s - mid) % (2 * lead) = 0), h) := by
      simp [lpC, mFun, line, mSeq, mAsg, mRet, mRetN, mDrop, mIfS, mTBin, mBin, mVar, mC, mCons, mNil, mTup, mLst, mLstC, mCB, mCall, mCallK, mIf, mAndV, mOrV, mNotV, mAnd, mOr, mNot, mTru, mUn, mChain, tB', mNx, mNev, mFor, mForL, mWhile, mComp, mCompL, mYes, gN, gT, gsCons, gsNil, gSubD, mApp, mPar, mPar3, mAugI, mSl, mSo, mNo, iR1, iR2, iR3, iS, iEn, iL, iT, asB, asL, asT, asLT, asInt, oB, oAdd, oSub, oMulA, oMul, oDiv, oMod, oPow, oNeg, cI, oEq, oNe, oIx, asSeq, oInt, oAbs, oLen, oMax2, oMin2, oDivmod, oIsi, tyD, okCell, truthD, mFrz, Option.bind_some, Option.map_some, Option.bind_none, Option.map_none, cond_true, cond_false, List.map_cons, List.map_nil, List.cons_append, List.nil_append, List.getElem?_cons_zero, List.getElem?_cons_succ, List.set_cons_zero, List.set_cons_succ, List.length_cons, List.length_nil, List.replicate , atI, ixN, w1, w2, w3, p2, -decide_eq_true_eq]
    by_cases z : (b + 2 * a * s - mid) % (2 * lead) = 0
    · rw [if_pos z] at e
      cases e
      rw [decide_eq_true z] at et
      exact ⟨hs, while_no et⟩
    · rw [if_neg z] at e
      rw [decide_eq_false z] at et
      obtain ⟨c1, e⟩ := bif_go e
      have eb : lpB ⟨[some (T3 a b c), some (T3 a' b' c'), some (T3 lead mid last), a3, some (.int s), a5, a6], h⟩ = some (.nx, ⟨[some (T3 a b c), some (T3 a' b' c'), some (T3 lead mid last), a3, some (.int (s + 1)), a5, a6], h⟩) := by
        simp [lpB, mFun, line, mSeq, mAsg, mRet, mRetN, mDrop, mIfS, mTBin, mBin, mVar, mC, mCons, mNil, mTup, mLst, mLstC, mCB, mCall, mCallK, mIf, mAndV, mOrV, mNotV, mAnd, mOr, mNot, mTru, mUn, mChain, tB', mNx, mNev, mFor, mForL, mWhile, mComp, mCompL, mYes, gN, gT, gsCons, gsNil, gSubD, mApp, mPar, mPar3, mAugI, mSl, mSo, mNo, iR1, iR2, iR3, iS, iEn, iL, iT, asB, asL, asT, asLT, asInt, oB, oAdd, oSub, oMulA, oMul, oDiv, oMod, oPow, oNeg, cI, oEq, oNe, oIx, asSeq, oInt, oAbs, oLen, oMax2, oMin2, oDivmod, oIsi, tyD, okCell, truthD, mFrz, Option.bind_some, Option.map_some, Option.bind_none, Option.map_none, cond_true, cond_false, List.map_cons, List.map_nil, List.cons_append, List.nil_append, List.getElem?_cons_zero, List.getElem?_cons_succ, List.set_cons_zero, List.set_cons_succ, List.length_cons, List.length_nil, List.replicate ]
      obtain ⟨k1, k2⟩ := lp_loop ka l0 sl f (s + 1) r c1 e
      exact ⟨k1, by rw [while_go et eb]; exact k2⟩
/-- what the law reduces -/
def lpA (r1 : Tri) (n lead mid : Int) : Option Tri := bif decide (0 < lead) && sm lead then (match lpS 900 r1.2.1 r1.1 mid lead 0 with
  | some s => some (r1.1 * lead, r1.2.1 + 2 * r1.1 * s, ((r1.2.1 + 2 * r1.1 * s) * (r1.2.1 + 2 * r1.1 * s) - n) / (4 * (r1.1 * lead)))
  | none => none) else none
def lpU (n : Int) (r1 r2 : Tri) : Option Tri := match tuV r2.1 r2.2.1 r2.2.2 r1.1 39 1 with
  | some w => lpA r1 n (vl r2.1 r2.2.1 r2.2.2 w.1 w.2.2.1) (md r2.1 r2.2.1 r2.2.2 w.1 w.2.1 w.2.2.1 w.2.2.2)
  | none => none
structure Lpr (n : Int) (r1 r2 r : Tri) : Prop where
  ex : ∃ t, lpU n r1 r2 = some t ∧ Gd n t.1 t.2.1 t.2.2 ∧ RD t.1 t.2.1 t.2.2 = r
theorem lproduct_ok {n a b c a' b' c' : Int} {r : Tri} {h : Cells} (o : okD n) (m : T3 a b c ∈ cls n) (m' : T3 a' b' c' ∈ cls n) (K : Lpr n (a, b, c) (a', b', c') r) : F__law_product [T3 a b c, T3 a' b' c'] h = some (TT r, h) := by
  obtain ⟨a0, a1, k3, k4, k5⟩ := cls_in o m
  obtain ⟨_, _, j3, j4, j5⟩ := cls_in o m'
  obtain ⟨t, et, gt, rt⟩ := K.ex
  have M : ∀ {x : Int}, Bd 10 x → Bd 3000 x := fun h => h.mono (by decide)
  have dn : b * b - 4 * a * c = n := by
    obtain ⟨_, _, _, e, _, d, _⟩ := cls_mem o m
    cases e
    exact d
  unfold lpU at et
  dsimp only at et
  split at et
  · rename_i w ew
    obtain ⟨w1, w2, w3, w4⟩ := w
    dsimp only at et
    have e1 := turned_ok (h := h) (M j3) (M j4) (M j5) ew
    have e2 := ldisc_of_ok (h := h) (M k3) (M k4) (M k5)
    rw [dn] at e2
    have e1' : F__law_turned [T3 a' b' c', .int a] h = some (T3 (vl a' b' c' w1 w3) (md a' b' c' w1 w2 w3 w4) (vl a' b' c' w2 w4), h) := e1
    generalize vl a' b' c' w1 w3 = lead at *
    generalize md a' b' c' w1 w2 w3 w4 = mid at *
    generalize vl a' b' c' w2 w4 = last at *
    unfold lpA at et
    dsimp only at et
    obtain ⟨cc, et⟩ := bif_go et
    rw [Bool.and_eq_true] at cc
    have l0 : 0 < lead := of_decide_eq_true cc.1
    split at et
    · rename_i s es
      obtain ⟨ss, e3⟩ := lp_loop (h := h) (a := a) (b := b) (c := c) (a' := a') (b' := b') (c' := c') (lead := lead) (mid := mid) (last := last) (a3 := some (.int n)) (a5 := none) (a6 := none) k3 l0 cc.2 900 0 s (by decide) es
      have e4 : (mWhile (fun _ => 900) lpC lpB) ⟨[some (T3 a b c), some (T3 a' b' c'), some (T3 lead mid last), some (.int n), some (.int 0), none, none], h⟩ = some (.nx, ⟨[some (T3 a b c), some (T3 a' b' c'), some (T3 lead mid last), some (.int n), some (.int s), none, none], h⟩) := e3
      cases et
      have lr := lreduced_ok (gt.base o) (h := h)
      rw [rt] at lr
      dsimp only at lr
      have bs := sm_bd ss
      have w1 : wideM 2 a = true := wide_B (.two (by decide)) (k3.mono (by decide))
      have w2 : wideM (2 * a) s = true := wide_B (((Bd.two (k := 2) (by decide)).mul k3).mono (by decide)) (bs.mono (by decide))
      have w3 : wideM a lead = true := wide_B (k3.mono (by decide)) ((sm_bd cc.2).mono (by decide))
      have bm : Bd 100 (b + 2 * a * s) := ((k4.mono (show 10 ≤ 50 by decide)).add ((((Bd.two (k := 2) (by decide)).mul k3).mul bs).mono (by decide))).mono (by decide)
      have w4 : wideM (b + 2 * a * s) (b + 2 * a * s) = true := wide_B (bm.mono (by decide)) (bm.mono (by decide))
      have al : 0 < a * lead := Int.mul_pos a0 l0
      have bal : Bd 40 (a * lead) := k3.mul (sm_bd cc.2)
      have w5 : wideM 4 (a * lead) = true := wide_B (.four (by decide)) (bal.mono (by decide))
      have wd : wideD (4 * (a * lead)) = true := wideD_B (by omega) (((Bd.four (k := 3) (by decide)).mul bal).mono (by decide))
      unfold F__law_product
      rw [b_lp_eq]
      generalize mWhile (fun _ => 900) lpC lpB = W at e4 ⊢
      generalize hQ : ((b + 2 * a * s) * (b + 2 * a * s) - n) / (4 * (a * lead)) = Q at *
      obtain ⟨r1, r2, r3⟩ := r
      simp [mFun, line, mSeq, mAsg, mRet, mRetN, mDrop, mIfS, mTBin, mBin, mVar, mC, mCons, mNil, mTup, mLst, mLstC, mCB, mCall, mCallK, mIf, mAndV, mOrV, mNotV, mAnd, mOr, mNot, mTru, mUn, mChain, tB', mNx, mNev, mFor, mForL, mWhile, mComp, mCompL, mYes, gN, gT, gsCons, gsNil, gSubD, mApp, mPar, mPar3, mAugI, mSl, mSo, mNo, iR1, iR2, iR3, iS, iEn, iL, iT, asB, asL, asT, asLT, asInt, oB, oAdd, oSub, oMulA, oMul, oDiv, oMod, oPow, oNeg, cI, oEq, oNe, oIx, asSeq, oInt, oAbs, oLen, oMax2, oMin2, oDivmod, oIsi, tyD, okCell, truthD, mFrz, Option.bind_some, Option.map_some, Option.bind_none, Option.map_none, cond_true, cond_false, List.map_cons, List.map_nil, List.cons_append, List.nil_append, List.getElem?_cons_zero, List.getElem?_cons_succ, List.set_cons_zero, List.set_cons_succ, List.length_cons, List.length_nil, List.replicate , e1', e2, e4, lr, atI, ixN, w1, w2, w3, w4, w5, wd, hQ]
    · cases et
  · cases et
end Law

set_option Elab.async false
set_option linter.all false
set_option maxRecDepth 100000
set_option maxHeartbeats 4000000
namespace Law
open PySem L2 Zm
/-! each class has one reduced form -/
theorem Inv.trans {A B C a b c a' b' c' p q r s t u v w : Int} (i : Inv A B C a b c p q r s) (j : Inv a b c a' b' c' t u v w) : Inv A B C a' b' c' (p * t + q * v) (p * u + q * w) (r * t + s * v) (r * u + s * w) := by
  have k := i.mul (t := t) (u := u) (v := v) (w := w) j.dt
  rw [j.ea, j.eb, j.ec] at k
  exact k
theorem sq_pos {x : Int} (h : x ≠ 0) : 1 ≤ x * x := by
  rcases Int.lt_or_gt_of_ne h with w | w
  · have := Int.mul_pos_of_neg_of_neg w w; omega
  · have := Int.mul_pos w w; omega
theorem min_c {a b c x y : Int} (h : red a b c) (h0 : 0 < a) (hy : y ≠ 0) : c ≤ vl a b c x y := by
  obtain ⟨r1, r2, r3, _⟩ := h
  have yy := sq_pos hy
  have xx := sq_nn x
  have s1 := sq_nn (x + y)
  have s2 := sq_nn (x - y)
  have e1 : (x + y) * (x + y) = x * x + 2 * (x * y) + y * y := by grind
  have e2 : (x - y) * (x - y) = x * x - 2 * (x * y) + y * y := by grind
  have ev : vl a b c x y = a * (x * x) + b * (x * y) + c * (y * y) := by unfold vl; grind
  rw [ev]
  generalize hX : x * x = X at *
  generalize hY : y * y = Y at *
  generalize hP : x * y = P at *
  -- |2 P| ≤ X + Y, |b| ≤ a ≤ c
  have p1 : -(X + Y) ≤ 2 * P := by omega
  have p2 : 2 * P ≤ X + Y := by omega
  have cy : c ≤ c * Y := by
    have := Int.mul_le_mul_of_nonneg_left yy (show 0 ≤ c by omega)
    omega
  by_cases hx : x = 0
  · have X0 : X = 0 := by rw [← hX, hx]; rfl
    have P0 : P = 0 := by rw [← hP, hx]; exact Int.zero_mul _
    rw [X0, P0]
    omega
  · have x1 : 1 ≤ X := by rw [← hX]; exact sq_pos hx
    -- b P ≥ - a |P|, and a X - a |P| + c Y ≥ c
    have PP : P * P = X * Y := by rw [← hP, ← hX, ← hY]; grind
    have key : ∀ Q : Int, 0 ≤ Q → Q * Q = X * Y → 2 * Q ≤ X + Y → c ≤ a * X - a * Q + c * Y := fun Q q0 qq q2 => by
      rcases Int.lt_or_le Q Y with w | w
      · -- Q < Y : a (X - Q) ≥ - c (Q - X) if Q > X
        rcases Int.lt_or_le X Q with z | z
        · have h1 : a * (Q - X) ≤ c * (Q - X) := Int.mul_le_mul_of_nonneg_right r3 (by omega)
          have h2 : c * 1 ≤ c * (X - Q + Y) := Int.mul_le_mul_of_nonneg_left (by omega) (by omega)
          have g1 : a * (Q - X) = a * Q - a * X := by grind
          have g2 : c * (Q - X) = c * Q - c * X := by grind
          have g3 : c * (X - Q + Y) = c * X - c * Q + c * Y := by grind
          omega
        · have h1 : 0 ≤ a * (X - Q) := Int.mul_nonneg (by omega) (by omega)
          have g1 : a * (X - Q) = a * X - a * Q := by grind
          omega
      · have z : Q ≤ X := by
          rcases Int.lt_or_le X Q with z | z
          · exfalso
            have h1 : X * Y < Q * Q := by
              have a1 : X * Y ≤ X * Q := Int.mul_le_mul_of_nonneg_left w (by omega)
              have a2 : X * Q < Q * Q := Int.mul_lt_mul_of_pos_right z (by omega)
              omega
            omega
          · exact z
        have h1 : 0 ≤ a * (X - Q) := Int.mul_nonneg (by omega) (by omega)
        have g1 : a * (X - Q) = a * X - a * Q := by grind
        omega
    rcases Int.le_total 0 P with w | w
    · have k := key P w PP (by omega)
      have h1 : -a * P ≤ b * P := Int.mul_le_mul_of_nonneg_right r1 w
      have g1 : -a * P = -(a * P) := Int.neg_mul ..
      omega
    · have k := key (-P) (by omega) (by rw [Int.neg_mul_neg]; exact PP) (by omega)
      have h1 : b * -P ≤ a * -P := Int.mul_le_mul_of_nonneg_right r2 (by omega)
      have g1 : b * -P = -(b * P) := Int.mul_neg ..
      omega
theorem uniq {a b c a' b' c' p q r s : Int} (i : Inv a b c a' b' c' p q r s) (h0 : 0 < a) (h0' : 0 < a') (h : red a b c) (h' : red a' b' c') (hd : b * b - 4 * a * c < 0) : (a, b, c) = (a', b', c') := by
  have di := i.disc
  by_cases hr : r = 0
  · subst hr
    have d := i.dt
    have ps : p * s = 1 := by
      have : q * 0 = 0 := Int.mul_zero _
      omega
    have ea := i.ea
    have eb := i.eb
    have pp : p * p = 1 ∧ s = p := by
      have hp : p = 1 ∨ p = -1 := by
        have e1 : p.natAbs * s.natAbs = 1 := by rw [← Int.natAbs_mul, ps]; rfl
        have e2 := Nat.eq_one_of_mul_eq_one_right e1
        omega
      rcases hp with rfl | rfl
      · exact ⟨rfl, by omega⟩
      · exact ⟨rfl, by omega⟩
    have a1 : a' = a := by
      rw [← ea]
      unfold vl
      have : a * p * p = a * (p * p) := Int.mul_assoc ..
      rw [this, pp.1]
      simp
    have b1 : b' = 2 * a * (p * q) + b := by
      rw [← eb]
      unfold md
      have e1 : b * (p * s + q * 0) = b * (p * s) := by simp
      have e2 : 2 * c * 0 * s = 0 := by simp
      rw [e1, e2, ps]
      grind
    subst a1
    obtain ⟨r1, r2, r3, r4⟩ := h
    obtain ⟨q1, q2, q3, q4⟩ := h'
    have hz : p * q = 0 := by
      rcases Int.lt_trichotomy (p * q) 0 with w | w | w
      · have := Int.mul_le_mul_of_nonneg_left (show p * q ≤ -1 by omega) (show 0 ≤ 2 * a' by omega)
        omega
      · exact w
      · have := Int.mul_le_mul_of_nonneg_left (show 1 ≤ p * q by omega) (show 0 ≤ 2 * a' by omega)
        omega
    rw [hz] at b1
    have b2 : b' = b := by omega
    subst b2
    have c1 : 4 * a' * c = 4 * a' * c' := by omega
    have c2 : c = c' := Int.eq_of_mul_eq_mul_left (show (4 * a' : Int) ≠ 0 by omega) c1
    rw [c2]
  · have m1 := min_c (x := p) h h0 hr
    rw [i.ea] at m1
    have j := i.inv
    have m2 := min_c (x := s) h' h0' (show -r ≠ 0 by omega)
    rw [j.ea] at m2
    obtain ⟨r1, r2, r3, r4⟩ := h
    obtain ⟨q1, q2, q3, q4⟩ := h'
    have e1 : a = a' := by omega
    have e2 : c = a := by omega
    have e3 : c' = a := by omega
    subst e1 e2 e3
    have bb : b' * b' = b * b := by omega
    have b0 : 0 ≤ b := by omega
    have b0' : 0 ≤ b' := by omega
    have : b' = b := by
      have h1 := sq_le (x := b') (y := b * b) (by omega)
      rcases Int.lt_trichotomy b b' with w | w | w
      · have a1 : b * b < b' * b' := by
          have x1 : b * b ≤ b * b' := Int.mul_le_mul_of_nonneg_left (by omega) b0
          have x2 : b * b' < b' * b' := Int.mul_lt_mul_of_pos_right w (by omega)
          omega
        omega
      · omega
      · have a1 : b' * b' < b * b := by
          have x1 : b' * b' ≤ b' * b := Int.mul_le_mul_of_nonneg_left (by omega) b0'
          have x2 : b' * b < b * b := Int.mul_lt_mul_of_pos_right w (by omega)
          omega
        omega
    rw [this]
theorem Inv.opp {A B C a b c p q r s : Int} (i : Inv A B C a b c p q r s) : Inv A (-B) C a (-b) c p (-q) (-r) s := by
  have ea := i.ea
  have eb := i.eb
  have ec := i.ec
  have dt := i.dt
  refine ⟨?_, ?_, ?_, by grind⟩
  · rw [← ea]; unfold vl; grind
  · rw [← eb]; unfold md; grind
  · rw [← ec]; unfold vl; grind
theorem RD_of {n a b c : Int} (o : okD n) (g : Gd n a b c) : ∃ x y z p q r s, RD a b c = (x, y, z) ∧ Inv a b c x y z p q r s ∧ red x y z ∧ 0 < x ∧ y * y - 4 * x * z = n := by
  obtain ⟨x, y, z, p, q, r, s, _, er, i, k, _⟩ := reduction_ok (g.base o) (h := [])
  have m := (RD_red o g).2
  rw [er] at m
  exact ⟨x, y, z, p, q, r, s, er, i, m, k.a0, by rw [i.disc]; exact g.d⟩
/-- the class of the opposite hangs on the class alone -/
theorem RD_opp {n a b c x y z : Int} (o : okD n) (g : Gd n a b c) (e : RD a b c = (x, y, z)) (gx : Gd n x y z) : RD a (-b) c = RD x (-y) z := by
  obtain ⟨x1, y1, z1, p, q, r, s, e1, i, _, _, _⟩ := RD_of o g
  rw [e] at e1
  cases e1
  obtain ⟨x2, y2, z2, p2, q2, r2, s2, e2, i2, m2, k2, d2⟩ := RD_of o (opp_gd g)
  obtain ⟨x3, y3, z3, p3, q3, r3, s3, e3, i3, m3, k3, d3⟩ := RD_of o (opp_gd gx)
  rw [e2, e3]
  have j := (i.opp.trans i3).inv.trans i2
  have on := o.2.1
  exact (uniq j k3 k2 m3 m2 (by omega)).symm
end Law

set_option Elab.async false
set_option linter.all false
set_option maxRecDepth 100000
set_option maxHeartbeats 4000000
namespace Law
open PySem L2 Zm
/-! the tables -/
def TBL : List (Int × List (List Nat) × List Nat) := [
  (-400, [[0, 1, 2, 3], [1, 0, 3, 2], [2, 3, 1, 0], [3, 2, 0, 1]], [0, 1, 3, 2]),
  (-399, [[0, 1, 2, 3, 4, 5, 6, 7, 8, 9, 10, 11, 12, 13, 14, 15], [1, 4, 0, 9, 12, 2, 14, 13, 3, 15, 11, 5, 10, 8, 7, 6], [2, 0, 5, 8, 1, 11, 15, 14, 13, 3, 12, 10, 4, 7, 6, 9], [3, 9, 8, 0, 15, 13, 12, 11, 2, 1, 14, 7, 6, 5, 10, 4], [4, 12, 1, 15, 10, 0, 7, 8, 9, 6, 5, 2, 11, 3, 13, 14], [5, 2, 11, 13, 0, 10, 9, 6, 7, 8, 4, 12, 1, 14, 15, 3], [6, 14, 15, 12, 7, 9, 5, 0, 4, 10, 8, 3, 13, 1, 2, 11], [7, 13, 14, 11, 8, 6, 0, 4, 10, 5, 9, 15, 3, 12, 1, 2], [8, 3, 13, 2, 9, 7, 4, 10, 5, 0, 6, 14, 15, 11, 12, 1], [9, 15, 3, 1, 6, 8, 10, 5, 0, 4, 7, 13, 14, 2, 11, 12], [10, 11, 12, 14, 5, 4, 8, 9, 6, 7, 0, 1, 2, 15, 3, 13], [11, 5, 10, 7, 2, 12, 3, 15, 14, 13, 1, 4, 0, 6, 9, 8], [12, 10, 4, 6, 11, 1, 13, 3, 15, 14, 2, 0, 5, 9, 8, 7], [13, 8, 7, 5, 3, 14, 1, 12, 11, 2, 15, 6, 9, 10, 4, 0], [14, 7, 6, 10, 13, 15, 2, 1, 12, 11, 3, 9, 8, 4, 0, 5], [15, 6, 9, 4, 14, 3, 11, 2, 1, 12, 13, 8, 7, 0, 5, 10]], [0, 2, 1, 3, 5, 4, 7, 6, 9, 8, 10, 12, 11, 15, 14, 13]),
  (-396, [[0, 1, 2, 3, 4, 5], [1, 2, 0, 4, 5, 3], [2, 0, 1, 5, 3, 4], [3, 4, 5, 2, 0, 1], [4, 5, 3, 0, 1, 2], [5, 3, 4, 1, 2, 0]], [0, 2, 1, 4, 3, 5]),
  (-395, [[0, 1, 2, 3, 4, 5, 6, 7], [1, 6, 0, 4, 7, 3, 5, 2], [2, 0, 7, 5, 3, 6, 1, 4], [3, 4, 5, 0, 1, 2, 7, 6], [4, 7, 3, 1, 6, 0, 2, 5], [5, 3, 6, 2, 0, 7, 4, 1], [6, 5, 1, 7, 2, 4, 3, 0], [7, 2, 4, 6, 5, 1, 0, 3]], [0, 2, 1, 3, 5, 4, 7, 6]),
  (-392, [[0, 1, 2, 3, 4, 5, 6, 7], [1, 0, 5, 4, 3, 2, 7, 6], [2, 5, 6, 0, 1, 7, 4, 3], [3, 4, 0, 7, 6, 1, 2, 5], [4, 3, 1, 6, 7, 0, 5, 2], [5, 2, 7, 1, 0, 6, 3, 4], [6, 7, 4, 2, 5, 3, 1, 0], [7, 6, 3, 5, 2, 4, 0, 1]], [0, 1, 3, 2, 5, 4, 7, 6]),
  (-391, [[0, 1, 2, 3, 4, 5, 6, 7, 8, 9, 10, 11, 12, 13], [1, 4, 0, 2, 9, 13, 12, 8, 11, 10, 3, 6, 5, 7], [2, 0, 3, 10, 1, 12, 11, 13, 7, 4, 9, 8, 6, 5], [3, 2, 10, 9, 0, 6, 8, 5, 13, 1, 4, 7, 11, 12], [4, 9, 1, 0, 10, 7, 5, 11, 6, 3, 2, 12, 13, 8], [5, 13, 12, 6, 7, 4, 0, 10, 3, 8, 11, 2, 1, 9], [6, 12, 11, 8, 5, 0, 3, 4, 9, 13, 7, 10, 2, 1], [7, 8, 13, 5, 11, 10, 4, 2, 0, 6, 12, 1, 9, 3], [8, 11, 7, 13, 6, 3, 9, 0, 1, 12, 5, 4, 10, 2], [9, 10, 4, 1, 3, 8, 13, 6, 12, 2, 0, 5, 7, 11], [10, 3, 9, 4, 2, 11, 7, 12, 5, 0, 1, 13, 8, 6], [11, 6, 8, 7, 12, 2, 10, 1, 4, 5, 13, 9, 3, 0], [12, 5, 6, 11, 13, 1, 2, 9, 10, 7, 8, 3, 0, 4], [13, 7, 5, 12, 8, 9, 1, 3, 2, 11, 6, 0, 4, 10]], [0, 2, 1, 4, 3, 6, 5, 8, 7, 10, 9, 13, 12, 11]),
  (-388, [[0, 1, 2, 3], [1, 0, 3, 2], [2, 3, 1, 0], [3, 2, 0, 1]], [0, 1, 3, 2]),
  (-387, [[0, 1, 2, 3], [1, 3, 0, 2], [2, 0, 3, 1], [3, 2, 1, 0]], [0, 2, 1, 3]),
  (-384, [[0, 1, 2, 3, 4, 5, 6, 7], [1, 0, 7, 5, 6, 3, 4, 2], [2, 7, 0, 4, 3, 6, 5, 1], [3, 5, 4, 2, 0, 7, 1, 6], [4, 6, 3, 0, 2, 1, 7, 5], [5, 3, 6, 7, 1, 2, 0, 4], [6, 4, 5, 1, 7, 0, 2, 3], [7, 2, 1, 6, 5, 4, 3, 0]], [0, 1, 2, 4, 3, 6, 5, 7]),
  (-383, [[0, 1, 2, 3, 4, 5, 6, 7, 8, 9, 10, 11, 12, 13, 14, 15, 16], [1, 5, 0, 8, 7, 13, 2, 15, 14, 4, 3, 16, 11, 9, 6, 12, 10], [2, 0, 6, 10, 9, 1, 14, 4, 3, 13, 16, 12, 15, 5, 8, 7, 11], [3, 8, 10, 15, 0, 14, 16, 1, 12, 2, 7, 9, 13, 6, 11, 5, 4], [4, 7, 9, 0, 16, 15, 13, 10, 1, 11, 2, 14, 8, 12, 5, 3, 6], [5, 13, 1, 14, 15, 9, 0, 12, 6, 7, 8, 10, 16, 4, 2, 11, 3], [6, 2, 14, 16, 13, 0, 8, 9, 10, 5, 11, 15, 7, 1, 3, 4, 12], [7, 15, 4, 1, 10, 12, 9, 3, 5, 16, 0, 6, 14, 11, 13, 8, 2], [8, 14, 3, 12, 1, 6, 10, 5, 11, 0, 15, 4, 9, 2, 16, 13, 7], [9, 4, 13, 2, 11, 7, 5, 16, 0, 12, 6, 8, 3, 15, 1, 10, 14], [10, 3, 16, 7, 2, 8, 11, 0, 15, 6, 4, 13, 5, 14, 12, 1, 9], [11, 16, 12, 9, 14, 10, 15, 6, 4, 8, 13, 1, 0, 3, 7, 2, 5], [12, 11, 15, 13, 8, 16, 7, 14, 9, 3, 5, 0, 2, 10, 4, 6, 1], [13, 9, 5, 6, 12, 4, 1, 11, 2, 15, 14, 3, 10, 7, 0, 16, 8], [14, 6, 8, 11, 5, 2, 3, 13, 16, 1, 12, 7, 4, 0, 10, 9, 15], [15, 12, 7, 5, 3, 11, 4, 8, 13, 10, 1, 2, 6, 16, 9, 14, 0], [16, 10, 11, 4, 6, 3, 12, 2, 7, 14, 9, 5, 1, 8, 15, 0, 13]], [0, 2, 1, 4, 3, 6, 5, 10, 9, 8, 7, 12, 11, 14, 13, 16, 15]),
  (-380, [[0, 1, 2, 3, 4, 5, 6, 7], [1, 7, 0, 5, 3, 6, 2, 4], [2, 0, 6, 4, 7, 3, 5, 1], [3, 5, 4, 0, 2, 1, 7, 6], [4, 3, 7, 2, 6, 0, 1, 5], [5, 6, 3, 1, 0, 7, 4, 2], [6, 2, 5, 7, 1, 4, 3, 0], [7, 4, 1, 6, 5, 2, 0, 3]], [0, 2, 1, 3, 5, 4, 7, 6]),
  (-379, [[0, 1, 2], [1, 2, 0], [2, 0, 1]], [0, 2, 1]),
  (-376, [[0, 1, 2, 3, 4, 5, 6, 7], [1, 0, 7, 6, 5, 4, 3, 2], [2, 7, 4, 0, 6, 3, 1, 5], [3, 6, 0, 5, 2, 7, 4, 1], [4, 5, 6, 2, 1, 0, 7, 3], [5, 4, 3, 7, 0, 1, 2, 6], [6, 3, 1, 4, 7, 2, 5, 0], [7, 2, 5, 1, 3, 6, 0, 4]], [0, 1, 3, 2, 5, 4, 7, 6]),
  (-375, [[0, 1, 2, 3, 4, 5, 6, 7, 8, 9], [1, 5, 0, 7, 2, 9, 3, 8, 4, 6], [2, 0, 4, 6, 8, 1, 9, 3, 7, 5], [3, 7, 6, 0, 9, 8, 2, 1, 5, 4], [4, 2, 8, 9, 7, 0, 5, 6, 3, 1], [5, 9, 1, 8, 0, 6, 7, 4, 2, 3], [6, 3, 9, 2, 5, 7, 4, 0, 1, 8], [7, 8, 3, 1, 6, 4, 0, 5, 9, 2], [8, 4, 7, 5, 3, 2, 1, 9, 6, 0], [9, 6, 5, 4, 1, 3, 8, 2, 0, 7]], [0, 2, 1, 3, 5, 4, 7, 6, 9, 8]),
  (-372, [[0, 1, 2, 3], [1, 0, 3, 2], [2, 3, 0, 1], [3, 2, 1, 0]], [0, 1, 2, 3]),
  (-371, [[0, 1, 2, 3, 4, 5, 6, 7], [1, 7, 0, 6, 5, 3, 2, 4], [2, 0, 6, 5, 7, 4, 3, 1], [3, 6, 5, 7, 0, 1, 4, 2], [4, 5, 7, 0, 6, 2, 1, 3], [5, 3, 4, 1, 2, 0, 7, 6], [6, 2, 3, 4, 1, 7, 5, 0], [7, 4, 1, 2, 3, 6, 0, 5]], [0, 2, 1, 4, 3, 5, 7, 6]),
  (-368, [[0, 1, 2, 3, 4, 5], [1, 4, 0, 5, 3, 2], [2, 0, 5, 4, 1, 3], [3, 5, 4, 0, 2, 1], [4, 3, 1, 2, 5, 0], [5, 2, 3, 1, 0, 4]], [0, 2, 1, 3, 5, 4]),
  (-367, [[0, 1, 2, 3, 4, 5, 6, 7, 8], [1, 3, 0, 8, 2, 6, 7, 4, 5], [2, 0, 4, 1, 7, 8, 5, 6, 3], [3, 8, 1, 5, 0, 7, 4, 2, 6], [4, 2, 7, 0, 6, 3, 8, 5, 1], [5, 6, 8, 7, 3, 2, 0, 1, 4], [6, 7, 5, 4, 8, 0, 1, 3, 2], [7, 4, 6, 2, 5, 1, 3, 8, 0], [8, 5, 3, 6, 1, 4, 2, 0, 7]], [0, 2, 1, 4, 3, 6, 5, 8, 7]),
  (-364, [[0, 1, 2, 3, 4, 5], [1, 2, 0, 4, 5, 3], [2, 0, 1, 5, 3, 4], [3, 4, 5, 2, 0, 1], [4, 5, 3, 0, 1, 2], [5, 3, 4, 1, 2, 0]], [0, 2, 1, 4, 3, 5]),
  (-363, [[0, 1, 2, 3], [1, 0, 3, 2], [2, 3, 1, 0], [3, 2, 0, 1]], [0, 1, 3, 2]),
  (-360, [[0, 1, 2, 3, 4, 5, 6, 7], [1, 0, 6, 7, 5, 4, 2, 3], [2, 6, 0, 5, 7, 3, 1, 4], [3, 7, 5, 6, 0, 1, 4, 2], [4, 5, 7, 0, 6, 2, 3, 1], [5, 4, 3, 1, 2, 6, 7, 0], [6, 2, 1, 4, 3, 7, 0, 5], [7, 3, 4, 2, 1, 0, 5, 6]], [0, 1, 2, 4, 3, 7, 6, 5]),
  (-359, [[0, 1, 2, 3, 4, 5, 6, 7, 8, 9, 10, 11, 12, 13, 14, 15, 16, 17, 18], [1, 6, 0, 10, 9, 2, 13, 16, 17, 14, 18, 4, 3, 12, 5, 8, 15, 11, 7], [2, 0, 5, 12, 11, 14, 1, 18, 15, 4, 3, 17, 13, 6, 9, 16, 7, 8, 10], [3, 10, 12, 15, 0, 13, 18, 11, 14, 1, 8, 2, 16, 7, 6, 9, 4, 5, 17], [4, 9, 11, 0, 16, 17, 14, 13, 10, 15, 1, 7, 2, 5, 8, 3, 12, 18, 6], [5, 2, 14, 13, 17, 9, 0, 10, 16, 11, 12, 8, 6, 1, 4, 7, 18, 15, 3], [6, 13, 1, 18, 14, 0, 12, 15, 11, 5, 7, 9, 10, 3, 2, 17, 8, 4, 16], [7, 16, 18, 11, 13, 10, 15, 14, 0, 12, 4, 6, 17, 8, 3, 2, 5, 1, 9], [8, 17, 15, 14, 10, 16, 11, 0, 13, 18, 5, 3, 9, 4, 7, 6, 1, 12, 2], [9, 14, 4, 1, 15, 11, 5, 12, 18, 8, 6, 16, 0, 2, 17, 10, 3, 7, 13], [10, 18, 3, 8, 1, 12, 7, 4, 5, 6, 17, 0, 15, 16, 13, 14, 9, 2, 11], [11, 4, 17, 2, 7, 8, 9, 6, 3, 16, 0, 18, 5, 14, 15, 12, 13, 10, 1], [12, 3, 13, 16, 2, 6, 10, 17, 9, 0, 15, 5, 7, 18, 1, 4, 11, 14, 8], [13, 12, 6, 7, 5, 1, 3, 8, 4, 2, 16, 14, 18, 10, 0, 11, 17, 9, 15], [14, 5, 9, 6, 8, 4, 2, 3, 7, 17, 13, 15, 1, 0, 11, 18, 10, 16, 12], [15, 8, 16, 9, 3, 7, 17, 2, 6, 10, 14, 12, 4, 11, 18, 1, 0, 13, 5], [16, 15, 7, 4, 12, 18, 8, 5, 1, 3, 9, 13, 11, 17, 10, 0, 2, 6, 14], [17, 11, 8, 5, 18, 15, 4, 1, 12, 7, 2, 10, 14, 9, 16, 13, 6, 3, 0], [18, 7, 10, 17, 6, 3, 16, 9, 2, 13, 11, 1, 8, 15, 12, 5, 14, 0, 4]], [0, 2, 1, 4, 3, 6, 5, 8, 7, 12, 11, 10, 9, 14, 13, 16, 15, 18, 17]),
  (-356, [[0, 1, 2, 3, 4, 5, 6, 7, 8, 9, 10, 11], [1, 0, 6, 7, 11, 10, 2, 3, 9, 8, 5, 4], [2, 6, 10, 0, 7, 8, 5, 1, 11, 4, 9, 3], [3, 7, 0, 11, 9, 6, 1, 4, 5, 10, 2, 8], [4, 11, 7, 9, 5, 0, 3, 8, 2, 6, 1, 10], [5, 10, 8, 6, 0, 4, 9, 2, 7, 3, 11, 1], [6, 2, 5, 1, 3, 9, 10, 0, 4, 11, 8, 7], [7, 3, 1, 4, 8, 2, 0, 11, 10, 5, 6, 9], [8, 9, 11, 5, 2, 7, 4, 10, 1, 0, 3, 6], [9, 8, 4, 10, 6, 3, 11, 5, 0, 1, 7, 2], [10, 5, 9, 2, 1, 11, 8, 6, 3, 7, 4, 0], [11, 4, 3, 8, 10, 1, 7, 9, 6, 2, 0, 5]], [0, 1, 3, 2, 5, 4, 7, 6, 9, 8, 11, 10]),
  (-355, [[0, 1, 2, 3], [1, 0, 3, 2], [2, 3, 1, 0], [3, 2, 0, 1]], [0, 1, 3, 2]),
  (-352, [[0, 1, 2, 3], [1, 0, 3, 2], [2, 3, 0, 1], [3, 2, 1, 0]], [0, 1, 2, 3]),
  (-351, [[0, 1, 2, 3, 4, 5, 6, 7, 8, 9, 10, 11], [1, 3, 0, 7, 2, 11, 9, 10, 4, 8, 5, 6], [2, 0, 4, 1, 8, 10, 11, 3, 9, 6, 7, 5], [3, 7, 1, 10, 0, 6, 8, 5, 2, 4, 11, 9], [4, 2, 8, 0, 9, 7, 5, 1, 6, 11, 3, 10], [5, 11, 10, 6, 7, 4, 0, 9, 3, 1, 8, 2], [6, 9, 11, 8, 5, 0, 3, 4, 10, 7, 2, 1], [7, 10, 3, 5, 1, 9, 4, 11, 0, 2, 6, 8], [8, 4, 9, 2, 6, 3, 10, 0, 11, 5, 1, 7], [9, 8, 6, 4, 11, 1, 7, 2, 5, 10, 0, 3], [10, 5, 7, 11, 3, 8, 2, 6, 1, 0, 9, 4], [11, 6, 5, 9, 10, 2, 1, 8, 7, 3, 4, 0]], [0, 2, 1, 4, 3, 6, 5, 8, 7, 10, 9, 11]),
  (-348, [[0, 1, 2, 3, 4, 5], [1, 0, 5, 4, 3, 2], [2, 5, 3, 0, 1, 4], [3, 4, 0, 2, 5, 1], [4, 3, 1, 5, 2, 0], [5, 2, 4, 1, 0, 3]], [0, 1, 3, 2, 5, 4]),
  (-347, [[0, 1, 2, 3, 4], [1, 3, 0, 4, 2], [2, 0, 4, 1, 3], [3, 4, 1, 2, 0], [4, 2, 3, 0, 1]], [0, 2, 1, 4, 3]),
  (-344, [[0, 1, 2, 3, 4, 5, 6, 7, 8, 9], [1, 0, 7, 6, 9, 8, 3, 2, 5, 4], [2, 7, 9, 0, 8, 6, 1, 4, 3, 5], [3, 6, 0, 8, 7, 9, 5, 1, 4, 2], [4, 9, 8, 7, 6, 0, 2, 5, 1, 3], [5, 8, 6, 9, 0, 7, 4, 3, 2, 1], [6, 3, 1, 5, 2, 4, 8, 0, 9, 7], [7, 2, 4, 1, 5, 3, 0, 9, 6, 8], [8, 5, 3, 4, 1, 2, 9, 6, 7, 0], [9, 4, 5, 2, 3, 1, 7, 8, 0, 6]], [0, 1, 3, 2, 5, 4, 7, 6, 9, 8]),
  (-343, [[0, 1, 2, 3, 4, 5, 6], [1, 4, 0, 2, 6, 3, 5], [2, 0, 3, 5, 1, 6, 4], [3, 2, 5, 6, 0, 4, 1], [4, 6, 1, 0, 5, 2, 3], [5, 3, 6, 4, 2, 1, 0], [6, 5, 4, 1, 3, 0, 2]], [0, 2, 1, 4, 3, 6, 5]),
  (-340, [[0, 1, 2, 3], [1, 0, 3, 2], [2, 3, 0, 1], [3, 2, 1, 0]], [0, 1, 2, 3]),
  (-339, [[0, 1, 2, 3, 4, 5], [1, 0, 5, 4, 3, 2], [2, 5, 4, 0, 1, 3], [3, 4, 0, 5, 2, 1], [4, 3, 1, 2, 5, 0], [5, 2, 3, 1, 0, 4]], [0, 1, 3, 2, 5, 4]),
  (-336, [[0, 1, 2, 3, 4, 5, 6, 7], [1, 0, 5, 6, 7, 2, 3, 4], [2, 5, 0, 4, 3, 1, 7, 6], [3, 6, 4, 2, 0, 7, 5, 1], [4, 7, 3, 0, 2, 6, 1, 5], [5, 2, 1, 7, 6, 0, 4, 3], [6, 3, 7, 5, 1, 4, 2, 0], [7, 4, 6, 1, 5, 3, 0, 2]], [0, 1, 2, 4, 3, 5, 7, 6]),
  (-335, [[0, 1, 2, 3, 4, 5, 6, 7, 8, 9, 10, 11, 12, 13, 14, 15, 16, 17], [1, 5, 0, 9, 8, 15, 2, 17, 14, 13, 4, 3, 10, 16, 6, 11, 7, 12], [2, 0, 6, 11, 10, 1, 14, 16, 4, 3, 12, 15, 17, 9, 8, 5, 13, 7], [3, 9, 11, 17, 0, 13, 15, 8, 1, 12, 2, 7, 6, 10, 5, 16, 4, 14], [4, 8, 10, 0, 16, 14, 12, 11, 7, 1, 13, 2, 9, 5, 17, 6, 15, 3], [5, 15, 1, 13, 14, 11, 0, 12, 6, 16, 8, 9, 4, 7, 2, 3, 17, 10], [6, 2, 14, 15, 12, 0, 8, 13, 10, 11, 17, 5, 7, 3, 4, 1, 9, 16], [7, 17, 16, 8, 11, 12, 13, 0, 3, 14, 15, 4, 5, 6, 9, 10, 2, 1], [8, 14, 4, 1, 7, 6, 10, 3, 17, 5, 16, 0, 13, 15, 12, 2, 11, 9], [9, 13, 3, 12, 1, 16, 11, 14, 5, 10, 0, 17, 2, 4, 15, 7, 8, 6], [10, 4, 12, 2, 13, 8, 17, 15, 16, 0, 9, 6, 3, 1, 7, 14, 5, 11], [11, 3, 15, 7, 2, 9, 5, 4, 0, 17, 6, 16, 14, 12, 1, 13, 10, 8], [12, 10, 17, 6, 9, 4, 7, 5, 13, 2, 3, 14, 11, 0, 16, 8, 1, 15], [13, 16, 9, 10, 5, 7, 3, 6, 15, 4, 1, 12, 0, 8, 11, 17, 14, 2], [14, 6, 8, 5, 17, 2, 4, 9, 12, 15, 7, 1, 16, 11, 10, 0, 3, 13], [15, 11, 5, 16, 6, 3, 1, 10, 2, 7, 14, 13, 8, 17, 0, 9, 12, 4], [16, 7, 13, 4, 15, 17, 9, 2, 11, 8, 5, 10, 1, 14, 3, 12, 6, 0], [17, 12, 7, 14, 3, 10, 16, 1, 9, 6, 11, 8, 15, 2, 13, 4, 0, 5]], [0, 2, 1, 4, 3, 6, 5, 7, 11, 10, 9, 8, 13, 12, 15, 14, 17, 16]),
  (-332, [[0, 1, 2, 3, 4, 5, 6, 7, 8], [1, 7, 0, 6, 8, 4, 5, 3, 2], [2, 0, 8, 7, 5, 6, 3, 1, 4], [3, 6, 7, 4, 0, 2, 8, 5, 1], [4, 8, 5, 0, 3, 7, 1, 2, 6], [5, 4, 6, 2, 7, 1, 0, 8, 3], [6, 5, 3, 8, 1, 0, 2, 4, 7], [7, 3, 1, 5, 2, 8, 4, 6, 0], [8, 2, 4, 1, 6, 3, 7, 0, 5]], [0, 2, 1, 4, 3, 6, 5, 8, 7]),
  (-331, [[0, 1, 2], [1, 2, 0], [2, 0, 1]], [0, 2, 1]),
  (-328, [[0, 1, 2, 3], [1, 0, 3, 2], [2, 3, 1, 0], [3, 2, 0, 1]], [0, 1, 3, 2]),
  (-327, [[0, 1, 2, 3, 4, 5, 6, 7, 8, 9, 10, 11], [1, 5, 0, 7, 2, 10, 3, 8, 11, 6, 9, 4], [2, 0, 4, 6, 11, 1, 9, 3, 7, 10, 5, 8], [3, 7, 6, 0, 9, 8, 2, 1, 5, 4, 11, 10], [4, 2, 11, 9, 8, 0, 10, 6, 3, 5, 1, 7], [5, 10, 1, 8, 0, 9, 7, 11, 4, 3, 6, 2], [6, 3, 9, 2, 10, 7, 4, 0, 1, 11, 8, 5], [7, 8, 3, 1, 6, 11, 0, 5, 10, 2, 4, 9], [8, 11, 7, 5, 3, 4, 1, 10, 9, 0, 2, 6], [9, 6, 10, 4, 5, 3, 11, 2, 0, 8, 7, 1], [10, 9, 5, 11, 1, 6, 8, 4, 2, 7, 3, 0], [11, 4, 8, 10, 7, 2, 5, 9, 6, 1, 0, 3]], [0, 2, 1, 3, 5, 4, 7, 6, 9, 8, 11, 10]),
  (-324, [[0, 1, 2, 3, 4, 5], [1, 0, 4, 5, 2, 3], [2, 4, 5, 0, 3, 1], [3, 5, 0, 4, 1, 2], [4, 2, 3, 1, 5, 0], [5, 3, 1, 2, 0, 4]], [0, 1, 3, 2, 5, 4]),
  (-323, [[0, 1, 2, 3], [1, 3, 0, 2], [2, 0, 3, 1], [3, 2, 1, 0]], [0, 2, 1, 3]),
  (-320, [[0, 1, 2, 3, 4, 5, 6, 7], [1, 7, 0, 5, 6, 4, 3, 2], [2, 0, 7, 6, 5, 3, 4, 1], [3, 5, 6, 0, 7, 1, 2, 4], [4, 6, 5, 7, 0, 2, 1, 3], [5, 4, 3, 1, 2, 7, 0, 6], [6, 3, 4, 2, 1, 0, 7, 5], [7, 2, 1, 4, 3, 6, 5, 0]], [0, 2, 1, 3, 4, 6, 5, 7]),
  (-319, [[0, 1, 2, 3, 4, 5, 6, 7, 8, 9], [1, 3, 0, 7, 2, 8, 9, 6, 4, 5], [2, 0, 4, 1, 8, 9, 7, 3, 5, 6], [3, 7, 1, 6, 0, 4, 5, 9, 2, 8], [4, 2, 8, 0, 5, 6, 3, 1, 9, 7], [5, 8, 9, 4, 6, 3, 0, 2, 7, 1], [6, 9, 7, 5, 3, 0, 4, 8, 1, 2], [7, 6, 3, 9, 1, 2, 8, 5, 0, 4], [8, 4, 5, 2, 9, 7, 1, 0, 6, 3], [9, 5, 6, 8, 7, 1, 2, 4, 3, 0]], [0, 2, 1, 4, 3, 6, 5, 8, 7, 9]),
  (-316, [[0, 1, 2, 3, 4], [1, 4, 0, 2, 3], [2, 0, 3, 4, 1], [3, 2, 4, 1, 0], [4, 3, 1, 0, 2]], [0, 2, 1, 4, 3]),
  (-315, [[0, 1, 2, 3], [1, 0, 3, 2], [2, 3, 0, 1], [3, 2, 1, 0]], [0, 1, 2, 3]),
  (-312, [[0, 1, 2, 3], [1, 0, 3, 2], [2, 3, 0, 1], [3, 2, 1, 0]], [0, 1, 2, 3]),
  (-311, [[0, 1, 2, 3, 4, 5, 6, 7, 8, 9, 10, 11, 12, 13, 14, 15, 16, 17, 18], [1, 6, 0, 10, 9, 2, 16, 17, 15, 14, 18, 4, 3, 12, 13, 5, 7, 11, 8], [2, 0, 5, 12, 11, 15, 1, 16, 18, 4, 3, 17, 13, 14, 9, 8, 6, 7, 10], [3, 10, 12, 17, 0, 13, 18, 15, 9, 1, 11, 2, 7, 16, 6, 14, 8, 5, 4], [4, 9, 11, 0, 18, 17, 14, 12, 16, 8, 1, 10, 2, 5, 15, 7, 13, 3, 6], [5, 2, 15, 13, 17, 8, 0, 6, 10, 11, 12, 7, 14, 9, 4, 18, 1, 16, 3], [6, 16, 1, 18, 14, 0, 7, 11, 5, 13, 8, 9, 10, 3, 12, 2, 17, 4, 15], [7, 17, 16, 15, 12, 6, 11, 9, 0, 3, 5, 13, 8, 18, 10, 1, 4, 14, 2], [8, 15, 18, 9, 16, 10, 5, 0, 12, 7, 14, 6, 4, 11, 17, 3, 2, 1, 13], [9, 14, 4, 1, 8, 11, 13, 3, 7, 15, 6, 18, 0, 2, 5, 17, 12, 10, 16], [10, 18, 3, 11, 1, 12, 8, 5, 14, 6, 4, 0, 17, 7, 16, 13, 15, 2, 9], [11, 4, 17, 2, 10, 7, 9, 13, 6, 18, 0, 3, 5, 15, 8, 16, 14, 12, 1], [12, 3, 13, 7, 2, 14, 10, 8, 4, 0, 17, 5, 16, 6, 1, 9, 18, 15, 11], [13, 12, 14, 16, 5, 9, 3, 18, 11, 2, 7, 15, 6, 1, 0, 4, 10, 8, 17], [14, 13, 9, 6, 15, 4, 12, 10, 17, 5, 16, 8, 1, 0, 2, 11, 3, 18, 7], [15, 5, 8, 14, 7, 18, 2, 1, 3, 17, 13, 16, 9, 4, 11, 10, 0, 6, 12], [16, 7, 6, 8, 13, 1, 17, 4, 2, 12, 15, 14, 18, 10, 3, 0, 11, 9, 5], [17, 11, 7, 5, 3, 16, 4, 14, 1, 10, 2, 12, 15, 8, 18, 6, 9, 13, 0], [18, 8, 10, 4, 6, 3, 15, 2, 13, 16, 9, 1, 11, 17, 7, 12, 5, 0, 14]], [0, 2, 1, 4, 3, 6, 5, 8, 7, 12, 11, 10, 9, 14, 13, 16, 15, 18, 17]),
  (-308, [[0, 1, 2, 3, 4, 5, 6, 7], [1, 0, 4, 5, 2, 3, 7, 6], [2, 4, 7, 0, 6, 1, 5, 3], [3, 5, 0, 7, 1, 6, 4, 2], [4, 2, 6, 1, 7, 0, 3, 5], [5, 3, 1, 6, 0, 7, 2, 4], [6, 7, 5, 4, 3, 2, 0, 1], [7, 6, 3, 2, 5, 4, 1, 0]], [0, 1, 3, 2, 5, 4, 6, 7]),
  (-307, [[0, 1, 2], [1, 2, 0], [2, 0, 1]], [0, 2, 1]),
  (-304, [[0, 1, 2, 3, 4, 5], [1, 0, 4, 5, 2, 3], [2, 4, 3, 0, 5, 1], [3, 5, 0, 2, 1, 4], [4, 2, 5, 1, 3, 0], [5, 3, 1, 4, 0, 2]], [0, 1, 3, 2, 5, 4]),
  (-303, [[0, 1, 2, 3, 4, 5, 6, 7, 8, 9], [1, 4, 0, 7, 9, 2, 3, 8, 5, 6], [2, 0, 5, 6, 1, 8, 9, 3, 7, 4], [3, 7, 6, 0, 8, 9, 2, 1, 4, 5], [4, 9, 1, 8, 6, 0, 7, 5, 2, 3], [5, 2, 8, 9, 0, 7, 4, 6, 3, 1], [6, 3, 9, 2, 7, 4, 5, 0, 1, 8], [7, 8, 3, 1, 5, 6, 0, 4, 9, 2], [8, 5, 7, 4, 2, 3, 1, 9, 6, 0], [9, 6, 4, 5, 3, 1, 8, 2, 0, 7]], [0, 2, 1, 3, 5, 4, 7, 6, 9, 8]),
  (-300, [[0, 1, 2, 3, 4, 5], [1, 0, 4, 5, 2, 3], [2, 4, 3, 0, 5, 1], [3, 5, 0, 2, 1, 4], [4, 2, 5, 1, 3, 0], [5, 3, 1, 4, 0, 2]], [0, 1, 3, 2, 5, 4]),
  (-299, [[0, 1, 2, 3, 4, 5, 6, 7], [1, 7, 0, 4, 6, 3, 5, 2], [2, 0, 7, 5, 3, 6, 4, 1], [3, 4, 5, 2, 0, 7, 1, 6], [4, 6, 3, 0, 1, 2, 7, 5], [5, 3, 6, 7, 2, 1, 0, 4], [6, 5, 4, 1, 7, 0, 2, 3], [7, 2, 1, 6, 5, 4, 3, 0]], [0, 2, 1, 4, 3, 6, 5, 7]),
  (-296, [[0, 1, 2, 3, 4, 5, 6, 7, 8, 9], [1, 0, 7, 6, 8, 9, 3, 2, 4, 5], [2, 7, 8, 0, 5, 6, 1, 4, 9, 3], [3, 6, 0, 9, 7, 4, 5, 1, 2, 8], [4, 8, 5, 7, 3, 0, 2, 9, 6, 1], [5, 9, 6, 4, 0, 2, 8, 3, 1, 7], [6, 3, 1, 5, 2, 8, 9, 0, 7, 4], [7, 2, 4, 1, 9, 3, 0, 8, 5, 6], [8, 4, 9, 2, 6, 1, 7, 5, 3, 0], [9, 5, 3, 8, 1, 7, 4, 6, 0, 2]], [0, 1, 3, 2, 5, 4, 7, 6, 9, 8]),
  (-295, [[0, 1, 2, 3, 4, 5, 6, 7], [1, 4, 0, 2, 6, 7, 5, 3], [2, 0, 3, 7, 1, 6, 4, 5], [3, 2, 7, 5, 0, 4, 1, 6], [4, 6, 1, 0, 5, 3, 7, 2], [5, 7, 6, 4, 3, 0, 2, 1], [6, 5, 4, 1, 7, 2, 3, 0], [7, 3, 5, 6, 2, 1, 0, 4]], [0, 2, 1, 4, 3, 5, 7, 6]),
  (-292, [[0, 1, 2, 3], [1, 0, 3, 2], [2, 3, 1, 0], [3, 2, 0, 1]], [0, 1, 3, 2]),
  (-291, [[0, 1, 2, 3], [1, 0, 3, 2], [2, 3, 1, 0], [3, 2, 0, 1]], [0, 1, 3, 2]),
  (-288, [[0, 1, 2, 3], [1, 0, 3, 2], [2, 3, 0, 1], [3, 2, 1, 0]], [0, 1, 2, 3]),
  (-287, [[0, 1, 2, 3, 4, 5, 6, 7, 8, 9, 10, 11, 12, 13], [1, 5, 0, 8, 7, 12, 2, 11, 9, 4, 3, 10, 13, 6], [2, 0, 6, 10, 9, 1, 13, 4, 3, 8, 11, 7, 5, 12], [3, 8, 10, 13, 0, 9, 11, 1, 6, 2, 12, 5, 4, 7], [4, 7, 9, 0, 12, 11, 8, 13, 1, 5, 2, 6, 10, 3], [5, 12, 1, 9, 11, 13, 0, 10, 4, 7, 8, 3, 6, 2], [6, 2, 13, 11, 8, 0, 12, 9, 10, 3, 7, 4, 1, 5], [7, 11, 4, 1, 13, 10, 9, 6, 5, 12, 0, 2, 3, 8], [8, 9, 3, 6, 1, 4, 10, 5, 2, 0, 13, 12, 7, 11], [9, 4, 8, 2, 5, 7, 3, 12, 0, 1, 6, 13, 11, 10], [10, 3, 11, 12, 2, 8, 7, 0, 13, 6, 5, 1, 9, 4], [11, 10, 7, 5, 6, 3, 4, 2, 12, 13, 1, 0, 8, 9], [12, 13, 5, 4, 10, 6, 1, 3, 7, 11, 9, 8, 2, 0], [13, 6, 12, 7, 3, 2, 5, 8, 11, 10, 4, 9, 0, 1]], [0, 2, 1, 4, 3, 6, 5, 10, 9, 8, 7, 11, 13, 12]),
  (-284, [[0, 1, 2, 3, 4, 5, 6], [1, 6, 0, 5, 3, 2, 4], [2, 0, 5, 4, 6, 3, 1], [3, 5, 4, 1, 0, 6, 2], [4, 3, 6, 0, 2, 1, 5], [5, 2, 3, 6, 1, 4, 0], [6, 4, 1, 2, 5, 0, 3]], [0, 2, 1, 4, 3, 6, 5]),
  (-283, [[0, 1, 2], [1, 2, 0], [2, 0, 1]], [0, 2, 1]),
  (-280, [[0, 1, 2, 3], [1, 0, 3, 2], [2, 3, 0, 1], [3, 2, 1, 0]], [0, 1, 2, 3]),
  (-279, [[0, 1, 2, 3, 4, 5, 6, 7, 8, 9, 10, 11], [1, 4, 0, 2, 10, 8, 11, 6, 9, 3, 7, 5], [2, 0, 3, 9, 1, 11, 7, 10, 5, 8, 4, 6], [3, 2, 9, 8, 0, 6, 10, 4, 11, 5, 1, 7], [4, 10, 1, 0, 7, 9, 5, 11, 3, 2, 6, 8], [5, 8, 11, 6, 9, 4, 0, 2, 10, 7, 3, 1], [6, 11, 7, 10, 5, 0, 3, 9, 1, 4, 8, 2], [7, 6, 10, 4, 11, 2, 9, 8, 0, 1, 5, 3], [8, 9, 5, 11, 3, 10, 1, 0, 7, 6, 2, 4], [9, 3, 8, 5, 2, 7, 4, 1, 6, 11, 0, 10], [10, 7, 4, 1, 6, 3, 8, 5, 2, 0, 11, 9], [11, 5, 6, 7, 8, 1, 2, 3, 4, 10, 9, 0]], [0, 2, 1, 4, 3, 6, 5, 8, 7, 10, 9, 11]),
  (-276, [[0, 1, 2, 3, 4, 5, 6, 7], [1, 0, 5, 7, 6, 2, 4, 3], [2, 5, 0, 6, 7, 1, 3, 4], [3, 7, 6, 5, 0, 4, 1, 2], [4, 6, 7, 0, 5, 3, 2, 1], [5, 2, 1, 4, 3, 0, 7, 6], [6, 4, 3, 1, 2, 7, 5, 0], [7, 3, 4, 2, 1, 6, 0, 5]], [0, 1, 2, 4, 3, 5, 7, 6]),
  (-275, [[0, 1, 2, 3], [1, 3, 0, 2], [2, 0, 3, 1], [3, 2, 1, 0]], [0, 2, 1, 3]),
  (-272, [[0, 1, 2, 3, 4, 5, 6, 7], [1, 6, 0, 4, 7, 3, 5, 2], [2, 0, 7, 5, 3, 6, 1, 4], [3, 4, 5, 0, 1, 2, 7, 6], [4, 7, 3, 1, 6, 0, 2, 5], [5, 3, 6, 2, 0, 7, 4, 1], [6, 5, 1, 7, 2, 4, 3, 0], [7, 2, 4, 6, 5, 1, 0, 3]], [0, 2, 1, 3, 5, 4, 7, 6]),
  (-271, [[0, 1, 2, 3, 4, 5, 6, 7, 8, 9, 10], [1, 3, 0, 10, 2, 9, 7, 8, 5, 4, 6], [2, 0, 4, 1, 9, 8, 10, 6, 7, 5, 3], [3, 10, 1, 6, 0, 4, 8, 5, 9, 2, 7], [4, 2, 9, 0, 5, 7, 3, 10, 6, 8, 1], [5, 9, 8, 4, 7, 10, 0, 1, 3, 6, 2], [6, 7, 10, 8, 3, 0, 9, 4, 2, 1, 5], [7, 8, 6, 5, 10, 1, 4, 2, 0, 3, 9], [8, 5, 7, 9, 6, 3, 2, 0, 1, 10, 4], [9, 4, 5, 2, 8, 6, 1, 3, 10, 7, 0], [10, 6, 3, 7, 1, 2, 5, 9, 4, 0, 8]], [0, 2, 1, 4, 3, 6, 5, 8, 7, 10, 9]),
  (-268, [[0, 1, 2], [1, 2, 0], [2, 0, 1]], [0, 2, 1]),
  (-267, [[0, 1], [1, 0]], [0, 1]),
  (-264, [[0, 1, 2, 3, 4, 5, 6, 7], [1, 0, 5, 7, 6, 2, 4, 3], [2, 5, 0, 4, 3, 1, 7, 6], [3, 7, 4, 2, 0, 6, 1, 5], [4, 6, 3, 0, 2, 7, 5, 1], [5, 2, 1, 6, 7, 0, 3, 4], [6, 4, 7, 1, 5, 3, 2, 0], [7, 3, 6, 5, 1, 4, 0, 2]], [0, 1, 2, 4, 3, 5, 7, 6]),
  (-263, [[0, 1, 2, 3, 4, 5, 6, 7, 8, 9, 10, 11, 12], [1, 6, 0, 8, 7, 2, 11, 10, 12, 4, 3, 9, 5], [2, 0, 5, 10, 9, 12, 1, 4, 3, 11, 7, 6, 8], [3, 8, 10, 11, 0, 7, 12, 1, 9, 2, 6, 5, 4], [4, 7, 9, 0, 12, 11, 10, 5, 1, 8, 2, 3, 6], [5, 2, 12, 7, 11, 8, 0, 9, 10, 6, 4, 1, 3], [6, 11, 1, 12, 10, 0, 9, 3, 5, 7, 8, 4, 2], [7, 10, 4, 1, 5, 9, 3, 2, 6, 12, 0, 8, 11], [8, 12, 3, 9, 1, 10, 5, 6, 4, 0, 11, 2, 7], [9, 4, 11, 2, 8, 6, 7, 12, 0, 3, 5, 10, 1], [10, 3, 7, 6, 2, 4, 8, 0, 11, 5, 1, 12, 9], [11, 9, 6, 5, 3, 1, 4, 8, 2, 10, 12, 7, 0], [12, 5, 8, 4, 6, 3, 2, 11, 7, 1, 9, 0, 10]], [0, 2, 1, 4, 3, 6, 5, 10, 9, 8, 7, 12, 11]),
  (-260, [[0, 1, 2, 3, 4, 5, 6, 7], [1, 0, 5, 6, 7, 2, 3, 4], [2, 5, 7, 0, 6, 4, 1, 3], [3, 6, 0, 7, 5, 1, 4, 2], [4, 7, 6, 5, 0, 3, 2, 1], [5, 2, 4, 1, 3, 7, 0, 6], [6, 3, 1, 4, 2, 0, 7, 5], [7, 4, 3, 2, 1, 6, 5, 0]], [0, 1, 3, 2, 4, 6, 5, 7]),
  (-259, [[0, 1, 2, 3], [1, 3, 0, 2], [2, 0, 3, 1], [3, 2, 1, 0]], [0, 2, 1, 3]),
  (-256, [[0, 1, 2, 3], [1, 0, 3, 2], [2, 3, 1, 0], [3, 2, 0, 1]], [0, 1, 3, 2]),
  (-255, [[0, 1, 2, 3, 4, 5, 6, 7, 8, 9, 10, 11], [1, 4, 0, 8, 11, 2, 10, 3, 9, 6, 7, 5], [2, 0, 5, 7, 1, 11, 9, 10, 3, 8, 6, 4], [3, 8, 7, 0, 9, 10, 11, 2, 1, 4, 5, 6], [4, 11, 1, 9, 5, 0, 7, 8, 6, 10, 3, 2], [5, 2, 11, 10, 0, 4, 8, 6, 7, 3, 9, 1], [6, 10, 9, 11, 7, 8, 0, 4, 5, 2, 1, 3], [7, 3, 10, 2, 8, 6, 4, 5, 0, 1, 11, 9], [8, 9, 3, 1, 6, 7, 5, 0, 4, 11, 2, 10], [9, 6, 8, 4, 10, 3, 2, 1, 11, 5, 0, 7], [10, 7, 6, 5, 3, 9, 1, 11, 2, 0, 4, 8], [11, 5, 4, 6, 2, 1, 3, 9, 10, 7, 8, 0]], [0, 2, 1, 3, 5, 4, 6, 8, 7, 10, 9, 11]),
  (-252, [[0, 1, 2, 3], [1, 0, 3, 2], [2, 3, 1, 0], [3, 2, 0, 1]], [0, 1, 3, 2]),
  (-251, [[0, 1, 2, 3, 4, 5, 6], [1, 6, 0, 5, 3, 2, 4], [2, 0, 5, 4, 6, 3, 1], [3, 5, 4, 1, 0, 6, 2], [4, 3, 6, 0, 2, 1, 5], [5, 2, 3, 6, 1, 4, 0], [6, 4, 1, 2, 5, 0, 3]], [0, 2, 1, 4, 3, 6, 5]),
  (-248, [[0, 1, 2, 3, 4, 5, 6, 7], [1, 0, 5, 4, 3, 2, 7, 6], [2, 5, 7, 0, 1, 6, 3, 4], [3, 4, 0, 6, 7, 1, 5, 2], [4, 3, 1, 7, 6, 0, 2, 5], [5, 2, 6, 1, 0, 7, 4, 3], [6, 7, 3, 5, 2, 4, 1, 0], [7, 6, 4, 2, 5, 3, 0, 1]], [0, 1, 3, 2, 5, 4, 7, 6]),
  (-247, [[0, 1, 2, 3, 4, 5], [1, 4, 0, 2, 5, 3], [2, 0, 3, 5, 1, 4], [3, 2, 5, 4, 0, 1], [4, 5, 1, 0, 3, 2], [5, 3, 4, 1, 2, 0]], [0, 2, 1, 4, 3, 5]),
  (-244, [[0, 1, 2, 3, 4, 5], [1, 0, 4, 5, 2, 3], [2, 4, 3, 0, 5, 1], [3, 5, 0, 2, 1, 4], [4, 2, 5, 1, 3, 0], [5, 3, 1, 4, 0, 2]], [0, 1, 3, 2, 5, 4]),
  (-243, [[0, 1, 2], [1, 2, 0], [2, 0, 1]], [0, 2, 1]),
  (-240, [[0, 1, 2, 3], [1, 0, 3, 2], [2, 3, 0, 1], [3, 2, 1, 0]], [0, 1, 2, 3]),
  (-239, [[0, 1, 2, 3, 4, 5, 6, 7, 8, 9, 10, 11, 12, 13, 14], [1, 5, 0, 10, 9, 14, 2, 11, 13, 12, 8, 4, 3, 6, 7], [2, 0, 6, 12, 11, 1, 13, 14, 10, 4, 3, 7, 9, 8, 5], [3, 10, 12, 14, 0, 8, 9, 6, 11, 1, 7, 2, 5, 4, 13], [4, 9, 11, 0, 13, 12, 7, 10, 5, 6, 1, 8, 2, 14, 3], [5, 14, 1, 8, 12, 7, 0, 4, 6, 3, 13, 9, 10, 2, 11], [6, 2, 13, 9, 7, 0, 8, 5, 3, 11, 12, 14, 4, 10, 1], [7, 11, 14, 6, 10, 4, 5, 12, 0, 8, 2, 3, 13, 1, 9], [8, 13, 10, 11, 5, 6, 3, 0, 9, 14, 4, 1, 7, 12, 2], [9, 12, 4, 1, 6, 3, 11, 8, 14, 2, 5, 13, 0, 7, 10], [10, 8, 3, 7, 1, 13, 12, 2, 4, 5, 11, 0, 14, 9, 6], [11, 4, 7, 2, 8, 9, 14, 3, 1, 13, 0, 10, 6, 5, 12], [12, 3, 9, 5, 2, 10, 4, 13, 7, 0, 14, 6, 1, 11, 8], [13, 6, 8, 4, 14, 2, 10, 1, 12, 7, 9, 5, 11, 3, 0], [14, 7, 5, 13, 3, 11, 1, 9, 2, 10, 6, 12, 8, 0, 4]], [0, 2, 1, 4, 3, 6, 5, 8, 7, 12, 11, 10, 9, 14, 13]),
  (-236, [[0, 1, 2, 3, 4, 5, 6, 7, 8], [1, 7, 0, 6, 8, 4, 5, 3, 2], [2, 0, 8, 7, 5, 6, 3, 1, 4], [3, 6, 7, 4, 0, 2, 8, 5, 1], [4, 8, 5, 0, 3, 7, 1, 2, 6], [5, 4, 6, 2, 7, 1, 0, 8, 3], [6, 5, 3, 8, 1, 0, 2, 4, 7], [7, 3, 1, 5, 2, 8, 4, 6, 0], [8, 2, 4, 1, 6, 3, 7, 0, 5]], [0, 2, 1, 4, 3, 6, 5, 8, 7]),
  (-235, [[0, 1], [1, 0]], [0, 1]),
  (-232, [[0, 1], [1, 0]], [0, 1]),
  (-231, [[0, 1, 2, 3, 4, 5, 6, 7, 8, 9, 10, 11], [1, 5, 0, 9, 2, 11, 10, 8, 3, 6, 7, 4], [2, 0, 4, 8, 11, 1, 9, 10, 7, 3, 6, 5], [3, 9, 8, 0, 7, 6, 5, 4, 2, 1, 11, 10], [4, 2, 11, 7, 5, 0, 3, 6, 10, 8, 9, 1], [5, 11, 1, 6, 0, 4, 7, 3, 9, 10, 8, 2], [6, 10, 9, 5, 3, 7, 4, 0, 1, 11, 2, 8], [7, 8, 10, 4, 6, 3, 0, 5, 11, 2, 1, 9], [8, 3, 7, 2, 10, 9, 1, 11, 4, 0, 5, 6], [9, 6, 3, 1, 8, 10, 11, 2, 0, 5, 4, 7], [10, 7, 6, 11, 9, 8, 2, 1, 5, 4, 0, 3], [11, 4, 5, 10, 1, 2, 8, 9, 6, 7, 3, 0]], [0, 2, 1, 3, 5, 4, 7, 6, 9, 8, 10, 11]),
  (-228, [[0, 1, 2, 3], [1, 0, 3, 2], [2, 3, 0, 1], [3, 2, 1, 0]], [0, 1, 2, 3]),
  (-227, [[0, 1, 2, 3, 4], [1, 3, 0, 4, 2], [2, 0, 4, 1, 3], [3, 4, 1, 2, 0], [4, 2, 3, 0, 1]], [0, 2, 1, 4, 3]),
  (-224, [[0, 1, 2, 3, 4, 5, 6, 7], [1, 7, 0, 4, 6, 3, 5, 2], [2, 0, 7, 5, 3, 6, 4, 1], [3, 4, 5, 0, 1, 2, 7, 6], [4, 6, 3, 1, 7, 0, 2, 5], [5, 3, 6, 2, 0, 7, 1, 4], [6, 5, 4, 7, 2, 1, 0, 3], [7, 2, 1, 6, 5, 4, 3, 0]], [0, 2, 1, 3, 5, 4, 6, 7]),
  (-223, [[0, 1, 2, 3, 4, 5, 6], [1, 3, 0, 6, 2, 4, 5], [2, 0, 4, 1, 5, 6, 3], [3, 6, 1, 5, 0, 2, 4], [4, 2, 5, 0, 6, 3, 1], [5, 4, 6, 2, 3, 1, 0], [6, 5, 3, 4, 1, 0, 2]], [0, 2, 1, 4, 3, 6, 5]),
  (-220, [[0, 1, 2, 3], [1, 0, 3, 2], [2, 3, 1, 0], [3, 2, 0, 1]], [0, 1, 3, 2]),
  (-219, [[0, 1, 2, 3], [1, 0, 3, 2], [2, 3, 1, 0], [3, 2, 0, 1]], [0, 1, 3, 2]),
  (-216, [[0, 1, 2, 3, 4, 5], [1, 0, 5, 4, 3, 2], [2, 5, 4, 0, 1, 3], [3, 4, 0, 5, 2, 1], [4, 3, 1, 2, 5, 0], [5, 2, 3, 1, 0, 4]], [0, 1, 3, 2, 5, 4]),
  (-215, [[0, 1, 2, 3, 4, 5, 6, 7, 8, 9, 10, 11, 12, 13], [1, 6, 0, 9, 8, 2, 12, 11, 7, 13, 4, 3, 10, 5], [2, 0, 5, 11, 10, 13, 1, 8, 4, 3, 12, 7, 6, 9], [3, 9, 11, 10, 0, 7, 13, 6, 1, 4, 2, 12, 5, 8], [4, 8, 10, 0, 9, 12, 7, 5, 13, 1, 3, 2, 11, 6], [5, 2, 13, 7, 12, 9, 0, 4, 10, 11, 6, 8, 1, 3], [6, 12, 1, 13, 7, 0, 10, 3, 11, 5, 8, 9, 4, 2], [7, 11, 8, 6, 5, 4, 3, 0, 2, 12, 13, 1, 9, 10], [8, 7, 4, 1, 13, 10, 11, 2, 5, 6, 9, 0, 3, 12], [9, 13, 3, 4, 1, 11, 5, 12, 6, 8, 0, 10, 2, 7], [10, 4, 12, 2, 3, 6, 8, 13, 9, 0, 11, 5, 7, 1], [11, 3, 7, 12, 2, 8, 9, 1, 0, 10, 5, 6, 13, 4], [12, 10, 6, 5, 11, 1, 4, 9, 3, 2, 7, 13, 8, 0], [13, 5, 9, 8, 6, 3, 2, 10, 12, 7, 1, 4, 0, 11]], [0, 2, 1, 4, 3, 6, 5, 7, 11, 10, 9, 8, 13, 12]),
  (-212, [[0, 1, 2, 3, 4, 5], [1, 0, 4, 5, 2, 3], [2, 4, 5, 0, 3, 1], [3, 5, 0, 4, 1, 2], [4, 2, 3, 1, 5, 0], [5, 3, 1, 2, 0, 4]], [0, 1, 3, 2, 5, 4]),
  (-211, [[0, 1, 2], [1, 2, 0], [2, 0, 1]], [0, 2, 1]),
  (-208, [[0, 1, 2, 3], [1, 0, 3, 2], [2, 3, 1, 0], [3, 2, 0, 1]], [0, 1, 3, 2]),
  (-207, [[0, 1, 2, 3, 4, 5], [1, 3, 0, 5, 2, 4], [2, 0, 4, 1, 5, 3], [3, 5, 1, 4, 0, 2], [4, 2, 5, 0, 3, 1], [5, 4, 3, 2, 1, 0]], [0, 2, 1, 4, 3, 5]),
  (-204, [[0, 1, 2, 3, 4, 5], [1, 0, 5, 4, 3, 2], [2, 5, 3, 0, 1, 4], [3, 4, 0, 2, 5, 1], [4, 3, 1, 5, 2, 0], [5, 2, 4, 1, 0, 3]], [0, 1, 3, 2, 5, 4]),
  (-203, [[0, 1, 2, 3], [1, 3, 0, 2], [2, 0, 3, 1], [3, 2, 1, 0]], [0, 2, 1, 3]),
  (-200, [[0, 1, 2, 3, 4, 5], [1, 0, 5, 4, 3, 2], [2, 5, 4, 0, 1, 3], [3, 4, 0, 5, 2, 1], [4, 3, 1, 2, 5, 0], [5, 2, 3, 1, 0, 4]], [0, 1, 3, 2, 5, 4]),
  (-199, [[0, 1, 2, 3, 4, 5, 6, 7, 8], [1, 4, 0, 2, 8, 6, 7, 3, 5], [2, 0, 3, 7, 1, 8, 5, 6, 4], [3, 2, 7, 6, 0, 4, 8, 5, 1], [4, 8, 1, 0, 5, 7, 3, 2, 6], [5, 6, 8, 4, 7, 2, 0, 1, 3], [6, 7, 5, 8, 3, 0, 1, 4, 2], [7, 3, 6, 5, 2, 1, 4, 8, 0], [8, 5, 4, 1, 6, 3, 2, 0, 7]], [0, 2, 1, 4, 3, 6, 5, 8, 7]),
  (-196, [[0, 1, 2, 3], [1, 0, 3, 2], [2, 3, 1, 0], [3, 2, 0, 1]], [0, 1, 3, 2]),
  (-195, [[0, 1, 2, 3], [1, 0, 3, 2], [2, 3, 0, 1], [3, 2, 1, 0]], [0, 1, 2, 3]),
  (-192, [[0, 1, 2, 3], [1, 0, 3, 2], [2, 3, 0, 1], [3, 2, 1, 0]], [0, 1, 2, 3]),
  (-191, [[0, 1, 2, 3, 4, 5, 6, 7, 8, 9, 10, 11, 12], [1, 5, 0, 10, 9, 11, 2, 12, 7, 8, 6, 4, 3], [2, 0, 6, 12, 11, 1, 10, 8, 9, 4, 3, 5, 7], [3, 10, 12, 9, 0, 6, 7, 11, 5, 1, 8, 2, 4], [4, 9, 11, 0, 12, 8, 5, 6, 10, 3, 1, 7, 2], [5, 11, 1, 6, 8, 4, 0, 3, 12, 7, 2, 9, 10], [6, 2, 10, 7, 5, 0, 3, 9, 4, 11, 12, 1, 8], [7, 12, 8, 11, 6, 3, 9, 1, 0, 2, 4, 10, 5], [8, 7, 9, 5, 10, 12, 4, 0, 2, 6, 11, 3, 1], [9, 8, 4, 1, 3, 7, 11, 2, 6, 10, 5, 12, 0], [10, 6, 3, 8, 1, 2, 12, 4, 11, 5, 7, 0, 9], [11, 4, 5, 2, 7, 9, 1, 10, 3, 12, 0, 8, 6], [12, 3, 7, 4, 2, 10, 8, 5, 1, 0, 9, 6, 11]], [0, 2, 1, 4, 3, 6, 5, 8, 7, 12, 11, 10, 9]),
  (-188, [[0, 1, 2, 3, 4], [1, 3, 0, 4, 2], [2, 0, 4, 1, 3], [3, 4, 1, 2, 0], [4, 2, 3, 0, 1]], [0, 2, 1, 4, 3]),
  (-187, [[0, 1], [1, 0]], [0, 1]),
  (-184, [[0, 1, 2, 3], [1, 0, 3, 2], [2, 3, 1, 0], [3, 2, 0, 1]], [0, 1, 3, 2]),
  (-183, [[0, 1, 2, 3, 4, 5, 6, 7], [1, 5, 0, 7, 2, 6, 3, 4], [2, 0, 4, 6, 7, 1, 5, 3], [3, 7, 6, 0, 5, 4, 2, 1], [4, 2, 7, 5, 3, 0, 1, 6], [5, 6, 1, 4, 0, 3, 7, 2], [6, 3, 5, 2, 1, 7, 4, 0], [7, 4, 3, 1, 6, 2, 0, 5]], [0, 2, 1, 3, 5, 4, 7, 6]),
  (-180, [[0, 1, 2, 3], [1, 0, 3, 2], [2, 3, 0, 1], [3, 2, 1, 0]], [0, 1, 2, 3]),
  (-179, [[0, 1, 2, 3, 4], [1, 4, 0, 2, 3], [2, 0, 3, 4, 1], [3, 2, 4, 1, 0], [4, 3, 1, 0, 2]], [0, 2, 1, 4, 3]),
  (-176, [[0, 1, 2, 3, 4, 5], [1, 5, 0, 4, 2, 3], [2, 0, 4, 5, 3, 1], [3, 4, 5, 0, 1, 2], [4, 2, 3, 1, 5, 0], [5, 3, 1, 2, 0, 4]], [0, 2, 1, 3, 5, 4]),
  (-175, [[0, 1, 2, 3, 4, 5], [1, 3, 0, 5, 2, 4], [2, 0, 4, 1, 5, 3], [3, 5, 1, 4, 0, 2], [4, 2, 5, 0, 3, 1], [5, 4, 3, 2, 1, 0]], [0, 2, 1, 4, 3, 5]),
  (-172, [[0, 1, 2], [1, 2, 0], [2, 0, 1]], [0, 2, 1]),
  (-171, [[0, 1, 2, 3], [1, 3, 0, 2], [2, 0, 3, 1], [3, 2, 1, 0]], [0, 2, 1, 3]),
  (-168, [[0, 1, 2, 3], [1, 0, 3, 2], [2, 3, 0, 1], [3, 2, 1, 0]], [0, 1, 2, 3]),
  (-167, [[0, 1, 2, 3, 4, 5, 6, 7, 8, 9, 10], [1, 6, 0, 8, 7, 2, 10, 5, 9, 4, 3], [2, 0, 5, 10, 9, 7, 1, 4, 3, 8, 6], [3, 8, 10, 7, 0, 6, 9, 1, 5, 2, 4], [4, 7, 9, 0, 10, 8, 5, 3, 1, 6, 2], [5, 2, 7, 6, 8, 4, 0, 9, 10, 3, 1], [6, 10, 1, 9, 5, 0, 3, 2, 4, 7, 8], [7, 5, 4, 1, 3, 9, 2, 8, 6, 10, 0], [8, 9, 3, 5, 1, 10, 4, 6, 2, 0, 7], [9, 4, 8, 2, 6, 3, 7, 10, 0, 1, 5], [10, 3, 6, 4, 2, 1, 8, 0, 7, 5, 9]], [0, 2, 1, 4, 3, 6, 5, 10, 9, 8, 7]),
  (-164, [[0, 1, 2, 3, 4, 5, 6, 7], [1, 0, 6, 7, 5, 4, 2, 3], [2, 6, 4, 0, 7, 3, 5, 1], [3, 7, 0, 5, 2, 6, 1, 4], [4, 5, 7, 2, 1, 0, 3, 6], [5, 4, 3, 6, 0, 1, 7, 2], [6, 2, 5, 1, 3, 7, 4, 0], [7, 3, 1, 4, 6, 2, 0, 5]], [0, 1, 3, 2, 5, 4, 7, 6]),
  (-163, [[0]], [0]),
  (-160, [[0, 1, 2, 3], [1, 0, 3, 2], [2, 3, 0, 1], [3, 2, 1, 0]], [0, 1, 2, 3]),
  (-159, [[0, 1, 2, 3, 4, 5, 6, 7, 8, 9], [1, 4, 0, 9, 7, 2, 5, 8, 3, 6], [2, 0, 5, 8, 1, 6, 9, 4, 7, 3], [3, 9, 8, 0, 6, 7, 4, 5, 2, 1], [4, 7, 1, 6, 8, 0, 2, 3, 9, 5], [5, 2, 6, 7, 0, 9, 3, 1, 4, 8], [6, 5, 9, 4, 2, 3, 8, 0, 1, 7], [7, 8, 4, 5, 3, 1, 0, 9, 6, 2], [8, 3, 7, 2, 9, 4, 1, 6, 5, 0], [9, 6, 3, 1, 5, 8, 7, 2, 0, 4]], [0, 2, 1, 3, 5, 4, 7, 6, 9, 8]),
  (-156, [[0, 1, 2, 3], [1, 0, 3, 2], [2, 3, 1, 0], [3, 2, 0, 1]], [0, 1, 3, 2]),
  (-155, [[0, 1, 2, 3], [1, 3, 0, 2], [2, 0, 3, 1], [3, 2, 1, 0]], [0, 2, 1, 3]),
  (-152, [[0, 1, 2, 3, 4, 5], [1, 0, 5, 4, 3, 2], [2, 5, 4, 0, 1, 3], [3, 4, 0, 5, 2, 1], [4, 3, 1, 2, 5, 0], [5, 2, 3, 1, 0, 4]], [0, 1, 3, 2, 5, 4]),
  (-151, [[0, 1, 2, 3, 4, 5, 6], [1, 4, 0, 2, 5, 6, 3], [2, 0, 3, 6, 1, 4, 5], [3, 2, 6, 5, 0, 1, 4], [4, 5, 1, 0, 6, 3, 2], [5, 6, 4, 1, 3, 2, 0], [6, 3, 5, 4, 2, 0, 1]], [0, 2, 1, 4, 3, 6, 5]),
  (-148, [[0, 1], [1, 0]], [0, 1]),
  (-147, [[0, 1], [1, 0]], [0, 1]),
  (-144, [[0, 1, 2, 3], [1, 0, 3, 2], [2, 3, 1, 0], [3, 2, 0, 1]], [0, 1, 3, 2]),
  (-143, [[0, 1, 2, 3, 4, 5, 6, 7, 8, 9], [1, 5, 0, 8, 7, 9, 2, 6, 4, 3], [2, 0, 6, 9, 8, 1, 7, 4, 3, 5], [3, 8, 9, 6, 0, 4, 5, 1, 2, 7], [4, 7, 8, 0, 5, 6, 3, 9, 1, 2], [5, 9, 1, 4, 6, 3, 0, 2, 7, 8], [6, 2, 7, 5, 3, 0, 4, 8, 9, 1], [7, 6, 4, 1, 9, 2, 8, 3, 5, 0], [8, 4, 3, 2, 1, 7, 9, 5, 0, 6], [9, 3, 5, 7, 2, 8, 1, 0, 6, 4]], [0, 2, 1, 4, 3, 6, 5, 9, 8, 7]),
  (-140, [[0, 1, 2, 3, 4, 5], [1, 4, 0, 2, 5, 3], [2, 0, 3, 5, 1, 4], [3, 2, 5, 4, 0, 1], [4, 5, 1, 0, 3, 2], [5, 3, 4, 1, 2, 0]], [0, 2, 1, 4, 3, 5]),
  (-139, [[0, 1, 2], [1, 2, 0], [2, 0, 1]], [0, 2, 1]),
  (-136, [[0, 1, 2, 3], [1, 0, 3, 2], [2, 3, 1, 0], [3, 2, 0, 1]], [0, 1, 3, 2]),
  (-135, [[0, 1, 2, 3, 4, 5], [1, 4, 0, 2, 5, 3], [2, 0, 3, 5, 1, 4], [3, 2, 5, 4, 0, 1], [4, 5, 1, 0, 3, 2], [5, 3, 4, 1, 2, 0]], [0, 2, 1, 4, 3, 5]),
  (-132, [[0, 1, 2, 3], [1, 0, 3, 2], [2, 3, 0, 1], [3, 2, 1, 0]], [0, 1, 2, 3]),
  (-131, [[0, 1, 2, 3, 4], [1, 3, 0, 4, 2], [2, 0, 4, 1, 3], [3, 4, 1, 2, 0], [4, 2, 3, 0, 1]], [0, 2, 1, 4, 3]),
  (-128, [[0, 1, 2, 3], [1, 3, 0, 2], [2, 0, 3, 1], [3, 2, 1, 0]], [0, 2, 1, 3]),
  (-127, [[0, 1, 2, 3, 4], [1, 3, 0, 4, 2], [2, 0, 4, 1, 3], [3, 4, 1, 2, 0], [4, 2, 3, 0, 1]], [0, 2, 1, 4, 3]),
  (-124, [[0, 1, 2], [1, 2, 0], [2, 0, 1]], [0, 2, 1]),
  (-123, [[0, 1], [1, 0]], [0, 1]),
  (-120, [[0, 1, 2, 3], [1, 0, 3, 2], [2, 3, 0, 1], [3, 2, 1, 0]], [0, 1, 2, 3]),
  (-119, [[0, 1, 2, 3, 4, 5, 6, 7, 8, 9], [1, 6, 0, 8, 9, 2, 5, 4, 7, 3], [2, 0, 5, 9, 7, 6, 1, 8, 3, 4], [3, 8, 9, 6, 0, 4, 7, 2, 5, 1], [4, 9, 7, 0, 5, 8, 3, 6, 1, 2], [5, 2, 6, 4, 8, 1, 0, 3, 9, 7], [6, 5, 1, 7, 3, 0, 2, 9, 4, 8], [7, 4, 8, 2, 6, 3, 9, 1, 0, 5], [8, 7, 3, 5, 1, 9, 4, 0, 2, 6], [9, 3, 4, 1, 2, 7, 8, 5, 6, 0]], [0, 2, 1, 4, 3, 6, 5, 8, 7, 9]),
  (-116, [[0, 1, 2, 3, 4, 5], [1, 0, 5, 4, 3, 2], [2, 5, 4, 0, 1, 3], [3, 4, 0, 5, 2, 1], [4, 3, 1, 2, 5, 0], [5, 2, 3, 1, 0, 4]], [0, 1, 3, 2, 5, 4]),
  (-115, [[0, 1], [1, 0]], [0, 1]),
  (-112, [[0, 1], [1, 0]], [0, 1]),
  (-111, [[0, 1, 2, 3, 4, 5, 6, 7], [1, 4, 0, 6, 7, 2, 5, 3], [2, 0, 5, 7, 1, 6, 3, 4], [3, 6, 7, 0, 5, 4, 1, 2], [4, 7, 1, 5, 3, 0, 2, 6], [5, 2, 6, 4, 0, 3, 7, 1], [6, 5, 3, 1, 2, 7, 4, 0], [7, 3, 4, 2, 6, 1, 0, 5]], [0, 2, 1, 3, 5, 4, 7, 6]),
  (-108, [[0, 1, 2], [1, 2, 0], [2, 0, 1]], [0, 2, 1]),
  (-107, [[0, 1, 2], [1, 2, 0], [2, 0, 1]], [0, 2, 1]),
  (-104, [[0, 1, 2, 3, 4, 5], [1, 0, 4, 5, 2, 3], [2, 4, 3, 0, 5, 1], [3, 5, 0, 2, 1, 4], [4, 2, 5, 1, 3, 0], [5, 3, 1, 4, 0, 2]], [0, 1, 3, 2, 5, 4]),
  (-103, [[0, 1, 2, 3, 4], [1, 4, 0, 2, 3], [2, 0, 3, 4, 1], [3, 2, 4, 1, 0], [4, 3, 1, 0, 2]], [0, 2, 1, 4, 3]),
  (-100, [[0, 1], [1, 0]], [0, 1]),
  (-99, [[0, 1], [1, 0]], [0, 1]),
  (-96, [[0, 1, 2, 3], [1, 0, 3, 2], [2, 3, 0, 1], [3, 2, 1, 0]], [0, 1, 2, 3]),
  (-95, [[0, 1, 2, 3, 4, 5, 6, 7], [1, 5, 0, 6, 7, 4, 2, 3], [2, 0, 6, 7, 5, 1, 3, 4], [3, 6, 7, 5, 0, 2, 4, 1], [4, 7, 5, 0, 6, 3, 1, 2], [5, 4, 1, 2, 3, 7, 0, 6], [6, 2, 3, 4, 1, 0, 7, 5], [7, 3, 4, 1, 2, 6, 5, 0]], [0, 2, 1, 4, 3, 6, 5, 7]),
  (-92, [[0, 1, 2], [1, 2, 0], [2, 0, 1]], [0, 2, 1]),
  (-91, [[0, 1], [1, 0]], [0, 1]),
  (-88, [[0, 1], [1, 0]], [0, 1]),
  (-87, [[0, 1, 2, 3, 4, 5], [1, 5, 0, 4, 2, 3], [2, 0, 4, 5, 3, 1], [3, 4, 5, 0, 1, 2], [4, 2, 3, 1, 5, 0], [5, 3, 1, 2, 0, 4]], [0, 2, 1, 3, 5, 4]),
  (-84, [[0, 1, 2, 3], [1, 0, 3, 2], [2, 3, 0, 1], [3, 2, 1, 0]], [0, 1, 2, 3]),
  (-83, [[0, 1, 2], [1, 2, 0], [2, 0, 1]], [0, 2, 1]),
  (-80, [[0, 1, 2, 3], [1, 3, 0, 2], [2, 0, 3, 1], [3, 2, 1, 0]], [0, 2, 1, 3]),
  (-79, [[0, 1, 2, 3, 4], [1, 3, 0, 4, 2], [2, 0, 4, 1, 3], [3, 4, 1, 2, 0], [4, 2, 3, 0, 1]], [0, 2, 1, 4, 3]),
  (-76, [[0, 1, 2], [1, 2, 0], [2, 0, 1]], [0, 2, 1]),
  (-75, [[0, 1], [1, 0]], [0, 1]),
  (-72, [[0, 1], [1, 0]], [0, 1]),
  (-71, [[0, 1, 2, 3, 4, 5, 6], [1, 6, 0, 4, 5, 2, 3], [2, 0, 5, 6, 3, 4, 1], [3, 4, 6, 2, 0, 1, 5], [4, 5, 3, 0, 1, 6, 2], [5, 2, 4, 1, 6, 3, 0], [6, 3, 1, 5, 2, 0, 4]], [0, 2, 1, 4, 3, 6, 5]),
  (-68, [[0, 1, 2, 3], [1, 0, 3, 2], [2, 3, 1, 0], [3, 2, 0, 1]], [0, 1, 3, 2]),
  (-67, [[0]], [0]),
  (-64, [[0, 1], [1, 0]], [0, 1]),
  (-63, [[0, 1, 2, 3], [1, 3, 0, 2], [2, 0, 3, 1], [3, 2, 1, 0]], [0, 2, 1, 3]),
  (-60, [[0, 1], [1, 0]], [0, 1]),
  (-59, [[0, 1, 2], [1, 2, 0], [2, 0, 1]], [0, 2, 1]),
  (-56, [[0, 1, 2, 3], [1, 0, 3, 2], [2, 3, 1, 0], [3, 2, 0, 1]], [0, 1, 3, 2]),
  (-55, [[0, 1, 2, 3], [1, 3, 0, 2], [2, 0, 3, 1], [3, 2, 1, 0]], [0, 2, 1, 3]),
  (-52, [[0, 1], [1, 0]], [0, 1]),
  (-51, [[0, 1], [1, 0]], [0, 1]),
  (-48, [[0, 1], [1, 0]], [0, 1]),
  (-47, [[0, 1, 2, 3, 4], [1, 4, 0, 2, 3], [2, 0, 3, 4, 1], [3, 2, 4, 1, 0], [4, 3, 1, 0, 2]], [0, 2, 1, 4, 3]),
  (-44, [[0, 1, 2], [1, 2, 0], [2, 0, 1]], [0, 2, 1]),
  (-43, [[0]], [0]),
  (-40, [[0, 1], [1, 0]], [0, 1]),
  (-39, [[0, 1, 2, 3], [1, 3, 0, 2], [2, 0, 3, 1], [3, 2, 1, 0]], [0, 2, 1, 3]),
  (-36, [[0, 1], [1, 0]], [0, 1]),
  (-35, [[0, 1], [1, 0]], [0, 1]),
  (-32, [[0, 1], [1, 0]], [0, 1]),
  (-31, [[0, 1, 2], [1, 2, 0], [2, 0, 1]], [0, 2, 1]),
  (-28, [[0]], [0]),
  (-27, [[0]], [0]),
  (-24, [[0, 1], [1, 0]], [0, 1]),
  (-23, [[0, 1, 2], [1, 2, 0], [2, 0, 1]], [0, 2, 1]),
  (-20, [[0, 1], [1, 0]], [0, 1]),
  (-19, [[0]], [0]),
  (-16, [[0]], [0]),
  (-15, [[0, 1], [1, 0]], [0, 1]),
  (-12, [[0]], [0]),
  (-11, [[0]], [0]),
  (-8, [[0]], [0]),
  (-7, [[0]], [0]),
  (-4, [[0]], [0]),
  (-3, [[0]], [0])]

def tri (x : D) : Tri := match x with
  | .tup [.int a, .int b, .int c] => (a, b, c)
  | _ => (0, 0, 0)
def L (n : Int) : List Tri := (cls n).map tri
def eqT (r s : Tri) : Bool := decide (r.1 = s.1) && (decide (r.2.1 = s.2.1) && decide (r.2.2 = s.2.2))
theorem eqT_eq {r s : Tri} (h : eqT r s = true) : r = s := by
  unfold eqT at h
  simp only [Bool.and_eq_true, decide_eq_true_eq] at h
  obtain ⟨h1, h2, h3⟩ := h
  exact Prod.ext h1 (Prod.ext h2 h3)
def gdB (n : Int) (t : Tri) : Bool := decide (isF t.1 t.2.1 t.2.2) && (decide (t.2.1 * t.2.1 - 4 * t.1 * t.2.2 = n) && (decide (t.1.natAbs < 1152921504606846976) && (decide (t.2.1.natAbs < 1152921504606846976) && decide (t.2.2.natAbs < 1152921504606846976))))
theorem gdB_gd {n : Int} {t : Tri} (h : gdB n t = true) : Gd n t.1 t.2.1 t.2.2 := by
  unfold gdB at h
  simp only [Bool.and_eq_true, decide_eq_true_eq] at h
  obtain ⟨h1, h2, h3, h4, h5⟩ := h
  have B : ∀ {x : Int}, x.natAbs < 1152921504606846976 → Bd 800 x := fun h => Nat.lt_of_lt_of_le (show _ < 2 ^ 60 from h) (Nat.pow_le_pow_right (by decide) (by decide))
  exact ⟨h1, h2, B h3, B h4, B h5⟩
def pairC (n : Int) (r th t : Tri) : Bool := gdB n th && (gdB n t && (eqT (RD th.1 th.2.1 th.2.2) r && eqT (RD t.1 t.2.1 t.2.2) r))
def pairB (n : Int) (r1 r2 r : Tri) : Bool := match un r1 r2 with
  | some v => (match lpU n r1 r2 with
    | some t => pairC n r (third r1 v) t && (decide (v.mid + 2 * v.lead * v.u = r1.2.1 + 2 * r1.1 * v.k) && decide (v.x * v.s + v.y * v.t = 1))
    | none => false)
  | none => false
theorem pairB_ok {n : Int} {r1 r2 r : Tri} (h : pairB n r1 r2 r = true) : Cmp n r1 r2 r ∧ Lpr n r1 r2 r := by
  unfold pairB at h
  split at h
  · rename_i v ev
    split at h
    · rename_i t et
      unfold pairC at h
      simp only [Bool.and_eq_true, decide_eq_true_eq] at h
      obtain ⟨⟨h1, h2, h3, h4⟩, h5, h6⟩ := h
      exact ⟨⟨v, ev, ⟨h5, h6⟩, gdB_gd h1, eqT_eq h3⟩, ⟨t, et, gdB_gd h2, eqT_eq h4⟩⟩
    · cases h
  · cases h
def nth : List Nat → Nat → Nat
  | [], _ => 0
  | x :: _, 0 => x
  | _ :: l, k + 1 => nth l k
def nthR : List (List Nat) → Nat → List Nat
  | [], _ => []
  | x :: _, 0 => x
  | _ :: l, k + 1 => nthR l k
def nthT : List Tri → Nat → Tri
  | [], _ => (0, 0, 0)
  | x :: _, 0 => x
  | _ :: l, k + 1 => nthT l k
def rowB (n : Int) (l : List Tri) (r1 : Tri) : List Tri → List Nat → Bool
  | [], [] => true
  | r2 :: rs, k :: ks => pairB n r1 r2 (nthT l k) && rowB n l r1 rs ks
  | _, _ => false
def matB (n : Int) (l : List Tri) : List Tri → List (List Nat) → Bool
  | [], [] => true
  | r1 :: rs, k :: ks => rowB n l r1 l k && matB n l rs ks
  | _, _ => false
def invB (l : List Tri) : List Tri → List Nat → Bool
  | [], [] => true
  | r :: rs, k :: ks => eqT (RD r.1 (-r.2.1) r.2.2) (nthT l k) && invB l rs ks
  | _, _ => false
abbrev Tb := Int × List (List Nat) × List Nat
def prodB (x : Tb) : Bool := matB x.1 (L x.1) (L x.1) x.2.1
def otherB (x : Tb) : Bool := invB (L x.1) (L x.1) x.2.2 && ((L x.1).all (fun r => gdB x.1 r && eqT (RD r.1 r.2.1 r.2.2) r) && (eqT (nthT (L x.1) 0) (fi x.1) && ((L x.1).drop 1).all (fun r => !eqT r (nthT (L x.1) 0))))
/-! the tables alone -/
def op (T : List (List Nat)) (i j : Nat) : Nat := nth (nthR T i) j
def beqN : List Nat → List Nat → Bool
  | [], [] => true
  | x :: a, y :: b => Nat.beq x y && beqN a b
  | _, _ => false
def asR (T : List (List Nat)) (ri : List Nat) : List (List Nat) → List Nat → Bool
  | rj :: T', k :: r' => beqN (nthR T k) (rj.map (nth ri)) && asR T ri T' r'
  | [], [] => true
  | _, _ => false
def asBT (T : List (List Nat)) : Bool := T.all fun ri => asR T ri T ri
def szB (h : Nat) (T : List (List Nat)) : Bool := Nat.beq T.length h && T.all fun r => Nat.beq r.length h && r.all fun k => Nat.blt k h
def cmB (h : Nat) (T : List (List Nat)) : Bool := (List.range h).all fun i => (List.range h).all fun j => Nat.beq (op T i j) (op T j i)
def idB (h : Nat) (T : List (List Nat)) : Bool := beqN (nthR T 0) (List.range h)
def pwz (T : List (List Nat)) (i : Nat) : Nat → Nat
  | 0 => 0
  | k + 1 => op T (pwz T i k) i
/-- the order: the least number from 1 on -/
def ordF (T : List (List Nat)) (i : Nat) : Nat → Nat → Nat → Nat
  | 0, _, d => d
  | f + 1, x, d => if x = 0 then d else ordF T i f (op T x i) (d + 1)
def ord (T : List (List Nat)) (i : Nat) : Nat := ordF T i 45 i 1
def odB (h : Nat) (T : List (List Nat)) (V : List Nat) : Bool := (List.range h).all fun i => Nat.beq (op T i (nth V i)) 0 && (Nat.blt (nth V i) h && (Nat.beq (pwz T i (ord T i)) 0 && (Nat.beq (pwz T (nth V i) (ord T i)) 0 && (Nat.beq (h % ord T i) 0 && Nat.ble (ord T i) 40))))
def grpB (x : Tb) : Bool := szB (L x.1).length x.2.1 && (Nat.beq x.2.2.length (L x.1).length && (asBT x.2.1 && (cmB (L x.1).length x.2.1 && (idB (L x.1).length x.2.1 && odB (L x.1).length x.2.1 x.2.2))))
def tabs (i k : Nat) : List Tb := (TBL.drop i).take k
end Law

set_option Elab.async false
set_option linter.all false
set_option maxRecDepth 100000
set_option maxHeartbeats 4000000
namespace Law
open PySem L2 Zm
/-! the tables, held by the kernel -/
theorem tbl_other : TBL.all otherB = true := by decide +kernel
theorem tbl_grp : TBL.all grpB = true := by decide +kernel
theorem tbl_fst : TBL.map (fun x => x.1) = allD := by decide +kernel
theorem tbl0 : (tabs 0 20).all prodB = true := by decide +kernel
theorem tbl1 : (tabs 20 20).all prodB = true := by decide +kernel
theorem tbl2 : (tabs 40 20).all prodB = true := by decide +kernel
theorem tbl3 : (tabs 60 20).all prodB = true := by decide +kernel
theorem tbl4 : (tabs 80 20).all prodB = true := by decide +kernel
theorem tbl5 : (tabs 100 20).all prodB = true := by decide +kernel
theorem tbl6 : (tabs 120 20).all prodB = true := by decide +kernel
theorem tbl7 : (tabs 140 20).all prodB = true := by decide +kernel
theorem tbl8 : (tabs 160 20).all prodB = true := by decide +kernel
theorem tbl9 : (tabs 180 20).all prodB = true := by decide +kernel
end Law

set_option Elab.async false
set_option linter.all false
set_option maxRecDepth 100000
set_option maxHeartbeats 4000000
namespace Law
open PySem L2 Zm
/-! what the tables tell -/
theorem nthT_mem : ∀ {l : List Tri} {i : Nat}, i < l.length → nthT l i ∈ l
  | x :: l, 0, _ => List.mem_cons_self
  | x :: l, i + 1, h => List.mem_cons_of_mem _ (nthT_mem (by simpa using h))
theorem mem_nthT : ∀ {l : List Tri} {r : Tri}, r ∈ l → ∃ i, i < l.length ∧ nthT l i = r
  | x :: l, r, h => by
    rcases List.mem_cons.mp h with rfl | h
    · exact ⟨0, by simp, rfl⟩
    · obtain ⟨i, h1, h2⟩ := mem_nthT h
      exact ⟨i + 1, by simpa using h1, h2⟩
theorem nthR_mem : ∀ {l : List (List Nat)} {i : Nat}, i < l.length → nthR l i ∈ l
  | x :: l, 0, _ => List.mem_cons_self
  | x :: l, i + 1, h => List.mem_cons_of_mem _ (nthR_mem (by simpa using h))
theorem nth_mem : ∀ {l : List Nat} {i : Nat}, i < l.length → nth l i ∈ l
  | x :: l, 0, _ => List.mem_cons_self
  | x :: l, i + 1, h => List.mem_cons_of_mem _ (nth_mem (by simpa using h))
theorem nth_map (f : Nat → Nat) : ∀ {l : List Nat} {i : Nat}, i < l.length → nth (l.map f) i = f (nth l i)
  | x :: l, 0, _ => rfl
  | x :: l, i + 1, h => nth_map f (l := l) (by simpa using h)
theorem beqN_eq : ∀ {a b : List Nat}, beqN a b = true → a = b
  | [], [], _ => rfl
  | [], _ :: _, h => by cases h
  | _ :: _, [], h => by cases h
  | x :: a, y :: b, h => by
    simp only [beqN, Bool.and_eq_true] at h
    rw [Nat.eq_of_beq_eq_true h.1, beqN_eq h.2]
theorem row_ok {n : Int} {l : List Tri} {r1 : Tri} : ∀ {rs : List Tri} {ks : List Nat}, rowB n l r1 rs ks = true → ∀ j, j < rs.length → pairB n r1 (nthT rs j) (nthT l (nth ks j)) = true
  | [], [], _, j, hj => by simp at hj
  | [], _ :: _, h, _, _ => by cases h
  | _ :: _, [], h, _, _ => by cases h
  | r2 :: rs, k :: ks, h, j, hj => by
    simp only [rowB, Bool.and_eq_true] at h
    cases j with
    | zero => exact h.1
    | succ j => exact row_ok h.2 j (by simpa using hj)
theorem mat_ok {n : Int} {l : List Tri} : ∀ {rs : List Tri} {ks : List (List Nat)}, matB n l rs ks = true → ∀ i, i < rs.length → rowB n l (nthT rs i) l (nthR ks i) = true
  | [], [], _, j, hj => by simp at hj
  | [], _ :: _, h, _, _ => by cases h
  | _ :: _, [], h, _, _ => by cases h
  | r2 :: rs, k :: ks, h, j, hj => by
    simp only [matB, Bool.and_eq_true] at h
    cases j with
    | zero => exact h.1
    | succ j => exact mat_ok h.2 j (by simpa using hj)
theorem inv_ok' {l : List Tri} : ∀ {rs : List Tri} {ks : List Nat}, invB l rs ks = true → ∀ i, i < rs.length → RD (nthT rs i).1 (-(nthT rs i).2.1) (nthT rs i).2.2 = nthT l (nth ks i)
  | [], [], _, j, hj => by simp at hj
  | [], _ :: _, h, _, _ => by cases h
  | _ :: _, [], h, _, _ => by cases h
  | r2 :: rs, k :: ks, h, j, hj => by
    simp only [invB, Bool.and_eq_true] at h
    cases j with
    | zero => exact eqT_eq h.1
    | succ j => exact inv_ok' h.2 j (by simpa using hj)
theorem asR_ok {T : List (List Nat)} {ri : List Nat} : ∀ {T' : List (List Nat)} {r' : List Nat}, asR T ri T' r' = true → ∀ j, j < T'.length → nthR T (nth r' j) = (nthR T' j).map (nth ri)
  | [], [], _, j, hj => by simp at hj
  | [], _ :: _, h, _, _ => by cases h
  | _ :: _, [], h, _, _ => by cases h
  | rj :: T', k :: r', h, j, hj => by
    simp only [asR, Bool.and_eq_true] at h
    cases j with
    | zero => exact beqN_eq h.1
    | succ j => exact asR_ok h.2 j (by simpa using hj)
theorem nth_range {h k : Nat} (hk : k < h) : nth (List.range h) k = k := by
  have g : ∀ (l : List Nat) (i : Nat) (x : Nat), l[i]? = some x → nth l i = x := fun l => by
    induction l with
    | nil => intro i x e; simp at e
    | cons y l ih =>
      intro i x e
      cases i with
      | zero => simpa [nth] using e
      | succ i => exact ih i x (by simpa using e)
  exact g _ _ _ (by simp [hk])
structure Grp (T : List (List Nat)) (V : List Nat) (h : Nat) : Prop where
  sz : ∀ i j, i < h → j < h → op T i j < h
  as : ∀ i j k, i < h → j < h → k < h → op T (op T i j) k = op T i (op T j k)
  cm : ∀ i j, i < h → j < h → op T i j = op T j i
  id : ∀ j, j < h → op T 0 j = j
  iv : ∀ i, i < h → nth V i < h ∧ op T i (nth V i) = 0
  od : ∀ i, i < h → pwz T i (ord T i) = 0 ∧ pwz T (nth V i) (ord T i) = 0 ∧ h % ord T i = 0 ∧ ord T i ≤ 40
theorem grp_of {T : List (List Nat)} {V : List Nat} {h : Nat} (h1 : szB h T = true) (h3 : asBT T = true) (h4 : cmB h T = true) (h5 : idB h T = true) (h6 : odB h T V = true) : Grp T V h := by
  simp only [szB, Bool.and_eq_true, List.all_eq_true] at h1
  obtain ⟨s1, s2⟩ := h1
  have tl : T.length = h := Nat.eq_of_beq_eq_true s1
  have rl : ∀ i, i < h → (nthR T i).length = h := fun i hi => Nat.eq_of_beq_eq_true (s2 _ (nthR_mem (by rw [tl]; exact hi))).1
  have sz : ∀ i j, i < h → j < h → op T i j < h := fun i j hi hj => by
    have := (s2 _ (nthR_mem (l := T) (i := i) (by rw [tl]; exact hi))).2 _ (nth_mem (by rw [rl i hi]; exact hj))
    exact Nat.ble_eq.mp this
  refine ⟨sz, fun i j k hi hj hk => ?_, fun i j hi hj => ?_, fun j hj => ?_, fun i hi => ?_, fun i hi => ?_⟩
  · simp only [asBT, List.all_eq_true] at h3
    have e := asR_ok (h3 _ (nthR_mem (l := T) (i := i) (by rw [tl]; exact hi))) j (by rw [tl]; exact hj)
    show nth (nthR T (nth (nthR T i) j)) k = nth (nthR T i) (nth (nthR T j) k)
    rw [e, nth_map _ (by rw [rl j hj]; exact hk)]
  · simp only [cmB, List.all_eq_true, List.mem_range] at h4
    exact Nat.eq_of_beq_eq_true (h4 i hi j hj)
  · show nth (nthR T 0) j = j
    rw [beqN_eq h5]
    exact nth_range hj
  · simp only [odB, List.all_eq_true, List.mem_range, Bool.and_eq_true] at h6
    obtain ⟨a1, a2, _⟩ := h6 i hi
    exact ⟨Nat.ble_eq.mp a2, Nat.eq_of_beq_eq_true a1⟩
  · simp only [odB, List.all_eq_true, List.mem_range, Bool.and_eq_true] at h6
    obtain ⟨_, _, a3, a4, a5, a6⟩ := h6 i hi
    exact ⟨Nat.eq_of_beq_eq_true a3, Nat.eq_of_beq_eq_true a4, Nat.eq_of_beq_eq_true a5, Nat.ble_eq.mp a6⟩
/-- all that is known of a discriminant's classes -/
structure Cl (n : Int) (T : List (List Nat)) (V : List Nat) : Prop where
  o : okD n
  g : Grp T V (L n).length
  pr : ∀ i j, i < (L n).length → j < (L n).length → Cmp n (nthT (L n) i) (nthT (L n) j) (nthT (L n) (op T i j)) ∧ Lpr n (nthT (L n) i) (nthT (L n) j) (nthT (L n) (op T i j))
  iv : ∀ i, i < (L n).length → RD (nthT (L n) i).1 (-(nthT (L n) i).2.1) (nthT (L n) i).2.2 = nthT (L n) (nth V i)
  gd : ∀ i, i < (L n).length → Gd n (nthT (L n) i).1 (nthT (L n) i).2.1 (nthT (L n) i).2.2 ∧ RD (nthT (L n) i).1 (nthT (L n) i).2.1 (nthT (L n) i).2.2 = nthT (L n) i
  f0 : nthT (L n) 0 = fi n
  fx : ∀ i, 0 < i → i < (L n).length → nthT (L n) i ≠ fi n
theorem tabs_mem {x : Tb} (hx : x ∈ TBL) : ∃ k, k < 10 ∧ x ∈ tabs (20 * k) 20 := by
  obtain ⟨i, hi, e⟩ := List.mem_iff_getElem.mp hx
  have ln : TBL.length = 200 := by
    have := congrArg List.length tbl_fst
    rw [List.length_map] at this
    rw [this]; decide +kernel
  refine ⟨i / 20, by omega, ?_⟩
  have : (tabs (20 * (i / 20)) 20)[i - 20 * (i / 20)]? = some x := by
    unfold tabs
    rw [List.getElem?_take, if_pos (by omega), List.getElem?_drop, show 20 * (i / 20) + (i - 20 * (i / 20)) = i by omega, List.getElem?_eq_getElem hi, e]
  exact List.mem_of_getElem? this
theorem prod_all {x : Tb} (hx : x ∈ TBL) : prodB x = true := by
  obtain ⟨k, hk, m⟩ := tabs_mem hx
  have g : ∀ k, k < 10 → (tabs (20 * k) 20).all prodB = true := by
    intro k hk
    match k, hk with
    | 0, _ => exact tbl0
    | 1, _ => exact tbl1
    | 2, _ => exact tbl2
    | 3, _ => exact tbl3
    | 4, _ => exact tbl4
    | 5, _ => exact tbl5
    | 6, _ => exact tbl6
    | 7, _ => exact tbl7
    | 8, _ => exact tbl8
    | 9, _ => exact tbl9
  exact List.all_eq_true.mp (g k hk) x m
theorem drop1_mem : ∀ {l : List Tri} {i : Nat}, 0 < i → i < l.length → nthT l i ∈ l.drop 1
  | x :: l, i + 1, _, h => nthT_mem (by simpa using h)
theorem cl_of {n : Int} (o : okD n) : ∃ T V, Cl n T V := by
  have m : n ∈ TBL.map (fun x => x.1) := by rw [tbl_fst]; exact mem_allD o
  obtain ⟨⟨n', T, V⟩, hx, e⟩ := List.mem_map.mp m
  dsimp only at e
  subst e
  have p := prod_all hx
  have q := List.all_eq_true.mp tbl_other _ hx
  have r := List.all_eq_true.mp tbl_grp _ hx
  simp only [prodB] at p
  simp only [otherB, Bool.and_eq_true, List.all_eq_true] at q
  simp only [grpB, Bool.and_eq_true] at r
  obtain ⟨q1, q2, q3, q4⟩ := q
  obtain ⟨r1, _, r3, r4, r5, r6⟩ := r
  refine ⟨T, V, o, grp_of r1 r3 r4 r5 r6, fun i j hi hj => pairB_ok (row_ok (mat_ok p i hi) j hj), fun i hi => inv_ok' q1 i hi, fun i hi => ?_, eqT_eq q3, fun i h0 hi e => ?_⟩
  · obtain ⟨a1, a2⟩ := q2 _ (nthT_mem hi)
    exact ⟨gdB_gd a1, eqT_eq a2⟩
  · have := q4 _ (drop1_mem h0 hi)
    rw [e, ← eqT_eq q3] at this
    unfold eqT at this
    simp at this
/-! powers -/
section
variable {T : List (List Nat)} {V : List Nat} {h : Nat} (G : Grp T V h)
include G
theorem pw_lt {i : Nat} (hi : i < h) : ∀ k, pwz T i k < h
  | 0 => by have := hi; show 0 < h; omega
  | k + 1 => G.sz _ _ (pw_lt hi k) hi
theorem pw_one {i : Nat} (hi : i < h) : pwz T i 1 = i := G.id i hi
theorem pw_add {i : Nat} (hi : i < h) (a : Nat) : ∀ b, pwz T i (a + b) = op T (pwz T i a) (pwz T i b)
  | 0 => by
    show pwz T i a = op T (pwz T i a) 0
    rw [G.cm _ _ (pw_lt G hi a) (by omega), G.id _ (pw_lt G hi a)]
  | b + 1 => by
    show op T (pwz T i (a + b)) i = op T (pwz T i a) (op T (pwz T i b) i)
    rw [pw_add hi a b, G.as _ _ _ (pw_lt G hi a) (pw_lt G hi b) hi]
theorem pw_sq {i : Nat} (hi : i < h) : ∀ k, pwz T (op T i i) k = pwz T i (2 * k)
  | 0 => rfl
  | k + 1 => by
    show op T (pwz T (op T i i) k) (op T i i) = pwz T i (2 * k + 1 + 1)
    rw [pw_sq hi k]
    show _ = op T (op T (pwz T i (2 * k)) i) i
    rw [G.as _ _ _ (pw_lt G hi _) hi hi]
theorem pw_mul {i d : Nat} (hi : i < h) (hd : pwz T i d = 0) : ∀ q, pwz T i (d * q) = 0
  | 0 => rfl
  | q + 1 => by
    rw [Nat.mul_succ, pw_add G hi, pw_mul hi hd q, hd, G.id 0 (by omega)]
theorem pw_mod {i d : Nat} (hi : i < h) (hd : pwz T i d = 0) (k : Nat) : pwz T i (k % d) = pwz T i k := by
  have e : pwz T i k = pwz T i (d * (k / d) + k % d) := by rw [Nat.div_add_mod]
  rw [e, pw_add G hi, pw_mul G hi hd, G.id _ (pw_lt G hi _)]
end
end Law

set_option Elab.async false
set_option linter.all false
set_option maxRecDepth 100000
set_option maxHeartbeats 4000000
namespace Law
open PySem L2 Zm
/-! forms with a class's place -/
abbrev Rn (n : Int) (i : Nat) : Tri := nthT (L n) i
structure El (n : Int) (i : Nat) (A B C : Int) : Prop where
  g : Gd n A B C
  lt : i < (L n).length
  e : RD A B C = Rn n i
theorem L_mem {n : Int} (o : okD n) {r : Tri} (h : r ∈ L n) : TT r ∈ cls n := by
  obtain ⟨x, hx, rfl⟩ := List.mem_map.mp h
  obtain ⟨a, b, c, rfl, _⟩ := cls_mem o hx
  exact hx
theorem mem_L {n a b c : Int} (h : T3 a b c ∈ cls n) : (a, b, c) ∈ L n := List.mem_map.mpr ⟨_, h, rfl⟩
theorem el_of {n A B C : Int} (o : okD n) (g : Gd n A B C) : ∃ i, El n i A B C := by
  obtain ⟨i, h1, h2⟩ := mem_nthT (mem_L (RD_red o g).1)
  exact ⟨i, g, h1, h2.symm⟩
section
variable {n : Int} {T : List (List Nat)} {V : List Nat} (K : Cl n T V)
include K
theorem el_R {i : Nat} (hi : i < (L n).length) : El n i (Rn n i).1 (Rn n i).2.1 (Rn n i).2.2 := ⟨(K.gd i hi).1, hi, (K.gd i hi).2⟩
theorem comp_ok {i j : Nat} {A B C A' B' C' : Int} {h : Cells} (hc : ∀ x ∈ h, cleans x = true) (E : El n i A B C) (E' : El n j A' B' C') : F_composed [T3 A B C, T3 A' B' C'] h = some (TT (Rn n (op T i j)), h) :=
  composed_ok hc K.o E.g E'.g E.e E'.e (K.pr i j E.lt E'.lt).1
theorem lprod_ok {i j : Nat} {h : Cells} (hi : i < (L n).length) (hj : j < (L n).length) : F__law_product [TT (Rn n i), TT (Rn n j)] h = some (TT (Rn n (op T i j)), h) :=
  lproduct_ok K.o (L_mem K.o (nthT_mem hi)) (L_mem K.o (nthT_mem hj)) (K.pr i j hi hj).2
theorem lred_ok {i : Nat} {A B C : Int} {h : Cells} (E : El n i A B C) : F__law_reduced [T3 A B C] h = some (TT (Rn n i), h) := by
  have e := lreduced_ok (E.g.base K.o) (h := h)
  rw [E.e] at e
  exact e
theorem red_ok {i : Nat} {A B C : Int} {h : Cells} (E : El n i A B C) : F_reduced [T3 A B C] h = some (TT (Rn n i), h) := by
  have e := reduced_ok (E.g.base K.o) E.g.f (h := h)
  rw [E.e] at e
  exact e
theorem el_opp {i : Nat} {A B C : Int} (E : El n i A B C) : El n (nth V i) A (-B) C := by
  refine ⟨opp_gd E.g, (K.g.iv i E.lt).1, ?_⟩
  have e : RD A B C = ((Rn n i).1, (Rn n i).2.1, (Rn n i).2.2) := E.e
  rw [RD_opp K.o E.g e (K.gd i E.lt).1]
  exact K.iv i E.lt
end
/-! orders -/
end Law

set_option Elab.async false
set_option linter.all false
set_option maxRecDepth 100000
set_option maxHeartbeats 4000000
namespace Law
open PySem L2 Zm
abbrev chB : MB := (mSeq (mAsg (mBin oSub (mCall 2 F__law_draw (mCons (mVar 0) (mCons (mC (.int 7)) mNil))) (mC (.int 3))) (gN 6))
    (mSeq (mIfS (mTBin oEq (mVar 5) (mVar 4)) (mAsg (mCall 2 F__law_one (mCons (mVar 0) (mCons (mTup (mCons (mBin oPow (mC (.int 10)) (mC (.int 6))) (mCons (mUn oNeg (mBin oPow (mC (.int 10)) (mC (.int 9)))) (mCons (mBin oAdd (mBin oPow (mC (.int 10)) (mC (.int 10))) (mC (.int 7))) mNil)))) mNil))) (gN 6)) mNx)
    (mAsg (mCall 2 F__law_both (mCons (mVar 3) (mCons (mCall 2 F__law_one (mCons (mVar 0) (mCons (mTup (mCons (mTup (mCons (mC (.int 0)) (mCons (mUn oNeg (mC (.int 1))) (mCons (mC (.int 1)) (mCons (mC (.int 0)) mNil))))) (mCons (mTup (mCons (mC (.int 1)) (mCons (mVar 6) (mCons (mC (.int 0)) (mCons (mC (.int 1)) mNil))))) (mCons (mTup (mCons (mC (.int 1)) (mCons (mC (.int 0)) (mCons (mVar 6) (mCons (mC (.int 1)) mNil))))) mNil)))) mNil))) mNil))) (gN 3))))
theorem b_ch_eq : b__law_change = (mSeq (mPar 3 4 (mCons (mTup (mCons (mC (.int 1)) (mCons (mC (.int 0)) (mCons (mC (.int 0)) (mCons (mC (.int 1)) mNil))))) (mCons (mIf (mTru (mVar 2)) (mCall 2 F__law_draw (mCons (mVar 0) (mCons (mC (.int 12)) mNil))) (mC (.int 12))) mNil)))
    (mSeq (mFor (iR1 (mCons (mCall 2 F__law_draw (mCons (mVar 0) (mCons (mBin oAdd (mVar 1) (mC (.int 1))) mNil))) mNil)) (gN 5) chB)
    (mRet (mVar 3)))) := rfl
theorem ch_step {a1 a2 a4 a6 : Option D} {h : Cells} {i n m : Nat} {k S : Int} {p q r s : Int} (w : W h i n) (hn : n ≤ 900000) (hp : Bd (36 * m + 1) p) (hq : Bd (36 * m + 1) q) (hr : Bd (36 * m + 1) r) (hs : Bd (36 * m + 1) s) (hm : m ≤ 20) (d : p * s - q * r = 1) :
    ∃ p' q' r' s' a6' h', chB ⟨[some (.cell i), a1, a2, some (T4 p q r s), some (.int S), some (.int k), a6], h⟩ = some (.nx, ⟨[some (.cell i), a1, a2, some (T4 p' q' r' s'), some (.int S), some (.int k), a6'], h'⟩) ∧ W h' i (n + 3) ∧ h'.length = h.length ∧
      Bd (36 * (m + 1) + 1) p' ∧ Bd (36 * (m + 1) + 1) q' ∧ Bd (36 * (m + 1) + 1) r' ∧ Bd (36 * (m + 1) + 1) s' ∧ p' * s' - q' * r' = 1 := by
  obtain ⟨x, h1, e1, x0, x1, w1, l1⟩ := draw_ok w 7 (by omega) (by decide) (by decide)
  obtain ⟨y, h2, e2, hy, w2, l2⟩ := one_ok w1 (d := .tup [.int 1000000, .int (-1000000000), .int 10000000007]) (ds := [.int 1000000, .int (-1000000000), .int 10000000007]) rfl (fun _ z => by cases z) (by omega) (by decide) (by decide)
  have z : ∀ n, Bd n (0 : Int) := fun n => Nat.pow_pos (by decide)
  have o : Bd 34 (1 : Int) := by unfold Bd; decide
  have mo : Bd 34 (-1 : Int) := by unfold Bd; decide
  have L : ∀ {x : Int}, Bd (36 * m + 1) x → Bd 9000 x := fun h => h.mono (by omega)
  have fin : ∀ (t u v w : Int) (hh : Cells), Bd 34 t → Bd 34 u → Bd 34 v → Bd 34 w → t * w - u * v = 1 → F__law_both [T4 p q r s, T4 t u v w] hh = some (T4 (p * t + q * v) (p * u + q * w) (r * t + s * v) (r * u + s * w), hh) ∧ Bd (36 * (m + 1) + 1) (p * t + q * v) ∧ Bd (36 * (m + 1) + 1) (p * u + q * w) ∧ Bd (36 * (m + 1) + 1) (r * t + s * v) ∧ Bd (36 * (m + 1) + 1) (r * u + s * w) ∧ (p * t + q * v) * (r * u + s * w) - (p * u + q * w) * (r * t + s * v) = 1 := by
    intro t u v w hh ht hu hv hw hd
    refine ⟨both_ok (L hp) (L hq) (L hr) (L hs) (ht.mono (by decide)) (hu.mono (by decide)) (hv.mono (by decide)) (hw.mono (by decide)), ((hp.mul ht).add (hq.mul hv)).mono (by omega), ((hp.mul hu).add (hq.mul hw)).mono (by omega), ((hr.mul ht).add (hs.mul hv)).mono (by omega), ((hr.mul hu).add (hs.mul hw)).mono (by omega), det_mul _ _ _ _ _ _ _ _ d hd⟩
  have any : ∀ (g : Int) (hh : Cells) (n' : Nat), Bd 34 g → W hh i n' → n' ≤ 900005 → ∃ t u v w h3, F__law_one [.cell i, .tup [T4 0 (-1) 1 0, T4 1 g 0 1, T4 1 0 g 1]] hh = some (T4 t u v w, h3) ∧ W h3 i (n' + 1) ∧ h3.length = hh.length ∧ Bd 34 t ∧ Bd 34 u ∧ Bd 34 v ∧ Bd 34 w ∧ t * w - u * v = 1 := by
    intro g hh n' hg ww hn'
    obtain ⟨c, h3, e3, hc, w3, l3⟩ := one_ok ww (d := .tup [T4 0 (-1) 1 0, T4 1 g 0 1, T4 1 0 g 1]) (ds := [T4 0 (-1) 1 0, T4 1 g 0 1, T4 1 0 g 1]) rfl (fun _ z => by cases z) (by omega) (by simp) (by simp)
    simp only [List.mem_cons, List.not_mem_nil, or_false] at hc
    rcases hc with rfl | rfl | rfl
    · exact ⟨_, _, _, _, h3, e3, w3, l3, z _, mo, o, z _, by omega⟩
    · exact ⟨_, _, _, _, h3, e3, w3, l3, o, hg, z _, o, by omega⟩
    · exact ⟨_, _, _, _, h3, e3, w3, l3, o, z _, hg, o, by omega⟩
  by_cases sp : k = S
  · subst sp
    obtain ⟨g, rfl, hg⟩ : ∃ g : Int, y = .int g ∧ Bd 34 g := by
      simp only [List.mem_cons, List.not_mem_nil, or_false] at hy
      rcases hy with rfl | rfl | rfl <;> exact ⟨_, rfl, by unfold Bd; decide⟩
    obtain ⟨t, u, v, w', h3, e3, w3, l3, b1, b2, b3, b4, dd⟩ := any g h2 (n + 1 + 1) hg w2 (by omega)
    obtain ⟨e4, c1, c2, c3, c4, c5⟩ := fin t u v w' h3 b1 b2 b3 b4 dd
    refine ⟨_, _, _, _, some (.int g), h3, ?_, w3, by omega, c1, c2, c3, c4, c5⟩
    generalize p * t + q * v = P1 at e4 ⊢
    generalize p * u + q * w' = P2 at e4 ⊢
    generalize r * t + s * v = P3 at e4 ⊢
    generalize r * u + s * w' = P4 at e4 ⊢
    simp [chB, mFun, line, mSeq, mAsg, mRet, mRetN, mDrop, mIfS, mTBin, mBin, mVar, mC, mCons, mNil, mTup, mLst, mLstC, mCB, mCall, mCallK, mIf, mAndV, mOrV, mNotV, mAnd, mOr, mNot, mTru, mUn, mChain, tB', mNx, mNev, mFor, mForL, mWhile, mComp, mCompL, mYes, gN, gT, gsCons, gsNil, gSubD, mApp, mPar, mPar3, mAugI, mSl, mSo, mNo, iR1, iR2, iR3, iS, iEn, iL, iT, asB, asL, asT, asLT, asInt, oB, oAdd, oSub, oMulA, oMul, oDiv, oMod, oPow, oNeg, cI, oEq, oNe, oIx, asSeq, oInt, oAbs, oLen, oMax2, oMin2, oDivmod, oIsi, tyD, okCell, truthD, mFrz, Option.bind_some, Option.map_some, Option.bind_none, Option.map_none, cond_true, cond_false, List.map_cons, List.map_nil, List.cons_append, List.nil_append, List.getElem?_cons_zero, List.getElem?_cons_succ, List.set_cons_zero, List.set_cons_succ, List.length_cons, List.length_nil, List.replicate , e1, e2, e3, e4]
  · have hg : Bd 34 (x - 3) := by
      show (x - 3).natAbs < 2 ^ 34
      have : (x - 3).natAbs ≤ 10 := by omega
      exact Nat.lt_of_le_of_lt this (by decide)
    obtain ⟨t, u, v, w', h3, e3, w3, l3, b1, b2, b3, b4, dd⟩ := any (x - 3) h1 (n + 1) hg w1 (by omega)
    obtain ⟨e4, c1, c2, c3, c4, c5⟩ := fin t u v w' h3 b1 b2 b3 b4 dd
    refine ⟨_, _, _, _, some (.int (x - 3)), h3, ?_, w3.mono (by omega), by omega, c1, c2, c3, c4, c5⟩
    generalize p * t + q * v = P1 at e4 ⊢
    generalize p * u + q * w' = P2 at e4 ⊢
    generalize r * t + s * v = P3 at e4 ⊢
    generalize r * u + s * w' = P4 at e4 ⊢
    simp [chB, mFun, line, mSeq, mAsg, mRet, mRetN, mDrop, mIfS, mTBin, mBin, mVar, mC, mCons, mNil, mTup, mLst, mLstC, mCB, mCall, mCallK, mIf, mAndV, mOrV, mNotV, mAnd, mOr, mNot, mTru, mUn, mChain, tB', mNx, mNev, mFor, mForL, mWhile, mComp, mCompL, mYes, gN, gT, gsCons, gsNil, gSubD, mApp, mPar, mPar3, mAugI, mSl, mSo, mNo, iR1, iR2, iR3, iS, iEn, iL, iT, asB, asL, asT, asLT, asInt, oB, oAdd, oSub, oMulA, oMul, oDiv, oMod, oPow, oNeg, cI, oEq, oNe, oIx, asSeq, oInt, oAbs, oLen, oMax2, oMin2, oDivmod, oIsi, tyD, okCell, truthD, mFrz, Option.bind_some, Option.map_some, Option.bind_none, Option.map_none, cond_true, cond_false, List.map_cons, List.map_nil, List.cons_append, List.nil_append, List.getElem?_cons_zero, List.getElem?_cons_succ, List.set_cons_zero, List.set_cons_succ, List.length_cons, List.length_nil, List.replicate , e1, e3, e4, sp]
theorem ch_loop {a1 a2 : Option D} {i : Nat} {S : Int} : ∀ (l : List Int) (h : Cells) (n m : Nat) (p q r s : Int) (a5 a6 : Option D), W h i n → n + 3 * l.length ≤ 900000 → m + l.length ≤ 20 → Bd (36 * m + 1) p → Bd (36 * m + 1) q → Bd (36 * m + 1) r → Bd (36 * m + 1) s → p * s - q * r = 1 →
    ∃ p' q' r' s' b5 b6 h', mForL (gN 5) chB (l.map D.int) ⟨[some (.cell i), a1, a2, some (T4 p q r s), some (.int S), a5, a6], h⟩ = some (.nx, ⟨[some (.cell i), a1, a2, some (T4 p' q' r' s'), some (.int S), b5, b6], h'⟩) ∧ W h' i (n + 3 * l.length) ∧ h'.length = h.length ∧
      Bd (36 * (m + l.length) + 1) p' ∧ Bd (36 * (m + l.length) + 1) q' ∧ Bd (36 * (m + l.length) + 1) r' ∧ Bd (36 * (m + l.length) + 1) s' ∧ p' * s' - q' * r' = 1
  | [], h, n, m, p, q, r, s, a5, a6, w, hn, hm, hp, hq, hr, hs, d => ⟨p, q, r, s, a5, a6, h, rfl, w, rfl, hp, hq, hr, hs, d⟩
  | k :: l, h, n, m, p, q, r, s, a5, a6, w, hn, hm, hp, hq, hr, hs, d => by
    simp only [List.length_cons] at hn hm
    obtain ⟨p1, q1, r1, s1, b6, h1, e1, w1, l1, c1, c2, c3, c4, d1⟩ := ch_step (a1 := a1) (a2 := a2) (a4 := none) (a6 := a6) (k := k) (S := S) w (by omega) hp hq hr hs (by omega) d
    obtain ⟨p2, q2, r2, s2, f5, f6, h2, e2, w2, l2, g1, g2, g3, g4, d2⟩ := ch_loop (a1 := a1) (a2 := a2) (S := S) l h1 (n + 3) (m + 1) p1 q1 r1 s1 (some (.int k)) b6 w1 (by omega) (by omega) c1 c2 c3 c4 d1
    have ml : m + 1 + l.length = m + (l.length + 1) := by omega
    rw [ml] at g1 g2 g3 g4
    refine ⟨p2, q2, r2, s2, f5, f6, h2, ?_, w2.mono (by simp only [List.length_cons]; omega), by omega, g1, g2, g3, g4, d2⟩
    rw [← e2]
    show (chB ⟨[some (.cell i), a1, a2, some (T4 p q r s), some (.int S), some (.int k), a6], h⟩).bind _ = _
    rw [e1]; rfl
theorem change_ok {h : Cells} {i n : Nat} (w : W h i n) (hn : n ≤ 800000) {most : Int} (h1 : 1 ≤ most) (h5 : most ≤ 5) (great : Bool) :
    ∃ p q r s h', F__law_change [.cell i, .int most, .bl great] h = some (T4 p q r s, h') ∧ W h' i (n + 40) ∧ h'.length = h.length ∧ Bd 190 p ∧ Bd 190 q ∧ Bd 190 r ∧ Bd 190 s ∧ p * s - q * r = 1 := by
  have o : Bd 1 (1 : Int) := by unfold Bd; decide
  have z : Bd 1 (0 : Int) := by unfold Bd; decide
  have fin : ∀ (S : Int) (h0 : Cells) (n0 : Nat), W h0 i n0 → n0 ≤ n + 1 → h0.length = h.length → (∀ hh : Cells, hh = h → (bif great then F__law_draw [.cell i, .int 12] hh else some (.int 12, hh)) = some (.int S, h0)) →
      ∃ p q r s h', F__law_change [.cell i, .int most, .bl great] h = some (T4 p q r s, h') ∧ W h' i (n + 40) ∧ h'.length = h.length ∧ Bd 190 p ∧ Bd 190 q ∧ Bd 190 r ∧ Bd 190 s ∧ p * s - q * r = 1 := by
    intro S h0 n0 w0 hn0 hl0 eS
    have eS := eS h rfl
    obtain ⟨j, h1', e1, j0, j1, w1, l1⟩ := draw_ok w0 (most + 1) (by omega) (by omega) (by omega)
    obtain ⟨p, q, r, s, b5, b6, h2, e2, w2, l2, c1, c2, c3, c4, d⟩ := ch_loop (a1 := some (.int most)) (a2 := some (.bl great)) (i := i) (S := S) (upto j.toNat) h1' (n0 + 1) 0 1 0 0 1 none none w1 (by rw [upto_len]; omega) (by rw [upto_len]; omega) o z z o (by decide)
    rw [upto_len] at c1 c2 c3 c4 w2
    refine ⟨p, q, r, s, h2, ?_, w2.mono (by omega), by omega, c1.mono (by omega), c2.mono (by omega), c3.mono (by omega), c4.mono (by omega), d⟩
    have big : big62 j = true := decide_eq_true (by omega)
    rw [← intsD_upto] at e2
    unfold F__law_change
    rw [b_ch_eq]
    generalize chB = CB at e2 ⊢
    generalize hX : intsD 0 j.toNat = LL at e2
    cases great with
    | true =>
      simp only [cond_true] at eS
      simp [mFun, line, mSeq, mAsg, mRet, mRetN, mDrop, mIfS, mTBin, mBin, mVar, mC, mCons, mNil, mTup, mLst, mLstC, mCB, mCall, mCallK, mIf, mAndV, mOrV, mNotV, mAnd, mOr, mNot, mTru, mUn, mChain, tB', mNx, mNev, mFor, mForL, mWhile, mComp, mCompL, mYes, gN, gT, gsCons, gsNil, gSubD, mApp, mPar, mPar3, mAugI, mSl, mSo, mNo, iR1, iR2, iR3, iS, iEn, iL, iT, asB, asL, asT, asLT, asInt, oB, oAdd, oSub, oMulA, oMul, oDiv, oMod, oPow, oNeg, cI, oEq, oNe, oIx, asSeq, oInt, oAbs, oLen, oMax2, oMin2, oDivmod, oIsi, tyD, okCell, truthD, mFrz, Option.bind_some, Option.map_some, Option.bind_none, Option.map_none, cond_true, cond_false, List.map_cons, List.map_nil, List.cons_append, List.nil_append, List.getElem?_cons_zero, List.getElem?_cons_succ, List.set_cons_zero, List.set_cons_succ, List.length_cons, List.length_nil, List.replicate , eS, e1, big, e2, hX]
    | false =>
      simp only [cond_false, Option.some.injEq, Prod.mk.injEq, D.int.injEq] at eS
      obtain ⟨rfl, rfl⟩ := eS
      simp [mFun, line, mSeq, mAsg, mRet, mRetN, mDrop, mIfS, mTBin, mBin, mVar, mC, mCons, mNil, mTup, mLst, mLstC, mCB, mCall, mCallK, mIf, mAndV, mOrV, mNotV, mAnd, mOr, mNot, mTru, mUn, mChain, tB', mNx, mNev, mFor, mForL, mWhile, mComp, mCompL, mYes, gN, gT, gsCons, gsNil, gSubD, mApp, mPar, mPar3, mAugI, mSl, mSo, mNo, iR1, iR2, iR3, iS, iEn, iL, iT, asB, asL, asT, asLT, asInt, oB, oAdd, oSub, oMulA, oMul, oDiv, oMod, oPow, oNeg, cI, oEq, oNe, oIx, asSeq, oInt, oAbs, oLen, oMax2, oMin2, oDivmod, oIsi, tyD, okCell, truthD, mFrz, Option.bind_some, Option.map_some, Option.bind_none, Option.map_none, cond_true, cond_false, List.map_cons, List.map_nil, List.cons_append, List.nil_append, List.getElem?_cons_zero, List.getElem?_cons_succ, List.set_cons_zero, List.set_cons_succ, List.length_cons, List.length_nil, List.replicate , e1, big, e2, hX]
  cases great with
  | true =>
    obtain ⟨S, h0, e, s0, s1, w0, l0⟩ := draw_ok w 12 (by omega) (by decide) (by decide)
    exact fin S h0 (n + 1) w0 (by omega) l0 fun hh z => by subst z; exact e
  | false => exact fin 12 h n w (by omega) rfl fun hh z => by subst z; rfl
/-- all discriminants -/
theorem form_ok {h : Cells} {i n : Nat} {D : Int} (w : W h i n) (hn : n ≤ 700000) (hD : okD D) (great : Bool) : ∃ a b c h', F__law_form [.cell i, .int D, .bl great] h = some (T3 a b c, h') ∧ Gd D a b c ∧ Bd 400 a ∧ Bd 400 b ∧ Bd 400 c ∧ W h' i (n + 50) ∧ h'.length = h.length := by
  have cl := classes_ok w.cl hD
  have ne := cls_some D (mem_allD hD)
  have ln : 0 < (cls D).length := by
    cases z : cls D with
    | nil => rw [z] at ne; cases ne
    | cons x r => simp
  have lu : (cls D).length < 1000000 := by
    have : ∀ as : List Int, (∀ a ∈ as, 0 < a ∧ a ≤ 12) → (rows D as).length ≤ 25 * as.length := by
      intro as
      induction as with
      | nil => intro _; simp [rows]
      | cons a r ih =>
        intro ha
        obtain ⟨a0, a1⟩ := ha a List.mem_cons_self
        have e : rows D (a :: r) = row D a (bsOf a) ++ rows D r := by simp [rows]
        have l1 := row_len D a (bsOf a)
        have l2 : (bsOf a).length = 2 * a.toNat + 1 := by simp [bsOf]
        have := ih fun x hx => ha x (List.mem_cons_of_mem _ hx)
        rw [e, List.length_append, List.length_cons]
        omega
    obtain ⟨r0, r1, _⟩ := rt_at hD
    have l := this (asOf D) fun a ha => by have := (mem_asOf hD).mp ha; omega
    have : (asOf D).length ≤ 12 := by simp [asOf]; omega
    show (rows D (asOf D)).length < 1000000
    omega
  obtain ⟨x, h1, e1, hx, w1, l1⟩ := one_ok w (d := .lst (cls D)) (ds := cls D) rfl (fun _ z => by cases z) (by omega) ln lu
  obtain ⟨a, b, c, rfl, f, d, bs, ka, kb, kc⟩ := cls_mem hD hx
  obtain ⟨p, q, r, s, h2, e2, w2, l2, c1, c2, c3, c4, dt⟩ := change_ok w1 (by omega) (most := 4) (by decide) (by decide) great
  obtain ⟨g, v1, v2, v3⟩ := led_gd hD f d ka kb kc c1 c2 c3 c4 dt (by decide) (by decide)
  have ld := lled_ok (h := h2) (ka.mono (by decide)) (kb.mono (by decide)) (kc.mono (by decide)) (c1.mono (by decide)) (c2.mono (by decide)) (c3.mono (by decide)) (c4.mono (by decide))
  refine ⟨_, _, _, h2, ?_, g, v1, v2, v3, w2.mono (by omega), by omega⟩
  generalize vl a b c p r = X at ld ⊢
  generalize md a b c p q r s = Y at ld ⊢
  generalize vl a b c q s = Z at ld ⊢
  generalize cls D = L at cl e1
  simp [F__law_form, b__law_form, mFun, line, mSeq, mAsg, mRet, mRetN, mDrop, mIfS, mTBin, mBin, mVar, mC, mCons, mNil, mTup, mLst, mLstC, mCB, mCall, mCallK, mIf, mAndV, mOrV, mNotV, mAnd, mOr, mNot, mTru, mUn, mChain, tB', mNx, mNev, mFor, mForL, mWhile, mComp, mCompL, mYes, gN, gT, gsCons, gsNil, gSubD, mApp, mPar, mPar3, mAugI, mSl, mSo, mNo, iR1, iR2, iR3, iS, iEn, iL, iT, asB, asL, asT, asLT, asInt, oB, oAdd, oSub, oMulA, oMul, oDiv, oMod, oPow, oNeg, cI, oEq, oNe, oIx, asSeq, oInt, oAbs, oLen, oMax2, oMin2, oDivmod, oIsi, tyD, okCell, truthD, mFrz, Option.bind_some, Option.map_some, Option.bind_none, Option.map_none, cond_true, cond_false, List.map_cons, List.map_nil, List.cons_append, List.nil_append, List.getElem?_cons_zero, List.getElem?_cons_succ, List.set_cons_zero, List.set_cons_succ, List.length_cons, List.length_nil, List.replicate , cl, e1, e2, ld]
end Law

set_option Elab.async false
set_option linter.all false
set_option maxRecDepth 100000
set_option maxHeartbeats 4000000
namespace Law
open PySem L2 Zm
/-! what composes multiplies out -/
theorem lead_back (A B C p q r s X Y : Int) (h : p * s - q * r = 1) : vl A B C X Y = vl (vl A B C p r) (md A B C p q r s) (vl A B C q s) (s * X - q * Y) (p * Y - r * X) := by
  rw [comp_v]
  have e1 : p * (s * X - q * Y) + q * (p * Y - r * X) = X := by grind
  have e2 : r * (s * X - q * Y) + s * (p * Y - r * X) = Y := by grind
  rw [e1, e2]
theorem prod_id (a l b c x y z w : Int) : vl a b (l * c) x y * vl l b (a * c) z w = vl (a * l) b c (nU c x y z w) (nW a l b x y z w) := by
  unfold vl nU nW
  grind
theorem det_z (a l b c x y z w z' w' : Int) : nU c x y z w * nW a l b x y z' w' - nU c x y z' w' * nW a l b x y z w = vl a b (l * c) x y * (z * w' - z' * w) := by
  unfold vl nU nW
  grind
theorem det_x (a l b c x y x' y' z w : Int) : nU c x y z w * nW a l b x' y' z w - nU c x' y' z w * nW a l b x y z w = vl l b (a * c) z w * (x * y' - x' * y) := by
  unfold vl nU nW
  grind
/-- the eight numbers of a told product -/
structure Num8 (A B C A' B' C' x y z r0 r1 r2 r3 r4 r5 r6 r7 : Int) : Prop where
  d1 : r0 * r5 - r1 * r4 = A
  d2 : r0 * r6 - r2 * r4 = A'
  m : ∀ X Y Z W : Int, vl A B C X Y * vl A' B' C' Z W = vl x y z (r0 * (X * Z) + r1 * (X * W) + r2 * (Y * Z) + r3 * (Y * W)) (r4 * (X * Z) + r5 * (X * W) + r6 * (Y * Z) + r7 * (Y * W))
theorem num8 {A B C A' B' C' a l b c p q r s p' q' r' s' n : Int} (h1 : p * s - q * r = 1) (h2 : p' * s' - q' * r' = 1) (f1 : vl A B C p r = a) (f2 : md A B C p q r s = b) (g1 : vl A' B' C' p' r' = l) (g2 : md A' B' C' p' q' r' s' = b)
    (dn : B * B - 4 * A * C = n) (dn' : B' * B' - 4 * A' * C' = n) (dd : b * b - 4 * (a * l) * c = n) (a0 : a ≠ 0) (l0 : l ≠ 0) :
    Num8 A B C A' B' C' (a * l) b c (nU c s (-r) s' (-r')) (nU c s (-r) (-q') p') (nU c (-q) p s' (-r')) (nU c (-q) p (-q') p') (nW a l b s (-r) s' (-r')) (nW a l b s (-r) (-q') p') (nW a l b (-q) p s' (-r')) (nW a l b (-q) p (-q') p') := by
  have k1 := disc_led A B C p q r s h1
  have k2 := disc_led A' B' C' p' q' r' s' h2
  rw [f1, f2, dn] at k1
  rw [g1, g2, dn'] at k2
  have c1 : vl A B C q s = l * c := by
    have : a * (vl A B C q s) = a * (l * c) := by grind
    exact Int.eq_of_mul_eq_mul_left a0 this
  have c2 : vl A' B' C' q' s' = a * c := by
    have : l * (vl A' B' C' q' s') = l * (a * c) := by grind
    exact Int.eq_of_mul_eq_mul_left l0 this
  have v1 : ∀ X Y, vl A B C X Y = vl a b (l * c) (s * X - q * Y) (p * Y - r * X) := fun X Y => by rw [lead_back A B C p q r s X Y h1, f1, f2, c1]
  have v2 : ∀ X Y, vl A' B' C' X Y = vl l b (a * c) (s' * X - q' * Y) (p' * Y - r' * X) := fun X Y => by rw [lead_back A' B' C' p' q' r' s' X Y h2, g1, g2, c2]
  refine ⟨?_, ?_, fun X Y Z W => ?_⟩
  · rw [det_z]
    have e := v1 1 0
    rw [show s * 1 - q * 0 = s by omega, show p * 0 - r * 1 = -r by omega, show vl A B C 1 0 = A by unfold vl; grind] at e
    rw [← e, show s' * p' - -q' * -r' = 1 by grind]
    omega
  · rw [det_x]
    have e := v2 1 0
    rw [show s' * 1 - q' * 0 = s' by omega, show p' * 0 - r' * 1 = -r' by omega, show vl A' B' C' 1 0 = A' by unfold vl; grind] at e
    rw [← e, show s * p - -q * -r = 1 by grind]
    omega
  · rw [v1, v2, prod_id]
    have e1 : nU c (s * X - q * Y) (p * Y - r * X) (s' * Z - q' * W) (p' * W - r' * Z) = nU c s (-r) s' (-r') * (X * Z) + nU c s (-r) (-q') p' * (X * W) + nU c (-q) p s' (-r') * (Y * Z) + nU c (-q) p (-q') p' * (Y * W) := by
      unfold nU; grind
    have e2 : nW a l b (s * X - q * Y) (p * Y - r * X) (s' * Z - q' * W) (p' * W - r' * Z) = nW a l b s (-r) s' (-r') * (X * Z) + nW a l b s (-r) (-q') p' * (X * W) + nW a l b (-q) p s' (-r') * (Y * Z) + nW a l b (-q) p (-q') p' * (Y * W) := by
      unfold nW; grind
    rw [e1, e2]
theorem nU_bd {c x y z w : Int} (hc : Bd 100 c) (hx : Bd 3000 x) (hy : Bd 3000 y) (hz : Bd 3000 z) (hw : Bd 3000 w) : Bd 6200 (nU c x y z w) := by
  unfold nU
  exact ((((hx.mul hz).mono (show 3000 + 3000 ≤ 6100 by decide)).sub (((hc.mul hy).mul hw).mono (show 100 + 3000 + 3000 ≤ 6100 by decide)))).mono (by decide)
theorem nW_bd {a l b x y z w : Int} (ha : Bd 20 a) (hl : Bd 30 l) (hb : Bd 60 b) (hx : Bd 3000 x) (hy : Bd 3000 y) (hz : Bd 3000 z) (hw : Bd 3000 w) : Bd 6200 (nW a l b x y z w) := by
  unfold nW
  exact (((((ha.mul hx).mul hw).mono (show 20 + 3000 + 3000 ≤ 6100 by decide)).add (((hl.mul hy).mul hz).mono (show 30 + 3000 + 3000 ≤ 6100 by decide))).add (((hb.mul hy).mul hw).mono (show 60 + 3000 + 3000 ≤ 6101 by decide))).mono (by decide)
abbrev T8 (r0 r1 r2 r3 r4 r5 r6 r7 : Int) : D := .tup [.int r0, .int r1, .int r2, .int r3, .int r4, .int r5, .int r6, .int r7]
structure B8 (r0 r1 r2 r3 r4 r5 r6 r7 : Int) : Prop where
  b0 : Bd 6200 r0
  b1 : Bd 6200 r1
  b2 : Bd 6200 r2
  b3 : Bd 6200 r3
  b4 : Bd 6200 r4
  b5 : Bd 6200 r5
  b6 : Bd 6200 r6
  b7 : Bd 6200 r7
section
variable {n : Int} {T : List (List Nat)} {V : List Nat} (K : Cl n T V)
include K
/-- what composing_numbers tells -/
theorem told_ok {i j : Nat} {A B C A' B' C' : Int} {h : Cells} (hc : ∀ x ∈ h, cleans x = true) (E : El n i A B C) (E' : El n j A' B' C') : ∃ x y z r0 r1 r2 r3 r4 r5 r6 r7, F_composing_numbers [T3 A B C, T3 A' B' C'] h = some (.tup [T3 x y z, T8 r0 r1 r2 r3 r4 r5 r6 r7], h) ∧
    El n (op T i j) x y z ∧ Bd 100 x ∧ Bd 100 y ∧ Bd 100 z ∧ B8 r0 r1 r2 r3 r4 r5 r6 r7 ∧ Num8 A B C A' B' C' x y z r0 r1 r2 r3 r4 r5 r6 r7 := by
  have o := K.o
  obtain ⟨a, b, c, p, q, s, t, R, er⟩ := rd_of (E.g.base o) h
  obtain ⟨a', b', c', p', q', s', t', R', er'⟩ := rd_of (E'.g.base o) h
  have m := (RD_red o E.g).1
  have m' := (RD_red o E'.g).1
  rw [er] at m
  rw [er'] at m'
  obtain ⟨k1, k2, k3, k4, k5⟩ := cls_in o m
  obtain ⟨_, _, j3, j4, j5⟩ := cls_in o m'
  have Kp := (K.pr i j E.lt E'.lt).1
  have r1 : nthT (L n) i = (a, b, c) := by rw [← er]; exact E.e.symm
  have r2 : nthT (L n) j = (a', b', c') := by rw [← er']; exact E'.e.symm
  rw [r1, r2] at Kp
  obtain ⟨v, ev, ⟨em, e1⟩, gv, rv⟩ := Kp.ex
  have U := un_ok ev
  obtain ⟨X1, X2, X3, X4, Y1, Y2, Y3, Y4, e, x1, x2, x3, x4, y1, y2, y3, y4, ba, bb, bc, bl, dx, f1, f2, dy, g1, g2⟩ := numbers_ok hc o E.g E'.g R R' k3 k4 k5 j3 j4 j5 k1 k2 U
  have lt := K.g.sz i j E.lt E'.lt
  refine ⟨(third (a, b, c) v).1, (third (a, b, c) v).2.1, (third (a, b, c) v).2.2, _, _, _, _, _, _, _, _, e, ⟨gv, lt, rv⟩, ((ba.mul bl).mono (by decide)), bb.mono (by decide), bc, ⟨nU_bd bc x4 x3.neg y4 y3.neg, nU_bd bc x4 x3.neg y2.neg y1, nU_bd bc x2.neg x1 y4 y3.neg, nU_bd bc x2.neg x1 y2.neg y1, nW_bd ba bl bb x4 x3.neg y4 y3.neg, nW_bd ba bl bb x4 x3.neg y2.neg y1, nW_bd ba bl bb x2.neg x1 y4 y3.neg, nW_bd ba bl bb x2.neg x1 y2.neg y1⟩, ?_⟩
  have l0 := U.l0
  refine num8 dx (dy e1) f1 f2 g1 ?_ E.g.d E'.g.d gv.d (by omega) (by omega)
  rw [g2]
  show 2 * v.lead * v.u + v.mid = 2 * a * v.k + b
  have em' : v.mid + 2 * v.lead * v.u = b + 2 * a * v.k := em
  omega
end
end Law

set_option Elab.async false
set_option linter.all false
set_option maxRecDepth 100000
set_option maxHeartbeats 4000000
namespace Law
open PySem L2 Zm
abbrev dcL : ME := (mComp (iR1 (mCons (mC (.int 4)) mNil)) (gN 12) mYes (mBin oMulA (mBin oIx (mVar 3) (mVar 12)) (mBin oIx (mVar 8) (mVar 12))) [12])
abbrev dcR : ME := (mComp (iR1 (mCons (mC (.int 4)) mNil)) (gN 12) mYes (mBin oMulA (mBin oIx (mVar 3) (mBin oAdd (mC (.int 4)) (mVar 12))) (mBin oIx (mVar 8) (mVar 12))) [12])
abbrev dcB : MB := (mSeq (mAsg (mTup (mCons (mBin oMulA (mVar 4) (mVar 6)) (mCons (mBin oMulA (mVar 4) (mVar 7)) (mCons (mBin oMulA (mVar 5) (mVar 6)) (mCons (mBin oMulA (mVar 5) (mVar 7)) mNil))))) (gN 8))
    (mSeq (mAsg (mCB oSum (mCons dcL mNil)) (gN 9))
    (mSeq (mAsg (mCB oSum (mCons dcR mNil)) (gN 10))
    (mIfS (mTBin oNe (mBin oMulA (mCall 3 F__law_value (mCons (mVar 0) (mCons (mVar 4) (mCons (mVar 5) mNil)))) (mCall 3 F__law_value (mCons (mVar 1) (mCons (mVar 6) (mCons (mVar 7) mNil))))) (mCall 3 F__law_value (mCons (mVar 2) (mCons (mVar 9) (mCons (mVar 10) mNil))))) (mRet (mC (.bl false))) mNx))))
abbrev dcG : MB := (mFor (iS (mTup (mCons (mTup (mCons (mC (.int 1)) (mCons (mC (.int 0)) mNil))) (mCons (mTup (mCons (mC (.int 0)) (mCons (mC (.int 1)) mNil))) (mCons (mTup (mCons (mC (.int 1)) (mCons (mC (.int 1)) mNil))) mNil))))) (gT 2 (gsCons (gN 6) (gsCons (gN 7) gsNil))) dcB)
abbrev dcF : MB := (mFor (iS (mTup (mCons (mTup (mCons (mC (.int 1)) (mCons (mC (.int 0)) mNil))) (mCons (mTup (mCons (mC (.int 0)) (mCons (mC (.int 1)) mNil))) (mCons (mTup (mCons (mC (.int 1)) (mCons (mC (.int 1)) mNil))) mNil))))) (gT 2 (gsCons (gN 4) (gsCons (gN 5) gsNil))) dcG)
abbrev dcS0 : MB := (mIfS (mOr (mNot (mTru (mCB oIsi (mCons (mVar 3) (mCons (mC (.ty "tuple")) mNil))))) (mOr (mTBin oNe (mCB oLen (mCons (mVar 3) mNil)) (mC (.int 8))) (mNot (mTru (mCB oAll (mCons (mComp (iS (mVar 3)) (gN 11) mYes (mCall 1 F__law_is_whole (mCons (mVar 11) mNil)) [11]) mNil)))))) (mRet (mC (.bl false))) mNx)
abbrev dcS1 : MB := (mIfS (mOr (mTBin oNe (mBin oSub (mBin oMulA (mBin oIx (mVar 3) (mC (.int 0))) (mBin oIx (mVar 3) (mC (.int 5)))) (mBin oMulA (mBin oIx (mVar 3) (mC (.int 1))) (mBin oIx (mVar 3) (mC (.int 4))))) (mBin oIx (mVar 0) (mC (.int 0)))) (mTBin oNe (mBin oSub (mBin oMulA (mBin oIx (mVar 3) (mC (.int 0))) (mBin oIx (mVar 3) (mC (.int 6)))) (mBin oMulA (mBin oIx (mVar 3) (mC (.int 2))) (mBin oIx (mVar 3) (mC (.int 4))))) (mBin oIx (mVar 1) (mC (.int 0))))) (mRet (mC (.bl false))) mNx)
theorem b_dc_eq : b__law_does_compose = (mSeq dcS0
    (mSeq dcS1
    (mSeq dcF
    (mRet (mC (.bl true)))))) := rfl
theorem lvalue_w {a b c x y : Int} {h : Cells} (ha : Bd 400 a) (hb : Bd 400 b) (hc : Bd 400 c) (hx : Bd 6300 x) (hy : Bd 6300 y) : F__law_value [T3 a b c, .int x, .int y] h = some (.int (vl a b c x y), h) := by
  have w1 : wideM a x = true := wide_B (ha.mono (by decide)) (hx.mono (by decide))
  have w2 : wideM (a * x) x = true := wide_B ((ha.mul hx).mono (by decide)) (hx.mono (by decide))
  have w3 : wideM b x = true := wide_B (hb.mono (by decide)) (hx.mono (by decide))
  have w4 : wideM (b * x) y = true := wide_B ((hb.mul hx).mono (by decide)) (hy.mono (by decide))
  have w5 : wideM c y = true := wide_B (hc.mono (by decide)) (hy.mono (by decide))
  have w6 : wideM (c * y) y = true := wide_B ((hc.mul hy).mono (by decide)) (hy.mono (by decide))
  simp [F__law_value, b__law_value, mFun, line, mSeq, mAsg, mRet, mRetN, mDrop, mIfS, mTBin, mBin, mVar, mC, mCons, mNil, mTup, mLst, mLstC, mCB, mCall, mCallK, mIf, mAndV, mOrV, mNotV, mAnd, mOr, mNot, mTru, mUn, mChain, tB', mNx, mNev, mFor, mForL, mWhile, mComp, mCompL, mYes, gN, gT, gsCons, gsNil, gSubD, mApp, mPar, mPar3, mAugI, mSl, mSo, mNo, iR1, iR2, iR3, iS, iEn, iL, iT, asB, asL, asT, asLT, asInt, oB, oAdd, oSub, oMulA, oMul, oDiv, oMod, oPow, oNeg, cI, oEq, oNe, oIx, asSeq, oInt, oAbs, oLen, oMax2, oMin2, oDivmod, oIsi, tyD, okCell, truthD, mFrz, Option.bind_some, Option.map_some, Option.bind_none, Option.map_none, cond_true, cond_false, List.map_cons, List.map_nil, List.cons_append, List.nil_append, List.getElem?_cons_zero, List.getElem?_cons_succ, List.set_cons_zero, List.set_cons_succ, List.length_cons, List.length_nil, List.replicate , atI, ixN, w1, w2, w3, w4, w5, w6, vl]
section
variable {h : Cells} {A B C A' B' C' x y z r0 r1 r2 r3 r4 r5 r6 r7 : Int} {a0 a1 a2 a4 a5 a6 a7 a8 a9 a10 a11 a12 : Option D}
theorem i4 : intsD 0 4 = [.int 0, .int 1, .int 2, .int 3] := rfl
theorem b4 : big62 4 = true := by decide
theorem dcL_ok {e0 e1 e2 e3 : Int} (w0 : wideM r0 e0 = true) (w1 : wideM r1 e1 = true) (w2 : wideM r2 e2 = true) (w3 : wideM r3 e3 = true) :
    dcL ⟨[a0, a1, a2, some (T8 r0 r1 r2 r3 r4 r5 r6 r7), a4, a5, a6, a7, some (.tup [.int e0, .int e1, .int e2, .int e3]), a9, a10, a11, a12], h⟩ = some (.lst [.int (r0 * e0), .int (r1 * e1), .int (r2 * e2), .int (r3 * e3)], h) := by
  simp [dcL, mFun, line, mSeq, mAsg, mRet, mRetN, mDrop, mIfS, mTBin, mBin, mVar, mC, mCons, mNil, mTup, mLst, mLstC, mCB, mCall, mCallK, mIf, mAndV, mOrV, mNotV, mAnd, mOr, mNot, mTru, mUn, mChain, tB', mNx, mNev, mFor, mForL, mWhile, mComp, mCompL, mYes, gN, gT, gsCons, gsNil, gSubD, mApp, mPar, mPar3, mAugI, mSl, mSo, mNo, iR1, iR2, iR3, iS, iEn, iL, iT, asB, asL, asT, asLT, asInt, oB, oAdd, oSub, oMulA, oMul, oDiv, oMod, oPow, oNeg, cI, oEq, oNe, oIx, asSeq, oInt, oAbs, oLen, oMax2, oMin2, oDivmod, oIsi, tyD, okCell, truthD, mFrz, Option.bind_some, Option.map_some, Option.bind_none, Option.map_none, cond_true, cond_false, List.map_cons, List.map_nil, List.cons_append, List.nil_append, List.getElem?_cons_zero, List.getElem?_cons_succ, List.set_cons_zero, List.set_cons_succ, List.length_cons, List.length_nil, List.replicate , wipeD, i4, b4, atI, ixN, w0, w1, w2, w3]
theorem dcR_ok {e0 e1 e2 e3 : Int} (w0 : wideM r4 e0 = true) (w1 : wideM r5 e1 = true) (w2 : wideM r6 e2 = true) (w3 : wideM r7 e3 = true) :
    dcR ⟨[a0, a1, a2, some (T8 r0 r1 r2 r3 r4 r5 r6 r7), a4, a5, a6, a7, some (.tup [.int e0, .int e1, .int e2, .int e3]), a9, a10, a11, a12], h⟩ = some (.lst [.int (r4 * e0), .int (r5 * e1), .int (r6 * e2), .int (r7 * e3)], h) := by
  simp [dcR, mFun, line, mSeq, mAsg, mRet, mRetN, mDrop, mIfS, mTBin, mBin, mVar, mC, mCons, mNil, mTup, mLst, mLstC, mCB, mCall, mCallK, mIf, mAndV, mOrV, mNotV, mAnd, mOr, mNot, mTru, mUn, mChain, tB', mNx, mNev, mFor, mForL, mWhile, mComp, mCompL, mYes, gN, gT, gsCons, gsNil, gSubD, mApp, mPar, mPar3, mAugI, mSl, mSo, mNo, iR1, iR2, iR3, iS, iEn, iL, iT, asB, asL, asT, asLT, asInt, oB, oAdd, oSub, oMulA, oMul, oDiv, oMod, oPow, oNeg, cI, oEq, oNe, oIx, asSeq, oInt, oAbs, oLen, oMax2, oMin2, oDivmod, oIsi, tyD, okCell, truthD, mFrz, Option.bind_some, Option.map_some, Option.bind_none, Option.map_none, cond_true, cond_false, List.map_cons, List.map_nil, List.cons_append, List.nil_append, List.getElem?_cons_zero, List.getElem?_cons_succ, List.set_cons_zero, List.set_cons_succ, List.length_cons, List.length_nil, List.replicate , wipeD, i4, b4, atI, ixN, w0, w1, w2, w3]
theorem dc_turn (N : Num8 A B C A' B' C' x y z r0 r1 r2 r3 r4 r5 r6 r7) (b : B8 r0 r1 r2 r3 r4 r5 r6 r7) (kA : Bd 400 A) (kB : Bd 400 B) (kC : Bd 400 C) (kA' : Bd 400 A') (kB' : Bd 400 B') (kC' : Bd 400 C') (kx : Bd 100 x) (ky : Bd 100 y) (kz : Bd 100 z)
    {X Y Z W : Int} (hX : Bd 2 X) (hY : Bd 2 Y) (hZ : Bd 2 Z) (hW : Bd 2 W) : ∃ b8 b9 b10,
    dcB ⟨[some (T3 A B C), some (T3 A' B' C'), some (T3 x y z), some (T8 r0 r1 r2 r3 r4 r5 r6 r7), some (.int X), some (.int Y), some (.int Z), some (.int W), a8, a9, a10, a11, a12], h⟩ =
      some (.nx, ⟨[some (T3 A B C), some (T3 A' B' C'), some (T3 x y z), some (T8 r0 r1 r2 r3 r4 r5 r6 r7), some (.int X), some (.int Y), some (.int Z), some (.int W), b8, b9, b10, a11, a12], h⟩) := by
  have s4 : ∀ {p q : Int}, Bd 2 p → Bd 2 q → Bd 4 (p * q) := fun h g => h.mul g
  have e0 := s4 hX hZ
  have e1 := s4 hX hW
  have e2 := s4 hY hZ
  have e3 := s4 hY hW
  have m4 : ∀ {p q : Int}, Bd 6200 p → Bd 4 q → wideM p q = true := fun h g => wide_B (h.mono (by decide)) (g.mono (by decide))
  have w1 : wideM X Z = true := wide_B (hX.mono (by decide)) (hZ.mono (by decide))
  have w2 : wideM X W = true := wide_B (hX.mono (by decide)) (hW.mono (by decide))
  have w3 : wideM Y Z = true := wide_B (hY.mono (by decide)) (hZ.mono (by decide))
  have w4 : wideM Y W = true := wide_B (hY.mono (by decide)) (hW.mono (by decide))
  have l1 := dcL_ok (h := h) (a0 := some (T3 A B C)) (a1 := some (T3 A' B' C')) (a2 := some (T3 x y z)) (r4 := r4) (r5 := r5) (r6 := r6) (r7 := r7) (a4 := some (.int X)) (a5 := some (.int Y)) (a6 := some (.int Z)) (a7 := some (.int W)) (a9 := a9) (a10 := a10) (a11 := a11) (a12 := a12) (m4 b.b0 e0) (m4 b.b1 e1) (m4 b.b2 e2) (m4 b.b3 e3)
  have l2 := fun q => dcR_ok (h := h) (a0 := some (T3 A B C)) (a1 := some (T3 A' B' C')) (a2 := some (T3 x y z)) (r0 := r0) (r1 := r1) (r2 := r2) (r3 := r3) (a4 := some (.int X)) (a5 := some (.int Y)) (a6 := some (.int Z)) (a7 := some (.int W)) (a9 := q) (a10 := a10) (a11 := a11) (a12 := a12) (m4 b.b4 e0) (m4 b.b5 e1) (m4 b.b6 e2) (m4 b.b7 e3)
  have s64 : ∀ {p q : Int}, Bd 6200 p → Bd 4 q → Bd 6204 (p * q) := fun h g => h.mul g
  have kl : Bd 6300 (r0 * (X * Z) + r1 * (X * W) + r2 * (Y * Z) + r3 * (Y * W)) := (((((s64 b.b0 e0).add (s64 b.b1 e1))).add ((s64 b.b2 e2).mono (show 6204 ≤ 6205 by decide))).add ((s64 b.b3 e3).mono (show 6204 ≤ 6206 by decide))).mono (by decide)
  have kr : Bd 6300 (r4 * (X * Z) + r5 * (X * W) + r6 * (Y * Z) + r7 * (Y * W)) := (((((s64 b.b4 e0).add (s64 b.b5 e1))).add ((s64 b.b6 e2).mono (show 6204 ≤ 6205 by decide))).add ((s64 b.b7 e3).mono (show 6204 ≤ 6206 by decide))).mono (by decide)
  have v1 := lvalue_ok (h := h) (kA.mono (by decide)) (kB.mono (by decide)) (kC.mono (by decide)) (hX.mono (by decide)) (hY.mono (by decide))
  have v2 := lvalue_ok (h := h) (kA'.mono (by decide)) (kB'.mono (by decide)) (kC'.mono (by decide)) (hZ.mono (by decide)) (hW.mono (by decide))
  have v3 := lvalue_w (h := h) (kx.mono (by decide)) (ky.mono (by decide)) (kz.mono (by decide)) kl kr
  have q1 : [r0 * (X * Z), r1 * (X * W), r2 * (Y * Z), r3 * (Y * W)].sum = r0 * (X * Z) + r1 * (X * W) + r2 * (Y * Z) + r3 * (Y * W) := by simp only [List.sum_cons, List.sum_nil]; omega
  have q2 : [r4 * (X * Z), r5 * (X * W), r6 * (Y * Z), r7 * (Y * W)].sum = r4 * (X * Z) + r5 * (X * W) + r6 * (Y * Z) + r7 * (Y * W) := by simp only [List.sum_cons, List.sum_nil]; omega
  have o1 : oSum h [.lst [.int (r0 * (X * Z)), .int (r1 * (X * W)), .int (r2 * (Y * Z)), .int (r3 * (Y * W))]] = some (.int (r0 * (X * Z) + r1 * (X * W) + r2 * (Y * Z) + r3 * (Y * W))) := by rw [← q1]; simp [oSum, asL, asInts, asInt]
  have o2 : oSum h [.lst [.int (r4 * (X * Z)), .int (r5 * (X * W)), .int (r6 * (Y * Z)), .int (r7 * (Y * W))]] = some (.int (r4 * (X * Z) + r5 * (X * W) + r6 * (Y * Z) + r7 * (Y * W))) := by rw [← q2]; simp [oSum, asL, asInts, asInt]
  have vb : ∀ {a b c u v : Int}, Bd 400 a → Bd 400 b → Bd 400 c → Bd 2 u → Bd 2 v → Bd 500 (vl a b c u v) := fun ha hb hc hu hv => by
    unfold vl
    exact (((((ha.mul hu).mul hu).mono (show _ ≤ 410 by decide)).add (((hb.mul hu).mul hv).mono (show _ ≤ 410 by decide))).add (((hc.mul hv).mul hv).mono (show _ ≤ 411 by decide))).mono (by decide)
  have wv : wideM (vl A B C X Y) (vl A' B' C' Z W) = true := wide_B ((vb kA kB kC hX hY).mono (by decide)) ((vb kA' kB' kC' hZ hW).mono (by decide))
  have mm := N.m X Y Z W
  generalize (r0 * (X * Z) + r1 * (X * W) + r2 * (Y * Z) + r3 * (Y * W)) = LL at *
  generalize (r4 * (X * Z) + r5 * (X * W) + r6 * (Y * Z) + r7 * (Y * W)) = RR at *
  generalize vl A B C X Y = u1 at *
  generalize vl A' B' C' Z W = u2 at *
  generalize vl x y z LL RR = u3 at *
  generalize T8 r0 r1 r2 r3 r4 r5 r6 r7 = t8 at *
  have hne : oNe h (.int (u1 * u2)) (.int u3) = some false := by rw [mm]; simp [oNe]
  refine ⟨some (.tup [.int (X * Z), .int (X * W), .int (Y * Z), .int (Y * W)]), some (.int LL), some (.int RR), ?_⟩
  unfold dcB
  generalize dcL = EL at *
  generalize dcR = ER at *
  simp [mFun, line, mSeq, mAsg, mRet, mRetN, mDrop, mIfS, mTBin, mBin, mVar, mC, mCons, mNil, mTup, mLst, mLstC, mCB, mCall, mCallK, mIf, mAndV, mOrV, mNotV, mAnd, mOr, mNot, mTru, mUn, mChain, tB', mNx, mNev, mFor, mForL, mWhile, mComp, mCompL, mYes, gN, gT, gsCons, gsNil, gSubD, mApp, mPar, mPar3, mAugI, mSl, mSo, mNo, iR1, iR2, iR3, iS, iEn, iL, iT, asB, asL, asT, asLT, asInt, oB, oAdd, oSub, oMulA, oMul, oDiv, oMod, oPow, oNeg, cI, oIx, asSeq, oInt, oAbs, oLen, oMax2, oMin2, oDivmod, oIsi, tyD, okCell, truthD, mFrz, Option.bind_some, Option.map_some, Option.bind_none, Option.map_none, cond_true, cond_false, List.map_cons, List.map_nil, List.cons_append, List.nil_append, List.getElem?_cons_zero, List.getElem?_cons_succ, List.set_cons_zero, List.set_cons_succ, List.length_cons, List.length_nil, List.replicate , w1, w2, w3, w4, l1, l2, o1, o2, v1, v2, v3, wv, hne]
/-- the checks ahead -/
theorem dc_row (N : Num8 A B C A' B' C' x y z r0 r1 r2 r3 r4 r5 r6 r7) (b : B8 r0 r1 r2 r3 r4 r5 r6 r7) (kA : Bd 400 A) (kB : Bd 400 B) (kC : Bd 400 C) (kA' : Bd 400 A') (kB' : Bd 400 B') (kC' : Bd 400 C') (kx : Bd 100 x) (ky : Bd 100 y) (kz : Bd 100 z) {X Y : Int} (hX : Bd 2 X) (hY : Bd 2 Y) : ∃ b6 b7 b8 b9 b10,
    dcG ⟨[some (T3 A B C), some (T3 A' B' C'), some (T3 x y z), some (T8 r0 r1 r2 r3 r4 r5 r6 r7), some (.int X), some (.int Y), a6, a7, a8, a9, a10, a11, a12], h⟩ =
      some (.nx, ⟨[some (T3 A B C), some (T3 A' B' C'), some (T3 x y z), some (T8 r0 r1 r2 r3 r4 r5 r6 r7), some (.int X), some (.int Y), b6, b7, b8, b9, b10, a11, a12], h⟩) := by
  have z0 : Bd 2 0 := by show (0 : Int).natAbs < 2 ^ 2; decide
  have z1 : Bd 2 1 := by show (1 : Int).natAbs < 2 ^ 2; decide
  obtain ⟨b8, b9, b10, e1⟩ := dc_turn (h := h) (a8 := a8) (a9 := a9) (a10 := a10) (a11 := a11) (a12 := a12) N b kA kB kC kA' kB' kC' kx ky kz hX hY z1 z0
  obtain ⟨c8, c9, c10, e2⟩ := dc_turn (h := h) (a8 := b8) (a9 := b9) (a10 := b10) (a11 := a11) (a12 := a12) N b kA kB kC kA' kB' kC' kx ky kz hX hY z0 z1
  obtain ⟨d8, d9, d10, e3⟩ := dc_turn (h := h) (a8 := c8) (a9 := c9) (a10 := c10) (a11 := a11) (a12 := a12) N b kA kB kC kA' kB' kC' kx ky kz hX hY z1 z1
  refine ⟨some (.int 1), some (.int 1), d8, d9, d10, ?_⟩
  unfold dcG
  generalize dcB = BB at *
  generalize T8 r0 r1 r2 r3 r4 r5 r6 r7 = t8 at *
  simp [mFun, line, mSeq, mAsg, mRet, mRetN, mDrop, mIfS, mTBin, mBin, mVar, mC, mCons, mNil, mTup, mLst, mLstC, mCB, mCall, mCallK, mIf, mAndV, mOrV, mNotV, mAnd, mOr, mNot, mTru, mUn, mChain, tB', mNx, mNev, mFor, mForL, mWhile, mComp, mCompL, mYes, gN, gT, gsCons, gsNil, gSubD, mApp, mPar, mPar3, mAugI, mSl, mSo, mNo, iR1, iR2, iR3, iS, iEn, iL, iT, asB, asL, asT, asLT, asInt, oB, oAdd, oSub, oMulA, oMul, oDiv, oMod, oPow, oNeg, cI, oEq, oNe, oIx, asSeq, oInt, oAbs, oLen, oMax2, oMin2, oDivmod, oIsi, tyD, okCell, truthD, mFrz, Option.bind_some, Option.map_some, Option.bind_none, Option.map_none, cond_true, cond_false, List.map_cons, List.map_nil, List.cons_append, List.nil_append, List.getElem?_cons_zero, List.getElem?_cons_succ, List.set_cons_zero, List.set_cons_succ, List.length_cons, List.length_nil, List.replicate , e1, e2, e3]
theorem dc_all (N : Num8 A B C A' B' C' x y z r0 r1 r2 r3 r4 r5 r6 r7) (b : B8 r0 r1 r2 r3 r4 r5 r6 r7) (kA : Bd 400 A) (kB : Bd 400 B) (kC : Bd 400 C) (kA' : Bd 400 A') (kB' : Bd 400 B') (kC' : Bd 400 C') (kx : Bd 100 x) (ky : Bd 100 y) (kz : Bd 100 z) : ∃ b4 b5 b6 b7 b8 b9 b10,
    dcF ⟨[some (T3 A B C), some (T3 A' B' C'), some (T3 x y z), some (T8 r0 r1 r2 r3 r4 r5 r6 r7), a4, a5, a6, a7, a8, a9, a10, a11, a12], h⟩ =
      some (.nx, ⟨[some (T3 A B C), some (T3 A' B' C'), some (T3 x y z), some (T8 r0 r1 r2 r3 r4 r5 r6 r7), b4, b5, b6, b7, b8, b9, b10, a11, a12], h⟩) := by
  have z0 : Bd 2 0 := by show (0 : Int).natAbs < 2 ^ 2; decide
  have z1 : Bd 2 1 := by show (1 : Int).natAbs < 2 ^ 2; decide
  obtain ⟨b6, b7, b8, b9, b10, e1⟩ := dc_row (h := h) (a6 := a6) (a7 := a7) (a8 := a8) (a9 := a9) (a10 := a10) (a11 := a11) (a12 := a12) N b kA kB kC kA' kB' kC' kx ky kz z1 z0
  obtain ⟨c6, c7, c8, c9, c10, e2⟩ := dc_row (h := h) (a6 := b6) (a7 := b7) (a8 := b8) (a9 := b9) (a10 := b10) (a11 := a11) (a12 := a12) N b kA kB kC kA' kB' kC' kx ky kz z0 z1
  obtain ⟨d6, d7, d8, d9, d10, e3⟩ := dc_row (h := h) (a6 := c6) (a7 := c7) (a8 := c8) (a9 := c9) (a10 := c10) (a11 := a11) (a12 := a12) N b kA kB kC kA' kB' kC' kx ky kz z1 z1
  refine ⟨some (.int 1), some (.int 1), d6, d7, d8, d9, d10, ?_⟩
  unfold dcF
  generalize dcG = BB at *
  generalize T8 r0 r1 r2 r3 r4 r5 r6 r7 = t8 at *
  simp [mFun, line, mSeq, mAsg, mRet, mRetN, mDrop, mIfS, mTBin, mBin, mVar, mC, mCons, mNil, mTup, mLst, mLstC, mCB, mCall, mCallK, mIf, mAndV, mOrV, mNotV, mAnd, mOr, mNot, mTru, mUn, mChain, tB', mNx, mNev, mFor, mForL, mWhile, mComp, mCompL, mYes, gN, gT, gsCons, gsNil, gSubD, mApp, mPar, mPar3, mAugI, mSl, mSo, mNo, iR1, iR2, iR3, iS, iEn, iL, iT, asB, asL, asT, asLT, asInt, oB, oAdd, oSub, oMulA, oMul, oDiv, oMod, oPow, oNeg, cI, oEq, oNe, oIx, asSeq, oInt, oAbs, oLen, oMax2, oMin2, oDivmod, oIsi, tyD, okCell, truthD, mFrz, Option.bind_some, Option.map_some, Option.bind_none, Option.map_none, cond_true, cond_false, List.map_cons, List.map_nil, List.cons_append, List.nil_append, List.getElem?_cons_zero, List.getElem?_cons_succ, List.set_cons_zero, List.set_cons_succ, List.length_cons, List.length_nil, List.replicate , e1, e2, e3]
theorem dc_s0 : dcS0 ⟨[a0, a1, a2, some (T8 r0 r1 r2 r3 r4 r5 r6 r7), a4, a5, a6, a7, a8, a9, a10, a11, a12], h⟩ = some (.nx, ⟨[a0, a1, a2, some (T8 r0 r1 r2 r3 r4 r5 r6 r7), a4, a5, a6, a7, a8, a9, a10, a11, a12], h⟩) := by
  have w : ∀ n : Int, F__law_is_whole [.int n] h = some (.bl true, h) := fun n => lwhole_ok h rfl
  have it : isiB "tuple" "tuple" = some true := by first | rfl | decide
  simp [dcS0, mFun, line, mSeq, mAsg, mRet, mRetN, mDrop, mIfS, mTBin, mBin, mVar, mC, mCons, mNil, mTup, mLst, mLstC, mCB, mCall, mCallK, mIf, mAndV, mOrV, mNotV, mAnd, mOr, mNot, mTru, mUn, mChain, tB', mNx, mNev, mFor, mForL, mWhile, mComp, mCompL, mYes, gN, gT, gsCons, gsNil, gSubD, mApp, mPar, mPar3, mAugI, mSl, mSo, mNo, iR1, iR2, iR3, iS, iEn, iL, iT, asB, asL, asT, asLT, asInt, oB, oAdd, oSub, oMulA, oMul, oDiv, oMod, oPow, oNeg, cI, oEq, oNe, oIx, asSeq, oInt, oAbs, oLen, oMax2, oMin2, oDivmod, oIsi, tyD, okCell, truthD, mFrz, Option.bind_some, Option.map_some, Option.bind_none, Option.map_none, cond_true, cond_false, List.map_cons, List.map_nil, List.cons_append, List.nil_append, List.getElem?_cons_zero, List.getElem?_cons_succ, List.set_cons_zero, List.set_cons_succ, List.length_cons, List.length_nil, List.replicate , wipeD, oAll, asBs, asB, Zm.asB, asL, it, w]
theorem dc_s1 (N : Num8 A B C A' B' C' x y z r0 r1 r2 r3 r4 r5 r6 r7) (b : B8 r0 r1 r2 r3 r4 r5 r6 r7) : dcS1 ⟨[some (T3 A B C), some (T3 A' B' C'), a2, some (T8 r0 r1 r2 r3 r4 r5 r6 r7), a4, a5, a6, a7, a8, a9, a10, a11, a12], h⟩ = some (.nx, ⟨[some (T3 A B C), some (T3 A' B' C'), a2, some (T8 r0 r1 r2 r3 r4 r5 r6 r7), a4, a5, a6, a7, a8, a9, a10, a11, a12], h⟩) := by
  have m : ∀ {p q : Int}, Bd 6200 p → Bd 6200 q → wideM p q = true := fun h g => wide_B (h.mono (by decide)) (g.mono (by decide))
  have w1 := m b.b0 b.b5
  have w2 := m b.b1 b.b4
  have w3 := m b.b0 b.b6
  have w4 := m b.b2 b.b4
  have d1 := N.d1
  have d2 := N.d2
  have n1 : oNe h (.int (r0 * r5 - r1 * r4)) (.int A) = some false := by rw [d1]; simp [oNe]
  have n2 : oNe h (.int (r0 * r6 - r2 * r4)) (.int A') = some false := by rw [d2]; simp [oNe]
  simp [dcS1, mFun, line, mSeq, mAsg, mRet, mRetN, mDrop, mIfS, mTBin, mBin, mVar, mC, mCons, mNil, mTup, mLst, mLstC, mCB, mCall, mCallK, mIf, mAndV, mOrV, mNotV, mAnd, mOr, mNot, mTru, mUn, mChain, tB', mNx, mNev, mFor, mForL, mWhile, mComp, mCompL, mYes, gN, gT, gsCons, gsNil, gSubD, mApp, mPar, mPar3, mAugI, mSl, mSo, mNo, iR1, iR2, iR3, iS, iEn, iL, iT, asB, asL, asT, asLT, asInt, oB, oAdd, oSub, oMulA, oMul, oDiv, oMod, oPow, oNeg, cI, oIx, asSeq, oInt, oAbs, oLen, oMax2, oMin2, oDivmod, oIsi, tyD, okCell, truthD, mFrz, Option.bind_some, Option.map_some, Option.bind_none, Option.map_none, cond_true, cond_false, List.map_cons, List.map_nil, List.cons_append, List.nil_append, List.getElem?_cons_zero, List.getElem?_cons_succ, List.set_cons_zero, List.set_cons_succ, List.length_cons, List.length_nil, List.replicate , atI, ixN, w1, w2, w3, w4, n1, n2]
theorem compose_ok (N : Num8 A B C A' B' C' x y z r0 r1 r2 r3 r4 r5 r6 r7) (b : B8 r0 r1 r2 r3 r4 r5 r6 r7) (kA : Bd 400 A) (kB : Bd 400 B) (kC : Bd 400 C) (kA' : Bd 400 A') (kB' : Bd 400 B') (kC' : Bd 400 C') (kx : Bd 100 x) (ky : Bd 100 y) (kz : Bd 100 z) :
    F__law_does_compose [T3 A B C, T3 A' B' C', T3 x y z, T8 r0 r1 r2 r3 r4 r5 r6 r7] h = some (.bl true, h) := by
  obtain ⟨b4, b5, b6, b7, b8, b9, b10, e⟩ := dc_all (h := h) (a4 := none) (a5 := none) (a6 := none) (a7 := none) (a8 := none) (a9 := none) (a10 := none) (a11 := none) (a12 := none) N b kA kB kC kA' kB' kC' kx ky kz
  have e0 := dc_s0 (h := h) (r0 := r0) (r1 := r1) (r2 := r2) (r3 := r3) (r4 := r4) (r5 := r5) (r6 := r6) (r7 := r7) (a0 := some (T3 A B C)) (a1 := some (T3 A' B' C')) (a2 := some (T3 x y z)) (a4 := none) (a5 := none) (a6 := none) (a7 := none) (a8 := none) (a9 := none) (a10 := none) (a11 := none) (a12 := none)
  have e1 := dc_s1 (h := h) (a2 := some (T3 x y z)) (a4 := none) (a5 := none) (a6 := none) (a7 := none) (a8 := none) (a9 := none) (a10 := none) (a11 := none) (a12 := none) N b
  unfold F__law_does_compose
  rw [b_dc_eq]
  generalize dcF = FF at *
  generalize dcS0 = G0 at *
  generalize dcS1 = G1 at *
  generalize T8 r0 r1 r2 r3 r4 r5 r6 r7 = t8 at *
  simp [mFun, line, mSeq, mAsg, mRet, mRetN, mDrop, mIfS, mTBin, mBin, mVar, mC, mCons, mNil, mTup, mLst, mLstC, mCB, mCall, mCallK, mIf, mAndV, mOrV, mNotV, mAnd, mOr, mNot, mTru, mUn, mChain, tB', mNx, mNev, mFor, mForL, mWhile, mComp, mCompL, mYes, gN, gT, gsCons, gsNil, gSubD, mApp, mPar, mPar3, mAugI, mSl, mSo, mNo, iR1, iR2, iR3, iS, iEn, iL, iT, asB, asL, asT, asLT, asInt, oB, oAdd, oSub, oMulA, oMul, oDiv, oMod, oPow, oNeg, cI, oEq, oNe, oIx, asSeq, oInt, oAbs, oLen, oMax2, oMin2, oDivmod, oIsi, tyD, okCell, truthD, mFrz, Option.bind_some, Option.map_some, Option.bind_none, Option.map_none, cond_true, cond_false, List.map_cons, List.map_nil, List.cons_append, List.nil_append, List.getElem?_cons_zero, List.getElem?_cons_succ, List.set_cons_zero, List.set_cons_succ, List.length_cons, List.length_nil, List.replicate , e, e0, e1]
end
end Law

set_option Elab.async false
set_option linter.all false
set_option maxRecDepth 100000
set_option maxHeartbeats 4000000
namespace Law
open PySem L2 Zm
theorem pow_10 : (2 : Nat) ^ 1900 < 10 ^ 590 := by decide +kernel
theorem dig_len {c : Nat} (h : c < 10 ^ 590) : (Nat.repr c).toList.length ≤ 590 := by
  have e : (Nat.repr c).toList = Nat.toDigits 10 c := by simp [Nat.repr]
  rw [e]; exact PyProof.Rows.digits10_le (by decide) h
theorem int_text {i : Int} (h : Bd 1900 i) : (PyData.shown (.int i)).length ≤ 600 := by
  have h1 : i.natAbs < 10 ^ 590 := Nat.lt_trans h pow_10
  show (PySem.Str.ofString (toString i)).length ≤ 600
  rw [PyProof.Rows.ofString_length]
  cases i with
  | ofNat n =>
    have d := dig_len (c := n) h1
    show (Nat.repr n).toList.length ≤ 600
    omega
  | negSucc n =>
    have d := dig_len (c := n + 1) h1
    show ("-" ++ Nat.repr (n + 1)).toList.length ≤ 600
    rw [String.toList_append, List.length_append]
    have e : ("-" : String).toList.length = 1 := rfl
    omega
mutual
def okP : PyData → Prop
  | .none => True
  | .bool _ => True
  | .int i => Bd 1900 i
  | .list xs => okPs xs
  | .tuple xs => okPs xs
  | _ => False
def okPs : List PyData → Prop
  | [] => True
  | x :: xs => okP x ∧ okPs xs
end
mutual
theorem okP_sh : ∀ p : PyData, okP p → p.showable = true ∧ p.hasDict = false ∧ p.leavesShort 600 = true
  | .none, _ => ⟨rfl, rfl, rfl⟩
  | .bool _, _ => ⟨rfl, rfl, rfl⟩
  | .int i, h => by
    have h' : Bd 1900 i := by simpa only [okP] using h
    refine ⟨by simpa only [PyData.showable, decide_eq_true_eq] using Nat.lt_trans (log_le h' (by decide)) (by decide), rfl, by simpa only [PyData.leavesShort, decide_eq_true_eq] using int_text h'⟩
  | .list xs, h => by
    obtain ⟨a, b, c⟩ := okPs_sh xs (by simpa only [okP] using h)
    exact ⟨by simpa only [PyData.showable] using a, by simpa only [PyData.hasDict] using b, by simpa only [PyData.leavesShort] using c⟩
  | .tuple xs, h => by
    obtain ⟨a, b, c⟩ := okPs_sh xs (by simpa only [okP] using h)
    exact ⟨by simpa only [PyData.showable] using a, by simpa only [PyData.hasDict] using b, by simpa only [PyData.leavesShort] using c⟩
  | .str _, h => by simp only [okP] at h
  | .dict _, h => by simp only [okP] at h
theorem okPs_sh : ∀ ps : List PyData, okPs ps → PyData.showableAll ps = true ∧ PyData.hasDictAll ps = false ∧ PyData.leavesShortAll 600 ps = true
  | [], _ => ⟨rfl, rfl, rfl⟩
  | x :: xs, h => by
    have h' : okP x ∧ okPs xs := by simpa only [okPs] using h
    obtain ⟨a, b, c⟩ := okP_sh x h'.1
    obtain ⟨a', b', c'⟩ := okPs_sh xs h'.2
    exact ⟨by simp only [PyData.showableAll, a, a', Bool.and_self], by simp only [PyData.hasDictAll, b, b', Bool.or_self], by simp only [PyData.leavesShortAll, c, c', Bool.and_self]⟩
end
theorem repr_ok {h : Cells} {d : D} {p : PyData} (e : py h d = some p) (k : okP p) (b : p.bulk ≤ 20000) (dp : p.depth ≤ 50) : ∃ s : Str, oRepr h [d] = some (.str s) := by
  obtain ⟨k1, k2, k3⟩ := okP_sh p k
  have l := PyData.shown_le_bulk 600 (by decide) p k3
  have l2 : (600 + 2) * p.bulk ≤ 602 * 20000 := Nat.mul_le_mul_left _ b
  have c : shOk p = true := by
    simp only [shOk, k1, k2, Bool.and_eq_true, Bool.not_false, decide_eq_true_eq, true_and]
    refine ⟨?_, dp⟩
    generalize p.shown.length = n at l ⊢
    generalize (600 + 2) * p.bulk = m at l l2
    show n ≤ 16777216
    omega
  refine ⟨p.shown, ?_⟩
  show (py h d).bind _ = _
  rw [e]
  show (bif shOk p then some (D.str p.shown) else none) = _
  rw [c]; rfl
theorem le_line {n : Nat} (h : n ≤ 1000) : n ≤ line := by show n ≤ 16777216; omega
theorem ne_ss (h : Cells) (s : Str) : oNe h (.str s) (.str s) = some false := by
  simp [oNe]
def tp (r : Tri) : PyData := .tuple [.int r.1, .int r.2.1, .int r.2.2]
def okT' (r : Tri) : Prop := Bd 1900 r.1 ∧ Bd 1900 r.2.1 ∧ Bd 1900 r.2.2
theorem repr_T1 (h : Cells) {r : Tri} (k : okT' r) : ∃ s : Str, oRepr h [TT r] = some (.str s) :=
  repr_ok (p := tp r) rfl (by simp only [okP, okPs, tp]; exact ⟨k.1, k.2.1, k.2.2, trivial⟩) (by simp [tp, PyData.bulk, PyData.bulkAll]) (by simp [tp, PyData.depth, PyData.depthAll])
theorem repr_T2 (h : Cells) {r r' : Tri} (k : okT' r) (k' : okT' r') : ∃ s : Str, oRepr h [.lst [TT r, TT r']] = some (.str s) :=
  repr_ok (p := .list [tp r, tp r']) rfl (by simp only [okP, okPs, tp]; exact ⟨⟨k.1, k.2.1, k.2.2, trivial⟩, ⟨k'.1, k'.2.1, k'.2.2, trivial⟩, trivial⟩) (by simp [tp, PyData.bulk, PyData.bulkAll]) (by simp [tp, PyData.depth, PyData.depthAll])
section
variable {n : Int} {T : List (List Nat)} {V : List Nat} (K : Cl n T V)
include K
theorem rn_k {i : Nat} (hi : i < (L n).length) : okT' (Rn n i) := by
  have g := (K.gd i hi).1
  exact ⟨g.k.1.mono (by decide), g.k.2.1.mono (by decide), g.k.2.2.mono (by decide)⟩
theorem cls_n : (cls n).length = (L n).length := by simp [L]
end

/-! what is refused -/
noncomputable abbrev rfT : MB := (mTry subX fldX (mDrop (mApp (mVar 2) (mCons (mIf (mTBin oEq (mVar 3) (mC (.int 0))) (mCall 2 F_composed (mCons (mVar 0) (mCons (mVar 1) mNil))) (mCallK 2 (permK [1, 0]) F_composing_numbers mNil (mCons (mVar 1) (mCons (mVar 0) mNil)))) mNil))) (zS (yApp (mVar 2) (yIf (mTBin oEq (mVar 3) (mC (.int 0))) (yCall 2 Z_composed (mCons (mVar 0) (mCons (mVar 1) mNil))) (yCallK 2 [1, 0] Z_composing_numbers (mCons (mVar 1) (mCons (mVar 0) mNil)))))) (⟨"OtherDiscriminant", some 4, fun a dd => (mDrop (mApp (mVar 2) (mCons (mCB oRepr (mCons (mExcF a dd "given" (mVar 4)) mNil)) mNil)))⟩ :: []))
noncomputable abbrev rfF : MB := (mFor (iR1 (mCons (mC (.int 2)) mNil)) (gN 3) rfT)
theorem b_rf_eq : b__law_is_refused = (mSeq (mAsg (mLstC mNil) (gN 2))
    (mSeq rfF
    (mRet (mBin (oB oEq) (mVar 2) (mLst (mCons (mCB oRepr (mCons (mVar 1) mNil)) (mCons (mCB oRepr (mCons (mVar 1) mNil)) mNil))))))) := rfl
theorem nums_none {n n' A B C A' B' C' : Int} {h : Cells} (g : Gd n A B C) (g' : Gd n' A' B' C') (ne : n ≠ n') : F_composing_numbers [T3 A B C, T3 A' B' C'] h = none ∧ Z_composing_numbers [T3 A B C, T3 A' B' C'] h = some (("OtherDiscriminant" : Str), T3 A' B' C', h) := by
  have A3 : ∀ {x : Int}, Bd 800 x → Bd 3000 x := fun h => h.mono (by decide)
  have e1 := check_form_ok (h := h) (A3 g.k.1) (A3 g.k.2.1) (A3 g.k.2.2) g.f
  have e2 := check_form_ok (h := h) (A3 g'.k.1) (A3 g'.k.2.1) (A3 g'.k.2.2) g'.f
  have e3 := pdisc_ok (h := h) (A3 g.k.1) (A3 g.k.2.1) (A3 g.k.2.2) g.f
  have e4 := pdisc_ok (h := h) (A3 g'.k.1) (A3 g'.k.2.1) (A3 g'.k.2.2) g'.f
  rw [g.d] at e3
  rw [g'.d] at e4
  have e5 : oNe h (.int n) (.int n') = some true := by simp [oNe, ne]
  constructor
  · have : mFun 15 2 b_composing_numbers [T3 A B C, T3 A' B' C'] h = none := by
      rw [b_cn_eq]
      generalize cnF = FF
      simp [mFun, line, mSeq, mAsg, mRet, mRetN, mDrop, mIfS, mTBin, mBin, mVar, mC, mCons, mNil, mTup, mLst, mLstC, mCB, mCall, mCallK, mIf, mAndV, mOrV, mNotV, mAnd, mOr, mNot, mTru, mUn, mChain, tB', mNx, mNev, mFor, mForL, mWhile, mComp, mCompL, mYes, gN, gT, gsCons, gsNil, gSubD, mApp, mPar, mPar3, mAugI, mSl, mSo, mNo, iR1, iR2, iR3, iS, iEn, iL, iT, asB, asL, asT, asLT, asInt, oB, oAdd, oSub, oMulA, oMul, oDiv, oMod, oPow, oNeg, cI, oIx, asSeq, oInt, oAbs, oLen, oMax2, oMin2, oDivmod, oIsi, tyD, okCell, truthD, mFrz, Option.bind_some, Option.map_some, Option.bind_none, Option.map_none, cond_true, cond_false, List.map_cons, List.map_nil, List.cons_append, List.nil_append, List.getElem?_cons_zero, List.getElem?_cons_succ, List.set_cons_zero, List.set_cons_succ, List.length_cons, List.length_nil, List.replicate , e1, e2, e3, e4, e5]
    unfold F_composing_numbers mFrz
    rw [this]; rfl
  · simp [Z_composing_numbers, z_composing_numbers, zFun, zThen, zIf, zS, yRaise, mFun, line, mSeq, mAsg, mRet, mRetN, mDrop, mIfS, mTBin, mBin, mVar, mC, mCons, mNil, mTup, mLst, mLstC, mCB, mCall, mCallK, mIf, mAndV, mOrV, mNotV, mAnd, mOr, mNot, mTru, mUn, mChain, tB', mNx, mNev, mFor, mForL, mWhile, mComp, mCompL, mYes, gN, gT, gsCons, gsNil, gSubD, mApp, mPar, mPar3, mAugI, mSl, mSo, mNo, iR1, iR2, iR3, iS, iEn, iL, iT, asB, asL, asT, asLT, asInt, oB, oAdd, oSub, oMulA, oMul, oDiv, oMod, oPow, oNeg, cI, oIx, asSeq, oInt, oAbs, oLen, oMax2, oMin2, oDivmod, oIsi, tyD, okCell, truthD, mFrz, Option.bind_some, Option.map_some, Option.bind_none, Option.map_none, cond_true, cond_false, List.map_cons, List.map_nil, List.cons_append, List.nil_append, List.getElem?_cons_zero, List.getElem?_cons_succ, List.set_cons_zero, List.set_cons_succ, List.length_cons, List.length_nil, List.replicate , e1, e2, e3, e4, e5]
theorem comp_none {n n' A B C A' B' C' : Int} {h : Cells} (g : Gd n A B C) (g' : Gd n' A' B' C') (ne : n ≠ n') : F_composed [T3 A B C, T3 A' B' C'] h = none ∧ Z_composed [T3 A B C, T3 A' B' C'] h = some (("OtherDiscriminant" : Str), T3 A' B' C', h) := by
  obtain ⟨e1, e2⟩ := nums_none (h := h) g g' ne
  constructor
  · simp [F_composed, b_composed, mFun, line, mSeq, mAsg, mRet, mRetN, mDrop, mIfS, mTBin, mBin, mVar, mC, mCons, mNil, mTup, mLst, mLstC, mCB, mCall, mCallK, mIf, mAndV, mOrV, mNotV, mAnd, mOr, mNot, mTru, mUn, mChain, tB', mNx, mNev, mFor, mForL, mWhile, mComp, mCompL, mYes, gN, gT, gsCons, gsNil, gSubD, mApp, mPar, mPar3, mAugI, mSl, mSo, mNo, iR1, iR2, iR3, iS, iEn, iL, iT, asB, asL, asT, asLT, asInt, oB, oAdd, oSub, oMulA, oMul, oDiv, oMod, oPow, oNeg, cI, oEq, oNe, oIx, asSeq, oInt, oAbs, oLen, oMax2, oMin2, oDivmod, oIsi, tyD, okCell, truthD, mFrz, Option.bind_some, Option.map_some, Option.bind_none, Option.map_none, cond_true, cond_false, List.map_cons, List.map_nil, List.cons_append, List.nil_append, List.getElem?_cons_zero, List.getElem?_cons_succ, List.set_cons_zero, List.set_cons_succ, List.length_cons, List.length_nil, List.replicate , e1]
  · simp [Z_composed, z_composed, zFun, zS, yCall, mFun, line, mSeq, mAsg, mRet, mRetN, mDrop, mIfS, mTBin, mBin, mVar, mC, mCons, mNil, mTup, mLst, mLstC, mCB, mCall, mCallK, mIf, mAndV, mOrV, mNotV, mAnd, mOr, mNot, mTru, mUn, mChain, tB', mNx, mNev, mFor, mForL, mWhile, mComp, mCompL, mYes, gN, gT, gsCons, gsNil, gSubD, mApp, mPar, mPar3, mAugI, mSl, mSo, mNo, iR1, iR2, iR3, iS, iEn, iL, iT, asB, asL, asT, asLT, asInt, oB, oAdd, oSub, oMulA, oMul, oDiv, oMod, oPow, oNeg, cI, oEq, oNe, oIx, asSeq, oInt, oAbs, oLen, oMax2, oMin2, oDivmod, oIsi, tyD, okCell, truthD, mFrz, Option.bind_some, Option.map_some, Option.bind_none, Option.map_none, cond_true, cond_false, List.map_cons, List.map_nil, List.cons_append, List.nil_append, List.getElem?_cons_zero, List.getElem?_cons_succ, List.set_cons_zero, List.set_cons_succ, List.length_cons, List.length_nil, List.replicate , e2]
theorem sub_od : subX "OtherDiscriminant" "OtherDiscriminant" = some true := by decide
theorem rf_step {n n' A B C A' B' C' : Int} {h : Cells} {q : List D} {s : Str} {t : Int} {a4 : Option D} (g : Gd n A B C) (g' : Gd n' A' B' C') (ne : n ≠ n') (es : ∀ h, oRepr h [T3 A' B' C'] = some (.str s)) (hq : q.length < 10) :
    rfT ⟨[some (T3 A B C), some (T3 A' B' C'), some (.cell h.length), some (.int t), a4], h ++ [q]⟩ = some (.nx, ⟨[some (T3 A B C), some (T3 A' B' C'), some (.cell h.length), some (.int t), none], h ++ [q ++ [.str s]]⟩) := by
  obtain ⟨e1, e2⟩ := nums_none (h := h ++ [q]) g g' ne
  obtain ⟨e3, e4⟩ := comp_none (h := h ++ [q]) g g' ne
  have ss := es (h ++ [q])
  have gq : (h ++ [q])[h.length]? = some q := by simp
  have sq : (h ++ [q]).set h.length (q ++ [.str s]) = h ++ [q ++ [.str s]] := by simp
  have lq : q.length < 16777216 := by omega
  have hl : h.length < (h ++ [q]).length := by simp
  have suite : ∀ (X : MSu), X = (fun a dd => (mDrop (mApp (mVar 2) (mCons (mCB oRepr (mCons (mExcF a dd "given" (mVar 4)) mNil)) mNil)))) → mSuite (some 4) "given" X (T3 A' B' C') ⟨[some (T3 A B C), some (T3 A' B' C'), some (.cell h.length), some (.int t), a4], h ++ [q]⟩ = some (.nx, ⟨[some (T3 A B C), some (T3 A' B' C'), some (.cell h.length), some (.int t), none], h ++ [q ++ [.str s]]⟩) := fun X hX => by
    subst hX
    refine mSuite_eq fun a dd => ⟨⟨[some (T3 A B C), some (T3 A' B' C'), some (.cell h.length), some (.int t), some (.exc a dd "given" (T3 A' B' C'))], h ++ [q ++ [.str s]]⟩, ?_, rfl⟩
    generalize T3 A' B' C' = Y at *
    generalize h ++ [q] = H at *
    simp [sIn, mExcF, mFun, line, mSeq, mAsg, mRet, mRetN, mDrop, mIfS, mTBin, mBin, mVar, mC, mCons, mNil, mTup, mLst, mLstC, mCB, mCall, mCallK, mIf, mAndV, mOrV, mNotV, mAnd, mOr, mNot, mTru, mUn, mChain, tB', mNx, mNev, mFor, mWhile, mComp, mCompL, mYes, gN, gT, gsCons, gsNil, gSubD, mApp, mPar, mPar3, mAugI, mSl, mSo, mNo, iR1, iR2, iR3, iS, iEn, iL, iT, asB, asL, asT, asLT, asInt, oB, oAdd, oSub, oMulA, oMul, oDiv, oMod, oPow, oNeg, cI, oIx, asSeq, oInt, oAbs, oLen, oMax2, oMin2, oDivmod, oIsi, tyD, okCell, truthD, mFrz, Option.bind_some, Option.map_some, Option.bind_none, Option.map_none, cond_true, cond_false, List.map_cons, List.map_nil, List.cons_append, List.nil_append, List.getElem?_cons_zero, List.getElem?_cons_succ, List.set_cons_zero, List.set_cons_succ, List.length_cons, List.length_nil, List.replicate , ss, gq, sq, lq]
  have f0 : fldX "OtherDiscriminant" = "given" := rfl
  unfold rfT mTry
  by_cases z : t = 0
  · subst z
    generalize T3 A' B' C' = Y at *
    generalize h ++ [q] = H at *
    have eq0 : oEq H (.int 0) (.int 0) = some true := by simp [oEq]
    simp [mFun, line, mSeq, mAsg, mRet, mRetN, mDrop, mIfS, mTBin, mBin, mVar, mC, mCons, mNil, mTup, mLst, mLstC, mCB, mCall, mCallK, mIf, mAndV, mOrV, mNotV, mAnd, mOr, mNot, mTru, mUn, mChain, tB', mNx, mNev, mFor, mForL, mWhile, mComp, mCompL, mYes, gN, gT, gsCons, gsNil, gSubD, mApp, mPar, mPar3, mAugI, mSl, mSo, mNo, iR1, iR2, iR3, iS, iEn, iL, iT, asB, asL, asT, asLT, asInt, oB, oAdd, oSub, oMulA, oMul, oDiv, oMod, oPow, oNeg, cI, oIx, asSeq, oInt, oAbs, oLen, oMax2, oMin2, oDivmod, oIsi, tyD, okCell, truthD, mFrz, Option.bind_some, Option.map_some, Option.bind_none, Option.map_none, cond_true, cond_false, List.map_cons, List.map_nil, List.cons_append, List.nil_append, List.getElem?_cons_zero, List.getElem?_cons_succ, List.set_cons_zero, List.set_cons_succ, List.length_cons, List.length_nil, List.replicate , zS, yApp, yIf, yCall, yCallK, permK, permL, e1, e2, e3, e4, eq0, hl, mHds, sub_od, f0, suite _ rfl]
  · generalize T3 A' B' C' = Y at *
    generalize h ++ [q] = H at *
    have eq0 : oEq H (.int t) (.int 0) = some false := by simp [oEq, z]
    simp [mFun, line, mSeq, mAsg, mRet, mRetN, mDrop, mIfS, mTBin, mBin, mVar, mC, mCons, mNil, mTup, mLst, mLstC, mCB, mCall, mCallK, mIf, mAndV, mOrV, mNotV, mAnd, mOr, mNot, mTru, mUn, mChain, tB', mNx, mNev, mFor, mForL, mWhile, mComp, mCompL, mYes, gN, gT, gsCons, gsNil, gSubD, mApp, mPar, mPar3, mAugI, mSl, mSo, mNo, iR1, iR2, iR3, iS, iEn, iL, iT, asB, asL, asT, asLT, asInt, oB, oAdd, oSub, oMulA, oMul, oDiv, oMod, oPow, oNeg, cI, oIx, asSeq, oInt, oAbs, oLen, oMax2, oMin2, oDivmod, oIsi, tyD, okCell, truthD, mFrz, Option.bind_some, Option.map_some, Option.bind_none, Option.map_none, cond_true, cond_false, List.map_cons, List.map_nil, List.cons_append, List.nil_append, List.getElem?_cons_zero, List.getElem?_cons_succ, List.set_cons_zero, List.set_cons_succ, List.length_cons, List.length_nil, List.replicate , zS, yApp, yIf, yCall, yCallK, permK, permL, e1, e2, e3, e4, eq0, hl, mHds, sub_od, f0, suite _ rfl]
theorem ok_of (x : String) : PyData.strOk (Str.ofString x) = true := by
  unfold PyData.strOk
  rw [Str.ofString_eq_toList]
  simp only [List.all_toArray, List.all_map, List.all_eq_true, Function.comp_apply, decide_eq_true_eq]
  intro c _
  have := c.valid
  rcases this with z | z
  · show c.val.toNat < _
    have : c.val.toNat < 0xd800 := z
    omega
  · show c.val.toNat < _
    have : c.val.toNat < 0x110000 := z.2
    omega
theorem ok_app {x y : Str} (h : PyData.strOk x = true) (g : PyData.strOk y = true) : PyData.strOk (x ++ y) = true := by
  show ((x.cps ++ y.cps).all _) = true
  rw [Array.all_append]
  simp only [Bool.and_eq_true]
  exact ⟨h, g⟩
theorem ok_shown3 (a b c : Int) : PyData.strOk (PyData.shown (.tuple [.int a, .int b, .int c])) = true := by
  show PyData.strOk (Str.ofString "(" ++ (Str.ofString (toString a) ++ Str.ofString ", " ++ (Str.ofString (toString b) ++ Str.ofString ", " ++ Str.ofString (toString c))) ++ Str.ofString ")") = true
  exact ok_app (ok_app (ok_of _) (ok_app (ok_app (ok_of _) (ok_of _)) (ok_app (ok_app (ok_of _) (ok_of _)) (ok_of _)))) (ok_of _)
theorem eq_ss (h : Cells) (s : Str) (os : PyData.strOk s = true) (i : Nat) (e : h[i]? = some [.str s, .str s]) : oEq h (.cell i) (.lst [.str s, .str s]) = some true := by
  have e1 : py h (.lst [.str s, .str s]) = some (.list [.str s, .str s]) := rfl
  have e2 : py h (.cell i) = some (.list [.str s, .str s]) := by
    show ((h[i]?).bind _ : Option _) = _
    rw [e]; rfl
  have sh : SeqAt.shaped (.list [.str s, .str s]) = true := by
    simp [SeqAt.shaped, PyData.canLay0, PyData.canLayAll0, PyData.depth, PyData.depthAll, os]
  simp [oEq, cEqP, e1, e2, PyData.eqv, PyData.eqvAll, sh]
theorem repr_all {x y z : Int} (k : okT' (x, y, z)) : ∃ s : Str, PyData.strOk s = true ∧ ∀ h, oRepr h [T3 x y z] = some (.str s) := by
  obtain ⟨s, e⟩ := repr_T1 [] k
  have e' : (bif shOk (.tuple [.int x, .int y, .int z]) then some (D.str (PyData.shown (.tuple [.int x, .int y, .int z]))) else none) = some (D.str s) := e
  obtain ⟨_, e2⟩ := bif_some e'
  cases e2
  exact ⟨_, ok_shown3 x y z, fun h => e⟩
theorem refused_ok {n n' A B C A' B' C' : Int} {h : Cells} (hc : ∀ x ∈ h, cleans x = true) (g : Gd n A B C) (g' : Gd n' A' B' C') (ne : n ≠ n') : F__law_is_refused [T3 A B C, T3 A' B' C'] h = some (.bl true, h) := by
  obtain ⟨s, os, es⟩ := repr_all (x := A') (y := B') (z := C') ⟨g'.k.1.mono (by decide), g'.k.2.1.mono (by decide), g'.k.2.2.mono (by decide)⟩
  have e1 := rf_step (h := h) (q := []) (t := 0) (a4 := none) g g' ne es (by simp)
  have e2 := rf_step (h := h) (q := [.str s]) (t := 1) (a4 := none) g g' ne es (by simp)
  have el : mForL (gN 3) rfT (intsD 0 (2 : Int).toNat) ⟨[some (T3 A B C), some (T3 A' B' C'), some (.cell h.length), none, none], h ++ [[]]⟩ = some (.nx, ⟨[some (T3 A B C), some (T3 A' B' C'), some (.cell h.length), some (.int 1), none], h ++ [[.str s, .str s]]⟩) := by
    have e2 : rfT ⟨[some (T3 A B C), some (T3 A' B' C'), some (.cell h.length), some (.int 1), none], h ++ [[] ++ [.str s]]⟩ = _ := e2
    rw [show intsD 0 (2 : Int).toNat = [.int 0, .int 1] from rfl]
    generalize rfT = BB at *
    simp only [mForL, gN, List.set_cons_succ, List.set_cons_zero, Option.bind_some, e1, e2]
    rfl
  have ef : rfF ⟨[some (T3 A B C), some (T3 A' B' C'), some (.cell h.length), none, none], h ++ [[]]⟩ = some (.nx, ⟨[some (T3 A B C), some (T3 A' B' C'), some (.cell h.length), some (.int 1), none], h ++ [[.str s, .str s]]⟩) := by
    unfold rfF
    generalize rfT = BB at *
    exact for_iR1 (j := 2) (h1 := h ++ [[]]) rfl (by decide) el
  have eq1 := eq_ss (h ++ [[.str s, .str s]]) s os h.length (by simp)
  have e0 : mFun 5 2 b__law_is_refused [T3 A B C, T3 A' B' C'] h = some (.bl true, h ++ [[.str s, .str s]]) := by
    have ss := es (h ++ [[.str s, .str s]])
    rw [b_rf_eq]
    generalize rfF = FF at *
    generalize T3 A' B' C' = Y at *
    generalize h ++ [[D.str s, .str s]] = H at *
    simp [mFun, line, mSeq, mAsg, mRet, mRetN, mDrop, mIfS, mTBin, mBin, mVar, mC, mCons, mNil, mTup, mLst, mLstC, mCB, mCall, mCallK, mIf, mAndV, mOrV, mNotV, mAnd, mOr, mNot, mTru, mUn, mChain, tB', mNx, mNev, mFor, mWhile, mComp, mCompL, mYes, gN, gT, gsCons, gsNil, gSubD, mApp, mPar, mPar3, mAugI, mSl, mSo, mNo, iR1, iR2, iR3, iS, iEn, iL, iT, asB, asL, asT, asLT, asInt, oB, oAdd, oSub, oMulA, oMul, oDiv, oMod, oPow, oNeg, cI, oIx, asSeq, oInt, oAbs, oLen, oMax2, oMin2, oDivmod, oIsi, tyD, okCell, truthD, mFrz, Option.bind_some, Option.map_some, Option.bind_none, Option.map_none, cond_true, cond_false, List.map_cons, List.map_nil, List.cons_append, List.nil_append, List.getElem?_cons_zero, List.getElem?_cons_succ, List.set_cons_zero, List.set_cons_succ, List.length_cons, List.length_nil, List.replicate , ef, eq1, ss]
  have t : (h ++ [[D.str s, .str s]]).take h.length = h := by simp
  have b : (decide (h.length ≤ (h ++ [[D.str s, .str s]]).length) && h.all cleans) = true := by
    rw [Bool.and_eq_true]
    exact ⟨decide_eq_true (by rw [List.length_append]; omega), List.all_eq_true.mpr hc⟩
  unfold F__law_is_refused mFrz
  rw [e0]
  simp only [Option.bind_some, t, b, cond_true, frzD, clean, Option.map_some]
end Law

set_option Elab.async false
set_option linter.all false
set_option maxRecDepth 100000
set_option maxHeartbeats 4000000
namespace Law
open PySem L2 Zm
noncomputable abbrev rS0 : MB := (mPar 3 4 (mCons (mCall 3 F__law_form (mCons (mVar 0) (mCons (mVar 1) (mCons (mC (.bl true)) mNil)))) (mCons (mCall 3 F__law_form (mCons (mVar 0) (mCons (mVar 1) (mCons (mC (.bl true)) mNil)))) mNil)))
abbrev rS1 : MB := (mAsg (mCall 2 F__law_product (mCons (mCall 1 F__law_reduced (mCons (mVar 3) mNil)) (mCons (mCall 1 F__law_reduced (mCons (mVar 4) mNil)) mNil))) (gN 5))
abbrev rS2 : MB := (mIfS (mTBin oNe (mCB oRepr (mCons (mLst (mCons (mCall 2 F_composed (mCons (mVar 3) (mCons (mVar 4) mNil))) (mCons (mCallK 2 (permK [1, 0]) F_composed mNil (mCons (mVar 4) (mCons (mVar 3) mNil))) mNil))) mNil)) (mCB oRepr (mCons (mLst (mCons (mVar 5) (mCons (mVar 5) mNil))) mNil))) (mRet (mC (.bl false))) mNx)
abbrev rS3 : MB := (mIfS (mTBin oNe (mCB oRepr (mCons (mCall 2 F_composed (mCons (mCall 1 F__law_reduced (mCons (mVar 4) mNil)) (mCons (mVar 3) mNil))) mNil)) (mCB oRepr (mCons (mVar 5) mNil))) (mRet (mC (.bl false))) mNx)
abbrev rS4 : MB := (mAsg (mIf (mTBin cLt (mVar 2) (mC (.int 2))) (mCall 2 F_composing_numbers (mCons (mVar 3) (mCons (mVar 4) mNil))) (mCallK 2 (permK [1, 0]) F_composing_numbers mNil (mCons (mVar 4) (mCons (mVar 3) mNil)))) (gN 6))
abbrev rS5 : MB := (mIfS (mOr (mNot (mTru (mCB oIsi (mCons (mVar 6) (mCons (mC (.ty "tuple")) mNil))))) (mOr (mTBin oNe (mCB oLen (mCons (mVar 6) mNil)) (mC (.int 2))) (mNot (mTru (mCall 1 F__law_is_form (mCons (mBin oIx (mVar 6) (mC (.int 0))) mNil)))))) (mRet (mC (.bl false))) mNx)
abbrev rS6 : MB := (mIfS (mOr (mTBin oNe (mCall 1 F__law_reduced (mCons (mBin oIx (mVar 6) (mC (.int 0))) mNil)) (mVar 5)) (mNot (mTru (mCall 4 F__law_does_compose (mCons (mVar 3) (mCons (mVar 4) (mCons (mBin oIx (mVar 6) (mC (.int 0))) (mCons (mBin oIx (mVar 6) (mC (.int 1))) mNil)))))))) (mRet (mC (.bl false))) mNx)
noncomputable abbrev rB : MB := (mSeq rS0
    (mSeq rS1
    (mSeq rS2
    (mSeq rS3
    (mSeq rS4
    (mSeq rS5
    rS6))))))
noncomputable abbrev rF : MB := (mFor (iR1 (mCons (mC (.int 3)) mNil)) (gN 2) rB)
abbrev rE1 : MB := (mAsg (mCall 3 F__law_form (mCons (mVar 0) (mCons (mCall 1 F__law_disc (mCons (mVar 0) mNil)) (mCons (mC (.bl false)) mNil)))) (gN 7))
noncomputable abbrev rE2 : MB := (mRet (mOrV (mBin (oB oEq) (mCall 1 F__law_disc_of (mCons (mVar 7) mNil)) (mVar 1)) (mCall 2 F__law_is_refused (mCons (mVar 3) (mCons (mVar 7) mNil)))))
theorem b_rr_eq : b__law_right = (mSeq (mAsg (mCall 1 F__law_disc (mCons (mVar 0) mNil)) (gN 1))
    (mSeq rF
    (mSeq rE1
    rE2))) := rfl
section
variable {h : Cells} {n : Int} {a0 a1 a2 a3 a4 a5 a6 a7 : Option D}
theorem s0_ok {i m : Nat} (w : W h i m) (hm : m ≤ 400000) (o : okD n) : ∃ a b c a' b' c' h', rS0 ⟨[some (.cell i), some (.int n), a2, a3, a4, a5, a6, a7], h⟩ = some (.nx, ⟨[some (.cell i), some (.int n), a2, some (T3 a b c), some (T3 a' b' c'), a5, a6, a7], h'⟩) ∧ Gd n a b c ∧ Gd n a' b' c' ∧ (Bd 400 a ∧ Bd 400 b ∧ Bd 400 c) ∧ (Bd 400 a' ∧ Bd 400 b' ∧ Bd 400 c') ∧ W h' i (m + 100) ∧ h'.length = h.length := by
  obtain ⟨a, b, c, h1, e1, g1, k1, k2, k3, w1, l1⟩ := form_ok w (by omega) o true
  obtain ⟨a', b', c', h2, e2, g2, j1, j2, j3, w2, l2⟩ := form_ok w1 (by omega) o true
  exact ⟨a, b, c, a', b', c', h2, by simp [rS0, mFun, line, mSeq, mAsg, mRet, mRetN, mDrop, mIfS, mTBin, mBin, mVar, mC, mCons, mNil, mTup, mLst, mLstC, mCB, mCall, mCallK, mIf, mAndV, mOrV, mNotV, mAnd, mOr, mNot, mTru, mUn, mChain, tB', mNx, mNev, mFor, mForL, mWhile, mComp, mCompL, mYes, gN, gT, gsCons, gsNil, gSubD, mApp, mPar, mPar3, mAugI, mSl, mSo, mNo, iR1, iR2, iR3, iS, iEn, iL, iT, asB, asL, asT, asLT, asInt, oB, oAdd, oSub, oMulA, oMul, oDiv, oMod, oPow, oNeg, cI, oEq, oNe, oIx, asSeq, oInt, oAbs, oLen, oMax2, oMin2, oDivmod, oIsi, tyD, okCell, truthD, mFrz, Option.bind_some, Option.map_some, Option.bind_none, Option.map_none, cond_true, cond_false, List.map_cons, List.map_nil, List.cons_append, List.nil_append, List.getElem?_cons_zero, List.getElem?_cons_succ, List.set_cons_zero, List.set_cons_succ, List.length_cons, List.length_nil, List.replicate , e1, e2], g1, g2, ⟨k1, k2, k3⟩, ⟨j1, j2, j3⟩, w2.mono (by omega), by omega⟩
variable {T : List (List Nat)} {V : List Nat} (K : Cl n T V) (hc : ∀ x ∈ h, cleans x = true) {i j : Nat} {A B C A' B' C' : Int} (E : El n i A B C) (E' : El n j A' B' C')
include K E E'
theorem s1_ok : rS1 ⟨[a0, a1, a2, some (T3 A B C), some (T3 A' B' C'), a5, a6, a7], h⟩ = some (.nx, ⟨[a0, a1, a2, some (T3 A B C), some (T3 A' B' C'), some (TT (Rn n (op T i j))), a6, a7], h⟩) := by
  have e1 := lred_ok K E (h := h)
  have e2 := lred_ok K E' (h := h)
  have e3 := lprod_ok K E.lt E'.lt (h := h)
  generalize TT (Rn n (op T i j)) = Y at *
  generalize TT (Rn n i) = Z at *
  generalize TT (Rn n j) = Z' at *
  simp [rS1, mFun, line, mSeq, mAsg, mRet, mRetN, mDrop, mIfS, mTBin, mBin, mVar, mC, mCons, mNil, mTup, mLst, mLstC, mCB, mCall, mCallK, mIf, mAndV, mOrV, mNotV, mAnd, mOr, mNot, mTru, mUn, mChain, tB', mNx, mNev, mFor, mForL, mWhile, mComp, mCompL, mYes, gN, gT, gsCons, gsNil, gSubD, mApp, mPar, mPar3, mAugI, mSl, mSo, mNo, iR1, iR2, iR3, iS, iEn, iL, iT, asB, asL, asT, asLT, asInt, oB, oAdd, oSub, oMulA, oMul, oDiv, oMod, oPow, oNeg, cI, oEq, oNe, oIx, asSeq, oInt, oAbs, oLen, oMax2, oMin2, oDivmod, oIsi, tyD, okCell, truthD, mFrz, Option.bind_some, Option.map_some, Option.bind_none, Option.map_none, cond_true, cond_false, List.map_cons, List.map_nil, List.cons_append, List.nil_append, List.getElem?_cons_zero, List.getElem?_cons_succ, List.set_cons_zero, List.set_cons_succ, List.length_cons, List.length_nil, List.replicate , e1, e2, e3]
include hc
theorem s2_ok : rS2 ⟨[a0, a1, a2, some (T3 A B C), some (T3 A' B' C'), some (TT (Rn n (op T i j))), a6, a7], h⟩ = some (.nx, ⟨[a0, a1, a2, some (T3 A B C), some (T3 A' B' C'), some (TT (Rn n (op T i j))), a6, a7], h⟩) := by
  have e1 := comp_ok K hc E E'
  have q := rn_k K (K.g.sz _ _ E.lt E'.lt)
  obtain ⟨s, es⟩ := repr_T2 h q q
  have z := ne_ss h s
  generalize TT (Rn n (op T i j)) = Y at *
  simp [rS2, mFun, line, mSeq, mAsg, mRet, mRetN, mDrop, mIfS, mTBin, mBin, mVar, mC, mCons, mNil, mTup, mLst, mLstC, mCB, mCall, mCallK, mIf, mAndV, mOrV, mNotV, mAnd, mOr, mNot, mTru, mUn, mChain, tB', mNx, mNev, mFor, mWhile, mComp, mCompL, mYes, gN, gT, gsCons, gsNil, gSubD, mApp, mPar, mPar3, mAugI, mSl, mSo, mNo, iR1, iR2, iR3, iS, iEn, iL, iT, asB, asL, asT, asLT, asInt, oB, oAdd, oSub, oMulA, oMul, oDiv, oMod, oPow, oNeg, cI, oIx, asSeq, oInt, oAbs, oLen, oMax2, oMin2, oDivmod, oIsi, tyD, okCell, truthD, mFrz, Option.bind_some, Option.map_some, Option.bind_none, Option.map_none, cond_true, cond_false, List.map_cons, List.map_nil, List.cons_append, List.nil_append, List.getElem?_cons_zero, List.getElem?_cons_succ, List.set_cons_zero, List.set_cons_succ, List.length_cons, List.length_nil, List.replicate , permK, permL, e1, es, z]
theorem s3_ok : rS3 ⟨[a0, a1, a2, some (T3 A B C), some (T3 A' B' C'), some (TT (Rn n (op T i j))), a6, a7], h⟩ = some (.nx, ⟨[a0, a1, a2, some (T3 A B C), some (T3 A' B' C'), some (TT (Rn n (op T i j))), a6, a7], h⟩) := by
  have e1 := lred_ok K E' (h := h)
  have e2 := comp_ok K hc (el_R K E'.lt) E
  rw [K.g.cm j i E'.lt E.lt] at e2
  have e2 : F_composed [TT (Rn n j), T3 A B C] h = some (TT (Rn n (op T i j)), h) := e2
  have q := rn_k K (K.g.sz _ _ E.lt E'.lt)
  obtain ⟨s, es⟩ := repr_T1 h q
  have z := ne_ss h s
  generalize TT (Rn n (op T i j)) = Y at *
  generalize TT (Rn n j) = Z at *
  simp [rS3, mFun, line, mSeq, mAsg, mRet, mRetN, mDrop, mIfS, mTBin, mBin, mVar, mC, mCons, mNil, mTup, mLst, mLstC, mCB, mCall, mCallK, mIf, mAndV, mOrV, mNotV, mAnd, mOr, mNot, mTru, mUn, mChain, tB', mNx, mNev, mFor, mWhile, mComp, mCompL, mYes, gN, gT, gsCons, gsNil, gSubD, mApp, mPar, mPar3, mAugI, mSl, mSo, mNo, iR1, iR2, iR3, iS, iEn, iL, iT, asB, asL, asT, asLT, asInt, oB, oAdd, oSub, oMulA, oMul, oDiv, oMod, oPow, oNeg, cI, oIx, asSeq, oInt, oAbs, oLen, oMax2, oMin2, oDivmod, oIsi, tyD, okCell, truthD, mFrz, Option.bind_some, Option.map_some, Option.bind_none, Option.map_none, cond_true, cond_false, List.map_cons, List.map_nil, List.cons_append, List.nil_append, List.getElem?_cons_zero, List.getElem?_cons_succ, List.set_cons_zero, List.set_cons_succ, List.length_cons, List.length_nil, List.replicate , e1, e2, es, z]
theorem s46_ok (kA : Bd 400 A ∧ Bd 400 B ∧ Bd 400 C) (kB : Bd 400 A' ∧ Bd 400 B' ∧ Bd 400 C') (t : Int) : ∃ b6, (mSeq rS4 (mSeq rS5 rS6)) ⟨[a0, a1, some (.int t), some (T3 A B C), some (T3 A' B' C'), some (TT (Rn n (op T i j))), a6, a7], h⟩ = some (.nx, ⟨[a0, a1, some (.int t), some (T3 A B C), some (T3 A' B' C'), some (TT (Rn n (op T i j))), b6, a7], h⟩) := by
  obtain ⟨x, y, z, r0, r1, r2, r3, r4, r5, r6, r7, e1, El3, bx, by', bz, b8, N⟩ := told_ok K hc E E'
  have f1 := lis_form_ok (h := h) (bx.mono (show 100 ≤ 3000 by decide)) (by'.mono (by decide)) (bz.mono (by decide))
  rw [decide_eq_true El3.g.f] at f1
  have f2 := lred_ok K El3 (h := h)
  have f3 := compose_ok (h := h) N b8 kA.1 kA.2.1 kA.2.2 kB.1 kB.2.1 kB.2.2 bx by' bz
  have hT : oNe h (TT (Rn n (op T i j))) (TT (Rn n (op T i j))) = some false := by rw [show TT (Rn n (op T i j)) = T3 (Rn n (op T i j)).1 (Rn n (op T i j)).2.1 (Rn n (op T i j)).2.2 from rfl, ne3]; simp
  have it : isiB "tuple" "tuple" = some true := by first | rfl | decide
  have n2 : oNe h (.int 2) (.int 2) = some false := by simp [oNe]
  refine ⟨some (.tup [T3 x y z, T8 r0 r1 r2 r3 r4 r5 r6 r7]), ?_⟩
  generalize TT (Rn n (op T i j)) = Y at *
  generalize T8 r0 r1 r2 r3 r4 r5 r6 r7 = t8 at *
  generalize T3 x y z = t3 at *
  by_cases zt : t < 2
  · simp [rS4, rS5, rS6, mFun, line, mSeq, mAsg, mRet, mRetN, mDrop, mIfS, mTBin, mBin, mVar, mC, mCons, mNil, mTup, mLst, mLstC, mCB, mCall, mCallK, mIf, mAndV, mOrV, mNotV, mAnd, mOr, mNot, mTru, mUn, mChain, tB', mNx, mNev, mFor, mForL, mWhile, mComp, mCompL, mYes, gN, gT, gsCons, gsNil, gSubD, mApp, mPar, mPar3, mAugI, mSl, mSo, mNo, iR1, iR2, iR3, iS, iEn, iL, iT, asB, asL, asT, asLT, asInt, oB, oAdd, oSub, oMulA, oMul, oDiv, oMod, oPow, oNeg, cI, oIx, asSeq, oInt, oAbs, oLen, oMax2, oMin2, oDivmod, oIsi, tyD, okCell, truthD, mFrz, Option.bind_some, Option.map_some, Option.bind_none, Option.map_none, cond_true, cond_false, List.map_cons, List.map_nil, List.cons_append, List.nil_append, List.getElem?_cons_zero, List.getElem?_cons_succ, List.set_cons_zero, List.set_cons_succ, List.length_cons, List.length_nil, List.replicate , permK, permL, atI, ixN, zt, e1, f1, f2, f3, hT, it, n2]
  · simp [rS4, rS5, rS6, mFun, line, mSeq, mAsg, mRet, mRetN, mDrop, mIfS, mTBin, mBin, mVar, mC, mCons, mNil, mTup, mLst, mLstC, mCB, mCall, mCallK, mIf, mAndV, mOrV, mNotV, mAnd, mOr, mNot, mTru, mUn, mChain, tB', mNx, mNev, mFor, mForL, mWhile, mComp, mCompL, mYes, gN, gT, gsCons, gsNil, gSubD, mApp, mPar, mPar3, mAugI, mSl, mSo, mNo, iR1, iR2, iR3, iS, iEn, iL, iT, asB, asL, asT, asLT, asInt, oB, oAdd, oSub, oMulA, oMul, oDiv, oMod, oPow, oNeg, cI, oIx, asSeq, oInt, oAbs, oLen, oMax2, oMin2, oDivmod, oIsi, tyD, okCell, truthD, mFrz, Option.bind_some, Option.map_some, Option.bind_none, Option.map_none, cond_true, cond_false, List.map_cons, List.map_nil, List.cons_append, List.nil_append, List.getElem?_cons_zero, List.getElem?_cons_succ, List.set_cons_zero, List.set_cons_succ, List.length_cons, List.length_nil, List.replicate , permK, permL, atI, ixN, zt, e1, f1, f2, f3, hT, it, n2]
end
section
variable {h : Cells} {n : Int} {a3 a4 a5 a6 a7 : Option D}
theorem turn_ok {q m : Nat} (w : W h q m) (hm : m ≤ 300000) (o : okD n) (t : Int) : ∃ A B C b4 b5 b6 h', rB ⟨[some (.cell q), some (.int n), some (.int t), a3, a4, a5, a6, a7], h⟩ = some (.nx, ⟨[some (.cell q), some (.int n), some (.int t), some (T3 A B C), b4, b5, b6, a7], h'⟩) ∧ Gd n A B C ∧ W h' q (m + 100) ∧ h'.length = h.length := by
  obtain ⟨A, B, C, A', B', C', h1, e0, g, g', kA, kB, w1, l1⟩ := s0_ok (a2 := some (.int t)) (a3 := a3) (a4 := a4) (a5 := a5) (a6 := a6) (a7 := a7) w (by omega) o
  obtain ⟨T, V, K⟩ := cl_of o
  obtain ⟨i, E⟩ := el_of o g
  obtain ⟨j, E'⟩ := el_of o g'
  have c1 := w1.cl
  obtain ⟨b6, e4⟩ := s46_ok (a0 := some (.cell q)) (a1 := some (.int n)) (a6 := a6) (a7 := a7) K c1 E E' kA kB t
  refine ⟨A, B, C, some (T3 A' B' C'), some (TT (Rn n (op T i j))), b6, h1, ?_, g, w1, l1⟩
  show (mSeq rS0 (mSeq rS1 (mSeq rS2 (mSeq rS3 (mSeq rS4 (mSeq rS5 rS6)))))) _ = _
  rw [seq_nx e0, seq_nx (s1_ok K E E'), seq_nx (s2_ok K c1 E E'), seq_nx (s3_ok K c1 E E'), e4]
end
theorem end_ok {h : Cells} {q m : Nat} {n A B C : Int} {a2 a4 a5 a6 a7 : Option D} (w : W h q m) (hm : m ≤ 300000) (o : okD n) (g : Gd n A B C) : ∃ h' ms, (mSeq rE1 rE2) ⟨[some (.cell q), some (.int n), a2, some (T3 A B C), a4, a5, a6, a7], h⟩ = some (.ret (.bl true), ms) ∧ ms.h = h' ∧ (∀ ds ∈ h', cleans ds = true) ∧ h'.length = h.length := by
  obtain ⟨n', h1, e1, o', w1, l1⟩ := disc_ok w (by omega)
  obtain ⟨x, y, z, h2, e2, g', k1, k2, k3, w2, l2⟩ := form_ok w1 (by omega) o' false
  have c2 := w2.cl
  have d := ldisc_of_ok (h := h2) (a := x) (b := y) (c := z) (k1.mono (by decide)) (k2.mono (by decide)) (k3.mono (by decide))
  rw [g'.d] at d
  refine ⟨h2, ⟨[some (.cell q), some (.int n), a2, some (T3 A B C), a4, a5, a6, some (T3 x y z)], h2⟩, ?_, rfl, c2, by omega⟩
  by_cases z : n' = n
  · have eq : oEq h2 (.int n') (.int n) = some true := by simp [oEq, z]
    simp [rE1, rE2, mFun, line, mSeq, mAsg, mRet, mRetN, mDrop, mIfS, mTBin, mBin, mVar, mC, mCons, mNil, mTup, mLst, mLstC, mCB, mCall, mCallK, mIf, mAndV, mOrV, mNotV, mAnd, mOr, mNot, mTru, mUn, mChain, tB', mNx, mNev, mFor, mForL, mWhile, mComp, mCompL, mYes, gN, gT, gsCons, gsNil, gSubD, mApp, mPar, mPar3, mAugI, mSl, mSo, mNo, iR1, iR2, iR3, iS, iEn, iL, iT, asB, asL, asT, asLT, asInt, oB, oAdd, oSub, oMulA, oMul, oDiv, oMod, oPow, oNeg, cI, oIx, asSeq, oInt, oAbs, oLen, oMax2, oMin2, oDivmod, oIsi, tyD, okCell, truthD, mFrz, Option.bind_some, Option.map_some, Option.bind_none, Option.map_none, cond_true, cond_false, List.map_cons, List.map_nil, List.cons_append, List.nil_append, List.getElem?_cons_zero, List.getElem?_cons_succ, List.set_cons_zero, List.set_cons_succ, List.length_cons, List.length_nil, List.replicate , e1, e2, d, eq]
  · have eq : oEq h2 (.int n') (.int n) = some false := by simp [oEq, z]
    have r := refused_ok c2 g g' (fun e => z e.symm)
    simp [rE1, rE2, mFun, line, mSeq, mAsg, mRet, mRetN, mDrop, mIfS, mTBin, mBin, mVar, mC, mCons, mNil, mTup, mLst, mLstC, mCB, mCall, mCallK, mIf, mAndV, mOrV, mNotV, mAnd, mOr, mNot, mTru, mUn, mChain, tB', mNx, mNev, mFor, mForL, mWhile, mComp, mCompL, mYes, gN, gT, gsCons, gsNil, gSubD, mApp, mPar, mPar3, mAugI, mSl, mSo, mNo, iR1, iR2, iR3, iS, iEn, iL, iT, asB, asL, asT, asLT, asInt, oB, oAdd, oSub, oMulA, oMul, oDiv, oMod, oPow, oNeg, cI, oIx, asSeq, oInt, oAbs, oLen, oMax2, oMin2, oDivmod, oIsi, tyD, okCell, truthD, mFrz, Option.bind_some, Option.map_some, Option.bind_none, Option.map_none, cond_true, cond_false, List.map_cons, List.map_nil, List.cons_append, List.nil_append, List.getElem?_cons_zero, List.getElem?_cons_succ, List.set_cons_zero, List.set_cons_succ, List.length_cons, List.length_nil, List.replicate , e1, e2, d, eq, r]
theorem right_ok {h : Cells} {q : Nat} (w : W h q 0) : ∃ h', F__law_right [.cell q] h = some (.bl true, h') ∧ (∀ ds ∈ h', cleans ds = true) ∧ h'.length = h.length := by
  obtain ⟨n, h0, e0, o, w0, l0⟩ := disc_ok w (by omega)
  obtain ⟨A1, B1, C1, b4, b5, b6, h1, e1, g1, w1, l1⟩ := turn_ok (a3 := none) (a4 := none) (a5 := none) (a6 := none) (a7 := none) w0 (by decide) o 0
  obtain ⟨A2, B2, C2, c4, c5, c6, h2, e2, g2, w2, l2⟩ := turn_ok (a3 := some (T3 A1 B1 C1)) (a4 := b4) (a5 := b5) (a6 := b6) (a7 := none) w1 (by decide) o 1
  obtain ⟨A3, B3, C3, d4, d5, d6, h3, e3, g3, w3, l3⟩ := turn_ok (a3 := some (T3 A2 B2 C2)) (a4 := c4) (a5 := c5) (a6 := c6) (a7 := none) w2 (by decide) o 2
  obtain ⟨h4, ms, e4, em, c4', l4⟩ := end_ok (a2 := some (.int 2)) (a4 := d4) (a5 := d5) (a6 := d6) (a7 := none) w3 (by decide) o g3
  have el : mForL (gN 2) rB (intsD 0 (3 : Int).toNat) ⟨[some (.cell q), some (.int n), none, none, none, none, none, none], h0⟩ = some (.nx, ⟨[some (.cell q), some (.int n), some (.int 2), some (T3 A3 B3 C3), d4, d5, d6, none], h3⟩) := by
    rw [show intsD 0 (3 : Int).toNat = [.int 0, .int 1, .int 2] from rfl]
    generalize rB = BB at *
    simp only [mForL, gN, List.set_cons_succ, List.set_cons_zero, Option.bind_some, e1, e2, e3]
  have ef : rF ⟨[some (.cell q), some (.int n), none, none, none, none, none, none], h0⟩ = some (.nx, ⟨[some (.cell q), some (.int n), some (.int 2), some (T3 A3 B3 C3), d4, d5, d6, none], h3⟩) := by
    unfold rF
    generalize rB = BB at *
    exact for_iR1 (j := 3) (h1 := h0) rfl (by decide) el
  refine ⟨h4, ?_, c4', by omega⟩
  unfold F__law_right
  rw [b_rr_eq]
  have e0' : (mAsg (mCall 1 F__law_disc (mCons (mVar 0) mNil)) (gN 1)) ⟨[some (.cell q), none, none, none, none, none, none, none], h⟩ = some (.nx, ⟨[some (.cell q), some (.int n), none, none, none, none, none, none], h0⟩) := by
    simp [mFun, line, mSeq, mAsg, mRet, mRetN, mDrop, mIfS, mTBin, mBin, mVar, mC, mCons, mNil, mTup, mLst, mLstC, mCB, mCall, mCallK, mIf, mAndV, mOrV, mNotV, mAnd, mOr, mNot, mTru, mUn, mChain, tB', mNx, mNev, mFor, mForL, mWhile, mComp, mCompL, mYes, gN, gT, gsCons, gsNil, gSubD, mApp, mPar, mPar3, mAugI, mSl, mSo, mNo, iR1, iR2, iR3, iS, iEn, iL, iT, asB, asL, asT, asLT, asInt, oB, oAdd, oSub, oMulA, oMul, oDiv, oMod, oPow, oNeg, cI, oEq, oNe, oIx, asSeq, oInt, oAbs, oLen, oMax2, oMin2, oDivmod, oIsi, tyD, okCell, truthD, mFrz, Option.bind_some, Option.map_some, Option.bind_none, Option.map_none, cond_true, cond_false, List.map_cons, List.map_nil, List.cons_append, List.nil_append, List.getElem?_cons_zero, List.getElem?_cons_succ, List.set_cons_zero, List.set_cons_succ, List.length_cons, List.length_nil, List.replicate , e0]
  show ((mSeq _ _) ⟨[some (.cell q), none, none, none, none, none, none, none], h⟩).bind _ = _
  rw [seq_nx e0', seq_nx ef, e4]
  simp [em]
end Law

set_option Elab.async false
set_option linter.all false
set_option maxRecDepth 100000
set_option maxHeartbeats 4000000
namespace Law
open PySem L2 Zm
noncomputable abbrev laE : ME := (mCall 1 F__law_right (mCons (mCall 2 F__law_well (mCons (mVar 0) (mCons (mVar 1) mNil))) mNil))
noncomputable abbrev laC : ME := (mComp (iR1 (mCons (mCB oMax2 (mCons (mC (.int 2)) (mCons (mCB oMin2 (mCons (mCB oLen (mCons (mVar 0) mNil)) (mCons (mC (.int 3)) mNil))) mNil))) mNil)) (gN 1) mYes laE [1])
theorem b_la_eq : b_law = (mRet (mCB oAll (mCons laC mNil))) := rfl
theorem la_loop (ns : List Int) (hns : ns.length ≤ 63) : ∀ (l : List Nat), (∀ x ∈ l, x ≤ 10) → ∀ (h : Cells), (∀ ds ∈ h, cleans ds = true) → ∃ h', mCompL (gN 1) mYes laE [some (.frl (ns.map D.int)), none] (l.map fun (x : Nat) => D.int x) h = some (l.map fun _ => D.bl true, h')
  | [], _, h, _ => ⟨h, rfl⟩
  | x :: l, hl, h, hc => by
    obtain ⟨a, m, e1, w⟩ := well_ok ns hns x (hl x List.mem_cons_self) h hc
    obtain ⟨h2, e2, c2, l2⟩ := right_ok w
    obtain ⟨h3, e3⟩ := la_loop ns hns l (fun y hy => hl y (List.mem_cons_of_mem _ hy)) h2 c2
    refine ⟨h3, ?_⟩
    have ee : laE ⟨[some (.frl (ns.map D.int)), some (.int x)], h⟩ = some (.bl true, h2) := by
      generalize ns.map D.int = L at *
      simp [laE, mFun, line, mSeq, mAsg, mRet, mRetN, mDrop, mIfS, mTBin, mBin, mVar, mC, mCons, mNil, mTup, mLst, mLstC, mCB, mCall, mCallK, mIf, mAndV, mOrV, mNotV, mAnd, mOr, mNot, mTru, mUn, mChain, tB', mNx, mNev, mFor, mForL, mWhile, mComp, mCompL, mYes, gN, gT, gsCons, gsNil, gSubD, mApp, mPar, mPar3, mAugI, mSl, mSo, mNo, iR1, iR2, iR3, iS, iEn, iL, iT, asB, asL, asT, asLT, asInt, oB, oAdd, oSub, oMulA, oMul, oDiv, oMod, oPow, oNeg, cI, oEq, oNe, oIx, asSeq, oInt, oAbs, oLen, oMax2, oMin2, oDivmod, oIsi, tyD, okCell, truthD, mFrz, Option.bind_some, Option.map_some, Option.bind_none, Option.map_none, cond_true, cond_false, List.map_cons, List.map_nil, List.cons_append, List.nil_append, List.getElem?_cons_zero, List.getElem?_cons_succ, List.set_cons_zero, List.set_cons_succ, List.length_cons, List.length_nil, List.replicate , e1, e2]
    generalize laE = E at *
    simp only [List.map_cons, mCompL, gN, mYes, Option.bind_some, cond_true, List.set_cons_zero, List.set_cons_succ, ee, e3, Option.map_some]
theorem mComp_eq {f : MI} {g : MG} {t : MT} {e : ME} {vs : List Nat} {ms : MS} {ds q : List D} {h1 h2 : Cells} (e1 : f ms = some (ds, h1)) (e2 : mCompL g t e (wipeD ms.s vs) ds h1 = some (q, h2)) (e3 : decide (q.length ≤ line) = true) : mComp f g t e vs ms = some (.lst q, h2) := by
  unfold mComp
  rw [e1]
  simp only [Option.bind_some]
  rw [e2]
  simp only [Option.bind_some]
  rw [e3]
  simp only [cond_true]
theorem la_ec {ns : List Int} {h' : Cells} {k : Nat} {M : Int} (hm2 : oMin2 [] [.int ns.length, .int 3] = some (.int M)) (hk2 : oMax2 [] [.int 2, .int M] = some (.int k)) (hk : k ≤ 3) (E : ME) (e : mCompL (gN 1) mYes E [some (.frl (ns.map D.int)), none] ((List.range k).map fun (x : Nat) => D.int x) [] = some ((List.range k).map fun _ => D.bl true, h')) : mComp (iR1 (mCons (mCB oMax2 (mCons (mC (.int 2)) (mCons (mCB oMin2 (mCons (mCB oLen (mCons (mVar 0) mNil)) (mCons (mC (.int 3)) mNil))) mNil))) mNil)) (gN 1) mYes E [1] ⟨[some (.frl (ns.map D.int)), none], []⟩ = some (.lst ((List.range k).map fun _ => D.bl true), h') := by
  have big : big62 (k : Int) = true := decide_eq_true (by omega)
  have ek : intsD 0 k = (List.range k).map fun (x : Nat) => D.int x := by simp [intsD]
  have tk : ((k : Int)).toNat = k := Int.toNat_natCast k
  have hlen : ((List.range k).map fun (_ : Nat) => D.bl true).length ≤ line := by
    rw [List.length_map, List.length_range]; show k ≤ 16777216; omega
  have ln : (ns.map D.int).length = ns.length := List.length_map _
  have e : mCompL (gN 1) mYes E [some (.frl (ns.map D.int)), none] (intsD 0 (k : Int).toNat) [] = some ((List.range k).map fun _ => D.bl true, h') := by rw [tk, ek]; exact e
  refine mComp_eq (h1 := []) (iR1_eq (j := (k : Int)) ?_ big) e (decide_eq_true hlen)
  generalize ns.map D.int = L at *
  simp only [mCons, mNil, mC, mCB, mVar, oLen, List.getElem?_cons_zero, Option.bind_some, Option.map_some, ln, hm2, hk2]
theorem la_all : ∀ l : List Nat, asBs (l.map fun _ => D.bl true) = some (l.map fun _ => true)
  | [] => rfl
  | x :: r => by
    have := la_all r
    simp [asBs, Zm.asB, this]
theorem la_fin {C : ME} {L : List D} {B : List D} {T : List Bool} {h' : Cells} (ec : C ⟨[some (.frl L), none], []⟩ = some (.lst B, h')) (ah : asBs B = some T) (at' : T.all id = true) : mFun 2 1 (mRet (mCB oAll (mCons C mNil))) [.frl L] [] = some (.bl true, h') := by
  simp [mFun, mRet, mCB, mCons, mNil, oAll, asL, ec, ah, at', line]
theorem minmax (n : Nat) : ∃ (M : Int) (k : Nat), oMin2 [] [.int n, .int 3] = some (.int M) ∧ oMax2 [] [.int 2, .int M] = some (.int k) ∧ k ≤ 3 := by
  refine ⟨if (3 : Int) < n then 3 else n, ?_⟩
  by_cases z : (3 : Int) < n
  · refine ⟨3, rfl, ?_, by omega⟩
    simp [oMax2, z]
  · by_cases y : (n : Int) > 2
    · refine ⟨n, rfl, ?_, by omega⟩
      simp only [oMax2, if_neg z, if_pos y]
    · refine ⟨2, rfl, ?_, by omega⟩
      simp only [oMax2, if_neg z, if_neg y]; rfl
theorem main : ∀ ns : List Int, ns.length ≤ 63 → ∃ h', F_law [.frl (ns.map D.int)] [] = some (.bl true, h') := by
  intro ns hns
  obtain ⟨M, k, hm2, hk2, hk⟩ := minmax ns.length
  obtain ⟨h', e⟩ := la_loop ns hns (List.range k) (fun x hx => by rw [List.mem_range] at hx; omega) [] (fun _ hd => by cases hd)
  exact ⟨h', la_fin (C := laC) (la_ec hm2 hk2 hk laE e) (la_all _) (by simp)⟩
end Law

set_option maxHeartbeats 4000000
namespace Law
open PySem L2 Zm
theorem law_ok {P : Program} {w : World} {K : PySem.W.Frag} {mg : Str → Option Value} {base : Heap} {cls : Str → Addr} (T : Top P K mg cls) {f : Addr} {fd : FuncData} (F : Fun K "law" "law" s_law f fd) : FnG P w K mg base CX0 11 f fd ["script"] (spF K 1 F_law) := by
  have A := all (P := P) (w := w) (base := base) T
  exact ok_law T.B F A.d__law_right A.d__law_well
def mkCls : List (Str × Addr) → Str → Addr
  | [], _ => default
  | (n, a) :: r, s => bif decide (s = n) then a else mkCls r s
/-- what the written part says of a class under ClassError -/
structure ClsF (file : Str) (K : PySem.W.Frag) (mg : Str → Option Value) (cn : Str) (C CB : Addr) : Prop where
  ex : ∃ fI, PySem.SupX.SupTxt file K mg cn "given" C fI
  kC : PySem.W.keepIn K (.ref C) = true
  exC : PySem.W.subIn K (.ref C) (.type "BaseException") = some true
  tyC : PySem.W.typeIn K (.ref C) = some (.type "type")
  ga : PySem.W.findIn K (.ref C) "__getattribute__" = some (some (.builtin "BaseException.__getattribute__"))
  gg : PySem.W.findIn K (.ref C) "__getattr__" = some none
  hdC : PySem.W.hasDictIn K C = true
theorem all_mk {l : PySem.W.OpenLaw} {w : World} {K : PySem.W.Frag} {h : Heap} {mg : Str → Option Value} {fa : Addr} (X : K.In h) (G : h.Ns mainGlobals mg) (hfa : mg "law" = some (.ref fa))
    {f0 f1 f2 f3 f4 f5 f6 f7 f8 f9 f10 f11 f12 f13 f14 f15 f16 f17 f18 f19 f20 f21 f22 f23 f24 f25 f26 f27 f28 f29 f30 f31 f32 f33 f34 f35 f36 f37 f38 f39 f40 f41 f42 f43 f44 f45 f46 f47 : Addr} {od0 an0 od1 an1 od2 an2 od3 an3 od4 an4 od5 an5 od6 an6 od7 an7 od8 an8 od9 an9 od10 an10 od11 an11 od12 an12 od13 an13 od14 an14 od15 an15 od16 an16 od17 an17 od18 an18 od19 an19 od20 an20 od21 an21 od22 an22 od23 an23 od24 an24 od25 an25 od26 an26 od27 an27 od28 an28 od29 an29 od30 an30 od31 an31 od32 an32 od33 an33 od34 an34 od35 an35 od36 an36 od37 an37 od38 an38 od39 an39 od40 an40 od41 an41 od42 an42 od43 an43 od44 an44 od45 an45 od46 an46 od47 an47 : Option Addr} {sl0 sl1 sl2 sl3 sl4 sl5 sl6 sl7 sl8 sl9 sl10 sl11 sl12 sl13 sl14 sl15 sl16 sl17 sl18 sl19 sl20 sl21 sl22 sl23 sl24 sl25 sl26 sl27 sl28 sl29 sl30 sl31 sl32 sl33 sl34 sl35 sl36 sl37 sl38 sl39 sl40 sl41 sl42 sl43 sl44 sl45 sl46 sl47 : Array (Option Value)}
    {oc0 kV0 dc0 pm0 cd0 ct0 oc1 kV1 dc1 pm1 cd1 ct1 oc2 kV2 dc2 pm2 cd2 ct2 oc3 kV3 dc3 pm3 cd3 ct3 oc4 kV4 dc4 pm4 cd4 ct4 oc5 kV5 dc5 pm5 cd5 ct5 oc6 kV6 dc6 pm6 cd6 ct6 oc7 kV7 dc7 pm7 cd7 ct7 oc8 kV8 dc8 pm8 cd8 ct8 oc9 kV9 dc9 pm9 cd9 ct9 oc10 kV10 dc10 pm10 cd10 ct10 oc11 kV11 dc11 pm11 cd11 ct11 oc12 kV12 dc12 pm12 cd12 ct12 oc13 kV13 dc13 pm13 cd13 ct13 oc14 kV14 dc14 pm14 cd14 ct14 oc15 kV15 dc15 pm15 cd15 ct15 oc16 kV16 dc16 pm16 cd16 ct16 oc17 kV17 dc17 pm17 cd17 ct17 oc18 kV18 dc18 pm18 cd18 ct18 oc19 kV19 dc19 pm19 cd19 ct19 oc20 kV20 dc20 pm20 cd20 ct20 oc21 kV21 dc21 pm21 cd21 ct21 oc22 kV22 dc22 pm22 cd22 ct22 oc23 kV23 dc23 pm23 cd23 ct23 oc24 kV24 dc24 pm24 cd24 ct24 oc25 kV25 dc25 pm25 cd25 ct25 oc26 kV26 dc26 pm26 cd26 ct26 oc27 kV27 dc27 pm27 cd27 ct27 oc28 kV28 dc28 pm28 cd28 ct28 oc29 kV29 dc29 pm29 cd29 ct29 oc30 kV30 dc30 pm30 cd30 ct30 oc31 kV31 dc31 pm31 cd31 ct31 oc32 kV32 dc32 pm32 cd32 ct32 oc33 kV33 dc33 pm33 cd33 ct33 oc34 kV34 dc34 pm34 cd34 ct34 oc35 kV35 dc35 pm35 cd35 ct35 oc36 kV36 dc36 pm36 cd36 ct36 oc37 kV37 dc37 pm37 cd37 ct37 oc38 kV38 dc38 pm38 cd38 ct38 oc39 kV39 dc39 pm39 cd39 ct39 oc40 kV40 dc40 pm40 cd40 ct40 oc41 kV41 dc41 pm41 cd41 ct41 oc42 kV42 dc42 pm42 cd42 ct42 oc43 kV43 dc43 pm43 cd43 ct43 oc44 kV44 dc44 pm44 cd44 ct44 oc45 kV45 dc45 pm45 cd45 ct45 oc46 kV46 dc46 pm46 cd46 ct46 oc47 kV47 dc47 pm47 cd47 ct47 : Value}
    {CB : Addr}
    {C_0 fI_0 cda_0 cc_0 : Addr} {nm_0 q_0 qual_0 msg_0 : Str} {N_0 : Addr} {bs_0 sub_0 : List Value} {sn_0 : List Str} {ab_0 : Bool} {col_0 : Option Bool} {dd_0 od_0 an_0 cdd_0 cld_0 : Option Addr} {k0_0 k1_0 k2_0 k3_0 k5_0 : Option Value} {oc_0 doc_0 pm_0 ct_0 ccl_0 cl_0 : Value} {osl_0 ccs_0 csl_0 : Array (Option Value)} {vs_0 : Array Value} {tf_0 : Tok} {p1_0 p2_0 q1_0 q2_0 q3_0 q4_0 q5_0 q6_0 r1_0 r2_0 r3_0 r4_0 : Pos}
    (cb : PySem.W.nsIn K mainGlobals "ClassError" = some (some (.ref CB)))
    (zsup : PySem.W.nsIn K mainGlobals "super" = some none) (opn : PySem.W.nsIn K cStatics "thirdparty.any" = some none) (hmain : (l.prog.main.scope.names.lookup ("super" : Str)).isSome = false)
    (ca_0 : PySem.W.nsIn K mainGlobals "OtherDiscriminant" = some (some (.ref C_0))) (cx_0 : K.lookup C_0 = some (excClassObj nm_0 q_0 C_0 N_0 bs_0 [.ref CB, .type "ValueError", .type "Exception", .type "BaseException", .type "object"] true sn_0 sub_0 ab_0 col_0 dd_0 k0_0 k1_0 k2_0 k3_0 k5_0 "ValueError.__new__")) (sa_0 : PySem.W.findIn K (.ref C_0) "__setattr__" = some (some (.builtin "object.__setattr__"))) (ga_0 : PySem.W.findIn K (.ref C_0) "__getattribute__" = some (some (.builtin "BaseException.__getattribute__"))) (gg_0 : PySem.W.findIn K (.ref C_0) "__getattr__" = some none) (no_0 : PySem.W.findIn K (.ref C_0) "given" = some none) (ini_0 : PySem.W.findIn K (.ref C_0) "__init__" = some (some (.ref fI_0))) (ti_0 : PySem.W.typeIn K (.ref fI_0) = some (.type "function")) (xi_0 : PySem.W.excInitIn K C_0 [.type "ValueError", .type "Exception", .type "BaseException", .type "object"] "ValueError.__new__" = true) (su_0 : PySem.W.ks_superIn K C_0 C_0 "__init__" = some (some (.builtin "ValueError.__init__"))) (sb_0 : PySem.W.subIn K (.ref C_0) (.type "ValueError") = some true) (mr_0 : PySem.W.mroIn K C_0 (.ref C_0) = some true) (fl_0 : K.lookup fI_0 = some ⟨oc_0, od_0, .func (PySem.W.ksFn "__init__" qual_0 (PySem.SupX.iA "given" p1_0 p2_0) (PySem.SupX.iB "given" msg_0 q1_0 q2_0 q3_0 q4_0 q5_0 q6_0 r1_0 r2_0 r3_0 r4_0) (PySem.SupX.iS "given") .none .none doc_0 pm_0 an_0 (.ref cda_0) ct_0 cc_0), osl_0⟩) (fc_0 : PySem.W.codeIn K (.ref cda_0) qual_0 = true) (ln_0 : (q3_0.endLine == q5_0.line) = true) (cd_0 : K.lookup cda_0 = some ⟨ccl_0, cdd_0, .fields vs_0, ccs_0⟩) (cv_0 : vs_0[2]? = some (.str l.prog.main.file tf_0)) (ce_0 : K.lookup cc_0 = some ⟨cl_0, cld_0, .cell (some (.ref C_0)), csl_0⟩) (kc_0 : PySem.W.keepIn K (.ref C_0) = true) (ec_0 : PySem.W.subIn K (.ref C_0) (.type "BaseException") = some true) (ty_0 : PySem.W.typeIn K (.ref C_0) = some (.type "type")) (hd_0 : PySem.W.hasDictIn K C_0 = true)
    (xm_0_0 : PySem.W.subIn K (.ref C_0) (.ref C_0) = some true)
    (a0 : PySem.W.nsIn K mainGlobals "is_whole" = some (some (.ref f0))) (l0 : K.lookup f0 = some ⟨oc0, od0, .func (PySem.W.fnOf "is_whole" "is_whole" (defArgs s_is_whole) (defBody s_is_whole) (defScope s_is_whole) .none kV0 dc0 pm0 an0 cd0 ct0), sl0⟩) (c0 : PySem.W.codeIn K cd0 "is_whole" = true) (k0 : PySem.W.keepIn K (.ref f0) = true)
    (a1 : PySem.W.nsIn K mainGlobals "are_whole" = some (some (.ref f1))) (l1 : K.lookup f1 = some ⟨oc1, od1, .func (PySem.W.fnOf "are_whole" "are_whole" (defArgs s_are_whole) (defBody s_are_whole) (defScope s_are_whole) .none kV1 dc1 pm1 an1 cd1 ct1), sl1⟩) (c1 : PySem.W.codeIn K cd1 "are_whole" = true) (k1 : PySem.W.keepIn K (.ref f1) = true)
    (a2 : PySem.W.nsIn K mainGlobals "is_whole_between" = some (some (.ref f2))) (l2 : K.lookup f2 = some ⟨oc2, od2, .func (PySem.W.fnOf "is_whole_between" "is_whole_between" (defArgs s_is_whole_between) (defBody s_is_whole_between) (defScope s_is_whole_between) .none kV2 dc2 pm2 an2 cd2 ct2), sl2⟩) (c2 : PySem.W.codeIn K cd2 "is_whole_between" = true) (k2 : PySem.W.keepIn K (.ref f2) = true)
    (a3 : PySem.W.nsIn K mainGlobals "is_discriminant" = some (some (.ref f3))) (l3 : K.lookup f3 = some ⟨oc3, od3, .func (PySem.W.fnOf "is_discriminant" "is_discriminant" (defArgs s_is_discriminant) (defBody s_is_discriminant) (defScope s_is_discriminant) .none kV3 dc3 pm3 an3 cd3 ct3), sl3⟩) (c3 : PySem.W.codeIn K cd3 "is_discriminant" = true) (k3 : PySem.W.keepIn K (.ref f3) = true)
    (a4 : PySem.W.nsIn K mainGlobals "is_form" = some (some (.ref f4))) (l4 : K.lookup f4 = some ⟨oc4, od4, .func (PySem.W.fnOf "is_form" "is_form" (defArgs s_is_form) (defBody s_is_form) (defScope s_is_form) .none kV4 dc4 pm4 an4 cd4 ct4), sl4⟩) (c4 : PySem.W.codeIn K cd4 "is_form" = true) (k4 : PySem.W.keepIn K (.ref f4) = true)
    (a5 : PySem.W.nsIn K mainGlobals "check_form" = some (some (.ref f5))) (l5 : K.lookup f5 = some ⟨oc5, od5, .func (PySem.W.fnOf "check_form" "check_form" (defArgs s_check_form) (defBody s_check_form) (defScope s_check_form) .none kV5 dc5 pm5 an5 cd5 ct5), sl5⟩) (c5 : PySem.W.codeIn K cd5 "check_form" = true) (k5 : PySem.W.keepIn K (.ref f5) = true)
    (a6 : PySem.W.nsIn K mainGlobals "centring" = some (some (.ref f6))) (l6 : K.lookup f6 = some ⟨oc6, od6, .func (PySem.W.fnOf "centring" "centring" (defArgs s_centring) (defBody s_centring) (defScope s_centring) .none kV6 dc6 pm6 an6 cd6 ct6), sl6⟩) (c6 : PySem.W.codeIn K cd6 "centring" = true) (k6 : PySem.W.keepIn K (.ref f6) = true)
    (a7 : PySem.W.nsIn K mainGlobals "value_at" = some (some (.ref f7))) (l7 : K.lookup f7 = some ⟨oc7, od7, .func (PySem.W.fnOf "value_at" "value_at" (defArgs s_value_at) (defBody s_value_at) (defScope s_value_at) .none kV7 dc7 pm7 an7 cd7 ct7), sl7⟩) (c7 : PySem.W.codeIn K cd7 "value_at" = true) (k7 : PySem.W.keepIn K (.ref f7) = true)
    (a8 : PySem.W.nsIn K mainGlobals "led_by" = some (some (.ref f8))) (l8 : K.lookup f8 = some ⟨oc8, od8, .func (PySem.W.fnOf "led_by" "led_by" (defArgs s_led_by) (defBody s_led_by) (defScope s_led_by) .none kV8 dc8 pm8 an8 cd8 ct8), sl8⟩) (c8 : PySem.W.codeIn K cd8 "led_by" = true) (k8 : PySem.W.keepIn K (.ref f8) = true)
    (a9 : PySem.W.nsIn K mainGlobals "is_reduced" = some (some (.ref f9))) (l9 : K.lookup f9 = some ⟨oc9, od9, .func (PySem.W.fnOf "is_reduced" "is_reduced" (defArgs s_is_reduced) (defBody s_is_reduced) (defScope s_is_reduced) .none kV9 dc9 pm9 an9 cd9 ct9), sl9⟩) (c9 : PySem.W.codeIn K cd9 "is_reduced" = true) (k9 : PySem.W.keepIn K (.ref f9) = true)
    (a10 : PySem.W.nsIn K mainGlobals "joined" = some (some (.ref f10))) (l10 : K.lookup f10 = some ⟨oc10, od10, .func (PySem.W.fnOf "joined" "joined" (defArgs s_joined) (defBody s_joined) (defScope s_joined) .none kV10 dc10 pm10 an10 cd10 ct10), sl10⟩) (c10 : PySem.W.codeIn K cd10 "joined" = true) (k10 : PySem.W.keepIn K (.ref f10) = true)
    (a11 : PySem.W.nsIn K mainGlobals "reduction" = some (some (.ref f11))) (l11 : K.lookup f11 = some ⟨oc11, od11, .func (PySem.W.fnOf "reduction" "reduction" (defArgs s_reduction) (defBody s_reduction) (defScope s_reduction) .none kV11 dc11 pm11 an11 cd11 ct11), sl11⟩) (c11 : PySem.W.codeIn K cd11 "reduction" = true) (k11 : PySem.W.keepIn K (.ref f11) = true)
    (a12 : PySem.W.nsIn K mainGlobals "place_without" = some (some (.ref f12))) (l12 : K.lookup f12 = some ⟨oc12, od12, .func (PySem.W.fnOf "place_without" "place_without" (defArgs s_place_without) (defBody s_place_without) (defScope s_place_without) .none kV12 dc12 pm12 an12 cd12 ct12), sl12⟩) (c12 : PySem.W.codeIn K cd12 "place_without" = true) (k12 : PySem.W.keepIn K (.ref f12) = true)
    (a13 : PySem.W.nsIn K mainGlobals "bezout" = some (some (.ref f13))) (l13 : K.lookup f13 = some ⟨oc13, od13, .func (PySem.W.fnOf "bezout" "bezout" (defArgs s_bezout) (defBody s_bezout) (defScope s_bezout) .none kV13 dc13 pm13 an13 cd13 ct13), sl13⟩) (c13 : PySem.W.codeIn K cd13 "bezout" = true) (k13 : PySem.W.keepIn K (.ref f13) = true)
    (a14 : PySem.W.nsIn K mainGlobals "change_to_lead_without" = some (some (.ref f14))) (l14 : K.lookup f14 = some ⟨oc14, od14, .func (PySem.W.fnOf "change_to_lead_without" "change_to_lead_without" (defArgs s_change_to_lead_without) (defBody s_change_to_lead_without) (defScope s_change_to_lead_without) .none kV14 dc14 pm14 an14 cd14 ct14), sl14⟩) (c14 : PySem.W.codeIn K cd14 "change_to_lead_without" = true) (k14 : PySem.W.keepIn K (.ref f14) = true)
    (a15 : PySem.W.nsIn K mainGlobals "uniting" = some (some (.ref f15))) (l15 : K.lookup f15 = some ⟨oc15, od15, .func (PySem.W.fnOf "uniting" "uniting" (defArgs s_uniting) (defBody s_uniting) (defScope s_uniting) .none kV15 dc15 pm15 an15 cd15 ct15), sl15⟩) (c15 : PySem.W.codeIn K cd15 "uniting" = true) (k15 : PySem.W.keepIn K (.ref f15) = true)
    (a16 : PySem.W.nsIn K mainGlobals "columns" = some (some (.ref f16))) (l16 : K.lookup f16 = some ⟨oc16, od16, .func (PySem.W.fnOf "columns" "columns" (defArgs s_columns) (defBody s_columns) (defScope s_columns) .none kV16 dc16 pm16 an16 cd16 ct16), sl16⟩) (c16 : PySem.W.codeIn K cd16 "columns" = true) (k16 : PySem.W.keepIn K (.ref f16) = true)
    (a17 : PySem.W.nsIn K mainGlobals "discriminant_of" = some (some (.ref f17))) (l17 : K.lookup f17 = some ⟨oc17, od17, .func (PySem.W.fnOf "discriminant_of" "discriminant_of" (defArgs s_discriminant_of) (defBody s_discriminant_of) (defScope s_discriminant_of) .none kV17 dc17 pm17 an17 cd17 ct17), sl17⟩) (c17 : PySem.W.codeIn K cd17 "discriminant_of" = true) (k17 : PySem.W.keepIn K (.ref f17) = true)
    (a18 : PySem.W.nsIn K mainGlobals "inverse" = some (some (.ref f18))) (l18 : K.lookup f18 = some ⟨oc18, od18, .func (PySem.W.fnOf "inverse" "inverse" (defArgs s_inverse) (defBody s_inverse) (defScope s_inverse) .none kV18 dc18 pm18 an18 cd18 ct18), sl18⟩) (c18 : PySem.W.codeIn K cd18 "inverse" = true) (k18 : PySem.W.keepIn K (.ref f18) = true)
    (a19 : PySem.W.nsIn K mainGlobals "composing_numbers" = some (some (.ref f19))) (l19 : K.lookup f19 = some ⟨oc19, od19, .func (PySem.W.fnOf "composing_numbers" "composing_numbers" (defArgs s_composing_numbers) (defBody s_composing_numbers) (defScope s_composing_numbers) .none kV19 dc19 pm19 an19 cd19 ct19), sl19⟩) (c19 : PySem.W.codeIn K cd19 "composing_numbers" = true) (k19 : PySem.W.keepIn K (.ref f19) = true)
    (a20 : PySem.W.nsIn K mainGlobals "reduced" = some (some (.ref f20))) (l20 : K.lookup f20 = some ⟨oc20, od20, .func (PySem.W.fnOf "reduced" "reduced" (defArgs s_reduced) (defBody s_reduced) (defScope s_reduced) .none kV20 dc20 pm20 an20 cd20 ct20), sl20⟩) (c20 : PySem.W.codeIn K cd20 "reduced" = true) (k20 : PySem.W.keepIn K (.ref f20) = true)
    (a21 : PySem.W.nsIn K mainGlobals "composed" = some (some (.ref f21))) (l21 : K.lookup f21 = some ⟨oc21, od21, .func (PySem.W.fnOf "composed" "composed" (defArgs s_composed) (defBody s_composed) (defScope s_composed) .none kV21 dc21 pm21 an21 cd21 ct21), sl21⟩) (c21 : PySem.W.codeIn K cd21 "composed" = true) (k21 : PySem.W.keepIn K (.ref f21) = true)
    (a22 : PySem.W.nsIn K mainGlobals "_law_draw" = some (some (.ref f22))) (l22 : K.lookup f22 = some ⟨oc22, od22, .func (PySem.W.fnOf "_law_draw" "_law_draw" (defArgs s__law_draw) (defBody s__law_draw) (defScope s__law_draw) .none kV22 dc22 pm22 an22 cd22 ct22), sl22⟩) (c22 : PySem.W.codeIn K cd22 "_law_draw" = true) (k22 : PySem.W.keepIn K (.ref f22) = true)
    (a23 : PySem.W.nsIn K mainGlobals "_law_one" = some (some (.ref f23))) (l23 : K.lookup f23 = some ⟨oc23, od23, .func (PySem.W.fnOf "_law_one" "_law_one" (defArgs s__law_one) (defBody s__law_one) (defScope s__law_one) .none kV23 dc23 pm23 an23 cd23 ct23), sl23⟩) (c23 : PySem.W.codeIn K cd23 "_law_one" = true) (k23 : PySem.W.keepIn K (.ref f23) = true)
    (a24 : PySem.W.nsIn K mainGlobals "_law_disc" = some (some (.ref f24))) (l24 : K.lookup f24 = some ⟨oc24, od24, .func (PySem.W.fnOf "_law_disc" "_law_disc" (defArgs s__law_disc) (defBody s__law_disc) (defScope s__law_disc) .none kV24 dc24 pm24 an24 cd24 ct24), sl24⟩) (c24 : PySem.W.codeIn K cd24 "_law_disc" = true) (k24 : PySem.W.keepIn K (.ref f24) = true)
    (a25 : PySem.W.nsIn K mainGlobals "_law_value" = some (some (.ref f25))) (l25 : K.lookup f25 = some ⟨oc25, od25, .func (PySem.W.fnOf "_law_value" "_law_value" (defArgs s__law_value) (defBody s__law_value) (defScope s__law_value) .none kV25 dc25 pm25 an25 cd25 ct25), sl25⟩) (c25 : PySem.W.codeIn K cd25 "_law_value" = true) (k25 : PySem.W.keepIn K (.ref f25) = true)
    (a26 : PySem.W.nsIn K mainGlobals "_law_led" = some (some (.ref f26))) (l26 : K.lookup f26 = some ⟨oc26, od26, .func (PySem.W.fnOf "_law_led" "_law_led" (defArgs s__law_led) (defBody s__law_led) (defScope s__law_led) .none kV26 dc26 pm26 an26 cd26 ct26), sl26⟩) (c26 : PySem.W.codeIn K cd26 "_law_led" = true) (k26 : PySem.W.keepIn K (.ref f26) = true)
    (a27 : PySem.W.nsIn K mainGlobals "_law_both" = some (some (.ref f27))) (l27 : K.lookup f27 = some ⟨oc27, od27, .func (PySem.W.fnOf "_law_both" "_law_both" (defArgs s__law_both) (defBody s__law_both) (defScope s__law_both) .none kV27 dc27 pm27 an27 cd27 ct27), sl27⟩) (c27 : PySem.W.codeIn K cd27 "_law_both" = true) (k27 : PySem.W.keepIn K (.ref f27) = true)
    (a28 : PySem.W.nsIn K mainGlobals "_law_change" = some (some (.ref f28))) (l28 : K.lookup f28 = some ⟨oc28, od28, .func (PySem.W.fnOf "_law_change" "_law_change" (defArgs s__law_change) (defBody s__law_change) (defScope s__law_change) .none kV28 dc28 pm28 an28 cd28 ct28), sl28⟩) (c28 : PySem.W.codeIn K cd28 "_law_change" = true) (k28 : PySem.W.keepIn K (.ref f28) = true)
    (a29 : PySem.W.nsIn K mainGlobals "_law_root" = some (some (.ref f29))) (l29 : K.lookup f29 = some ⟨oc29, od29, .func (PySem.W.fnOf "_law_root" "_law_root" (defArgs s__law_root) (defBody s__law_root) (defScope s__law_root) .none kV29 dc29 pm29 an29 cd29 ct29), sl29⟩) (c29 : PySem.W.codeIn K cd29 "_law_root" = true) (k29 : PySem.W.keepIn K (.ref f29) = true)
    (a30 : PySem.W.nsIn K mainGlobals "_law_is_whole" = some (some (.ref f30))) (l30 : K.lookup f30 = some ⟨oc30, od30, .func (PySem.W.fnOf "_law_is_whole" "_law_is_whole" (defArgs s__law_is_whole) (defBody s__law_is_whole) (defScope s__law_is_whole) .none kV30 dc30 pm30 an30 cd30 ct30), sl30⟩) (c30 : PySem.W.codeIn K cd30 "_law_is_whole" = true) (k30 : PySem.W.keepIn K (.ref f30) = true)
    (a31 : PySem.W.nsIn K mainGlobals "_law_is_discriminant" = some (some (.ref f31))) (l31 : K.lookup f31 = some ⟨oc31, od31, .func (PySem.W.fnOf "_law_is_discriminant" "_law_is_discriminant" (defArgs s__law_is_discriminant) (defBody s__law_is_discriminant) (defScope s__law_is_discriminant) .none kV31 dc31 pm31 an31 cd31 ct31), sl31⟩) (c31 : PySem.W.codeIn K cd31 "_law_is_discriminant" = true) (k31 : PySem.W.keepIn K (.ref f31) = true)
    (a32 : PySem.W.nsIn K mainGlobals "_law_disc_of" = some (some (.ref f32))) (l32 : K.lookup f32 = some ⟨oc32, od32, .func (PySem.W.fnOf "_law_disc_of" "_law_disc_of" (defArgs s__law_disc_of) (defBody s__law_disc_of) (defScope s__law_disc_of) .none kV32 dc32 pm32 an32 cd32 ct32), sl32⟩) (c32 : PySem.W.codeIn K cd32 "_law_disc_of" = true) (k32 : PySem.W.keepIn K (.ref f32) = true)
    (a33 : PySem.W.nsIn K mainGlobals "_law_gcd" = some (some (.ref f33))) (l33 : K.lookup f33 = some ⟨oc33, od33, .func (PySem.W.fnOf "_law_gcd" "_law_gcd" (defArgs s__law_gcd) (defBody s__law_gcd) (defScope s__law_gcd) .none kV33 dc33 pm33 an33 cd33 ct33), sl33⟩) (c33 : PySem.W.codeIn K cd33 "_law_gcd" = true) (k33 : PySem.W.keepIn K (.ref f33) = true)
    (a34 : PySem.W.nsIn K mainGlobals "_law_is_form" = some (some (.ref f34))) (l34 : K.lookup f34 = some ⟨oc34, od34, .func (PySem.W.fnOf "_law_is_form" "_law_is_form" (defArgs s__law_is_form) (defBody s__law_is_form) (defScope s__law_is_form) .none kV34 dc34 pm34 an34 cd34 ct34), sl34⟩) (c34 : PySem.W.codeIn K cd34 "_law_is_form" = true) (k34 : PySem.W.keepIn K (.ref f34) = true)
    (a35 : PySem.W.nsIn K mainGlobals "_law_is_reduced" = some (some (.ref f35))) (l35 : K.lookup f35 = some ⟨oc35, od35, .func (PySem.W.fnOf "_law_is_reduced" "_law_is_reduced" (defArgs s__law_is_reduced) (defBody s__law_is_reduced) (defScope s__law_is_reduced) .none kV35 dc35 pm35 an35 cd35 ct35), sl35⟩) (c35 : PySem.W.codeIn K cd35 "_law_is_reduced" = true) (k35 : PySem.W.keepIn K (.ref f35) = true)
    (a36 : PySem.W.nsIn K mainGlobals "_law_classes" = some (some (.ref f36))) (l36 : K.lookup f36 = some ⟨oc36, od36, .func (PySem.W.fnOf "_law_classes" "_law_classes" (defArgs s__law_classes) (defBody s__law_classes) (defScope s__law_classes) .none kV36 dc36 pm36 an36 cd36 ct36), sl36⟩) (c36 : PySem.W.codeIn K cd36 "_law_classes" = true) (k36 : PySem.W.keepIn K (.ref f36) = true)
    (a37 : PySem.W.nsIn K mainGlobals "_law_form" = some (some (.ref f37))) (l37 : K.lookup f37 = some ⟨oc37, od37, .func (PySem.W.fnOf "_law_form" "_law_form" (defArgs s__law_form) (defBody s__law_form) (defScope s__law_form) .none kV37 dc37 pm37 an37 cd37 ct37), sl37⟩) (c37 : PySem.W.codeIn K cd37 "_law_form" = true) (k37 : PySem.W.keepIn K (.ref f37) = true)
    (a38 : PySem.W.nsIn K mainGlobals "_law_way_down" = some (some (.ref f38))) (l38 : K.lookup f38 = some ⟨oc38, od38, .func (PySem.W.fnOf "_law_way_down" "_law_way_down" (defArgs s__law_way_down) (defBody s__law_way_down) (defScope s__law_way_down) .none kV38 dc38 pm38 an38 cd38 ct38), sl38⟩) (c38 : PySem.W.codeIn K cd38 "_law_way_down" = true) (k38 : PySem.W.keepIn K (.ref f38) = true)
    (a39 : PySem.W.nsIn K mainGlobals "_law_reduced" = some (some (.ref f39))) (l39 : K.lookup f39 = some ⟨oc39, od39, .func (PySem.W.fnOf "_law_reduced" "_law_reduced" (defArgs s__law_reduced) (defBody s__law_reduced) (defScope s__law_reduced) .none kV39 dc39 pm39 an39 cd39 ct39), sl39⟩) (c39 : PySem.W.codeIn K cd39 "_law_reduced" = true) (k39 : PySem.W.keepIn K (.ref f39) = true)
    (a40 : PySem.W.nsIn K mainGlobals "_law_completed" = some (some (.ref f40))) (l40 : K.lookup f40 = some ⟨oc40, od40, .func (PySem.W.fnOf "_law_completed" "_law_completed" (defArgs s__law_completed) (defBody s__law_completed) (defScope s__law_completed) .none kV40 dc40 pm40 an40 cd40 ct40), sl40⟩) (c40 : PySem.W.codeIn K cd40 "_law_completed" = true) (k40 : PySem.W.keepIn K (.ref f40) = true)
    (a41 : PySem.W.nsIn K mainGlobals "_law_turned" = some (some (.ref f41))) (l41 : K.lookup f41 = some ⟨oc41, od41, .func (PySem.W.fnOf "_law_turned" "_law_turned" (defArgs s__law_turned) (defBody s__law_turned) (defScope s__law_turned) .none kV41 dc41 pm41 an41 cd41 ct41), sl41⟩) (c41 : PySem.W.codeIn K cd41 "_law_turned" = true) (k41 : PySem.W.keepIn K (.ref f41) = true)
    (a42 : PySem.W.nsIn K mainGlobals "_law_product" = some (some (.ref f42))) (l42 : K.lookup f42 = some ⟨oc42, od42, .func (PySem.W.fnOf "_law_product" "_law_product" (defArgs s__law_product) (defBody s__law_product) (defScope s__law_product) .none kV42 dc42 pm42 an42 cd42 ct42), sl42⟩) (c42 : PySem.W.codeIn K cd42 "_law_product" = true) (k42 : PySem.W.keepIn K (.ref f42) = true)
    (a43 : PySem.W.nsIn K mainGlobals "_law_is_refused" = some (some (.ref f43))) (l43 : K.lookup f43 = some ⟨oc43, od43, .func (PySem.W.fnOf "_law_is_refused" "_law_is_refused" (defArgs s__law_is_refused) (defBody s__law_is_refused) (defScope s__law_is_refused) .none kV43 dc43 pm43 an43 cd43 ct43), sl43⟩) (c43 : PySem.W.codeIn K cd43 "_law_is_refused" = true) (k43 : PySem.W.keepIn K (.ref f43) = true)
    (a44 : PySem.W.nsIn K mainGlobals "_law_does_compose" = some (some (.ref f44))) (l44 : K.lookup f44 = some ⟨oc44, od44, .func (PySem.W.fnOf "_law_does_compose" "_law_does_compose" (defArgs s__law_does_compose) (defBody s__law_does_compose) (defScope s__law_does_compose) .none kV44 dc44 pm44 an44 cd44 ct44), sl44⟩) (c44 : PySem.W.codeIn K cd44 "_law_does_compose" = true) (k44 : PySem.W.keepIn K (.ref f44) = true)
    (a45 : PySem.W.nsIn K mainGlobals "_law_right" = some (some (.ref f45))) (l45 : K.lookup f45 = some ⟨oc45, od45, .func (PySem.W.fnOf "_law_right" "_law_right" (defArgs s__law_right) (defBody s__law_right) (defScope s__law_right) .none kV45 dc45 pm45 an45 cd45 ct45), sl45⟩) (c45 : PySem.W.codeIn K cd45 "_law_right" = true) (k45 : PySem.W.keepIn K (.ref f45) = true)
    (a46 : PySem.W.nsIn K mainGlobals "_law_well" = some (some (.ref f46))) (l46 : K.lookup f46 = some ⟨oc46, od46, .func (PySem.W.fnOf "_law_well" "_law_well" (defArgs s__law_well) (defBody s__law_well) (defScope s__law_well) .none kV46 dc46 pm46 an46 cd46 ct46), sl46⟩) (c46 : PySem.W.codeIn K cd46 "_law_well" = true) (k46 : PySem.W.keepIn K (.ref f46) = true)
    (a47 : PySem.W.nsIn K mainGlobals "law" = some (some (.ref f47))) (l47 : K.lookup f47 = some ⟨oc47, od47, .func (PySem.W.fnOf "law" "law" (defArgs s_law) (defBody s_law) (defScope s_law) .none kV47 dc47 pm47 an47 cd47 ct47), sl47⟩) (c47 : PySem.W.codeIn K cd47 "law" = true) (k47 : PySem.W.keepIn K (.ref f47) = true)
    (z_abs : PySem.W.nsIn K mainGlobals "abs" = some none)
    (z_all : PySem.W.nsIn K mainGlobals "all" = some none)
    (z_bool : PySem.W.nsIn K mainGlobals "bool" = some none)
    (z_divmod : PySem.W.nsIn K mainGlobals "divmod" = some none)
    (z_int : PySem.W.nsIn K mainGlobals "int" = some none)
    (z_isinstance : PySem.W.nsIn K mainGlobals "isinstance" = some none)
    (z_len : PySem.W.nsIn K mainGlobals "len" = some none)
    (z_max : PySem.W.nsIn K mainGlobals "max" = some none)
    (z_min : PySem.W.nsIn K mainGlobals "min" = some none)
    (z_range : PySem.W.nsIn K mainGlobals "range" = some none)
    (z_repr : PySem.W.nsIn K mainGlobals "repr" = some none)
    (z_sum : PySem.W.nsIn K mainGlobals "sum" = some none)
    (z_tuple : PySem.W.nsIn K mainGlobals "tuple" = some none)
    (g_gcd : PySem.W.nsIn K mainGlobals "gcd" = some (some (.builtin "math.gcd"))) :
    ∃ fd : FuncData, (∀ (s : Shared) (v : Value), BindsTo s fd ⟨[v], []⟩ [("script", v)]) ∧ ∀ base : Heap, K.In base → base.Ns mainGlobals mg → FnG l.prog w K mg base CX0 11 fa fd ["script"] (spF K 1 F_law) := by
  have e := hfa.symm.trans (PySem.W.mg_of X G a47)
  cases e
  have F_0 : ClsF l.prog.main.file K mg "OtherDiscriminant" C_0 CB := ⟨⟨fI_0, PySem.W.mg_of X G ca_0, ⟨_, _, _, _, _, _, _, _, _, _, _, _, _, _, _, cx_0, rfl⟩, sa_0, no_0, ini_0, ti_0, xi_0, su_0, sb_0, opn, mr_0, ⟨_, _, _, _, _, _, _, _, _, _, _, _, _, _, _, _, _, _, _, _, _, _, _, fl_0, fc_0, ln_0, ⟨_, _, _, _, _, cd_0, cv_0⟩, _, _, _, ce_0⟩⟩, kc_0, ec_0, ty_0, ga_0, gg_0, hd_0⟩
  let cls : Str → Addr := mkCls [("OtherDiscriminant", C_0)]
  have XF : XFacts l.prog K mg cls := by
    refine ⟨fun cn h => ?_, fun cn h => ?_, fun cn hn b h => ?_, fun hn h => ?_⟩
    · have h' : cn = "OtherDiscriminant" := by simpa [isX, xsX] using h
      rcases h' with rfl
      · exact ⟨F_0.ex, PySem.SupX.fld_given, F_0.kC, F_0.exC, F_0.tyC, PySem.W.mg_none_of X G zsup, hmain⟩
    · have h' : cn = "OtherDiscriminant" := by simpa [isX, xsX] using h
      rcases h' with rfl
      · exact ⟨F_0.ga, F_0.gg, F_0.hdC⟩
    · have i1 := isX_of h
      have i2 := isH_of h
      have h1 : cn = "OtherDiscriminant" := by simpa [isX, xsX] using i1
      have h2 : hn = "OtherDiscriminant" := by simpa [isH, hsX] using i2
      rcases h1 with rfl
      · rcases h2 with rfl
        · exact (show some _ = some b from h) ▸ PySem.W.exm_ref F_0.exC F_0.hdC F_0.tyC xm_0_0
    · have h2 : hn = "OtherDiscriminant" := by simpa [isH, hsX] using h
      rcases h2 with rfl
      · exact PySem.W.mg_of X G ca_0
  have T : Top l.prog K mg cls := ⟨XF, ⟨PySem.W.mg_none_of X G z_abs, PySem.W.mg_none_of X G z_all, PySem.W.mg_none_of X G z_bool, PySem.W.mg_none_of X G z_divmod, PySem.W.mg_none_of X G z_int, PySem.W.mg_none_of X G z_isinstance, PySem.W.mg_none_of X G z_len, PySem.W.mg_none_of X G z_max, PySem.W.mg_none_of X G z_min, PySem.W.mg_none_of X G z_range, PySem.W.mg_none_of X G z_repr, PySem.W.mg_none_of X G z_sum, PySem.W.mg_none_of X G z_tuple, PySem.W.mg_of X G g_gcd⟩, ⟨_, _, fun_mk (st := s_is_whole) l0 c0 k0, PySem.W.mg_of X G a0⟩, ⟨_, _, fun_mk (st := s_are_whole) l1 c1 k1, PySem.W.mg_of X G a1⟩, ⟨_, _, fun_mk (st := s_is_whole_between) l2 c2 k2, PySem.W.mg_of X G a2⟩, ⟨_, _, fun_mk (st := s_is_discriminant) l3 c3 k3, PySem.W.mg_of X G a3⟩, ⟨_, _, fun_mk (st := s_is_form) l4 c4 k4, PySem.W.mg_of X G a4⟩, ⟨_, _, fun_mk (st := s_check_form) l5 c5 k5, PySem.W.mg_of X G a5⟩, ⟨_, _, fun_mk (st := s_centring) l6 c6 k6, PySem.W.mg_of X G a6⟩, ⟨_, _, fun_mk (st := s_value_at) l7 c7 k7, PySem.W.mg_of X G a7⟩, ⟨_, _, fun_mk (st := s_led_by) l8 c8 k8, PySem.W.mg_of X G a8⟩, ⟨_, _, fun_mk (st := s_is_reduced) l9 c9 k9, PySem.W.mg_of X G a9⟩, ⟨_, _, fun_mk (st := s_joined) l10 c10 k10, PySem.W.mg_of X G a10⟩, ⟨_, _, fun_mk (st := s_reduction) l11 c11 k11, PySem.W.mg_of X G a11⟩, ⟨_, _, fun_mk (st := s_place_without) l12 c12 k12, PySem.W.mg_of X G a12⟩, ⟨_, _, fun_mk (st := s_bezout) l13 c13 k13, PySem.W.mg_of X G a13⟩, ⟨_, _, fun_mk (st := s_change_to_lead_without) l14 c14 k14, PySem.W.mg_of X G a14⟩, ⟨_, _, fun_mk (st := s_uniting) l15 c15 k15, PySem.W.mg_of X G a15⟩, ⟨_, _, fun_mk (st := s_columns) l16 c16 k16, PySem.W.mg_of X G a16⟩, ⟨_, _, fun_mk (st := s_discriminant_of) l17 c17 k17, PySem.W.mg_of X G a17⟩, ⟨_, _, fun_mk (st := s_inverse) l18 c18 k18, PySem.W.mg_of X G a18⟩, ⟨_, _, fun_mk (st := s_composing_numbers) l19 c19 k19, PySem.W.mg_of X G a19⟩, ⟨_, _, fun_mk (st := s_reduced) l20 c20 k20, PySem.W.mg_of X G a20⟩, ⟨_, _, fun_mk (st := s_composed) l21 c21 k21, PySem.W.mg_of X G a21⟩, ⟨_, _, fun_mk (st := s__law_draw) l22 c22 k22, PySem.W.mg_of X G a22⟩, ⟨_, _, fun_mk (st := s__law_one) l23 c23 k23, PySem.W.mg_of X G a23⟩, ⟨_, _, fun_mk (st := s__law_disc) l24 c24 k24, PySem.W.mg_of X G a24⟩, ⟨_, _, fun_mk (st := s__law_value) l25 c25 k25, PySem.W.mg_of X G a25⟩, ⟨_, _, fun_mk (st := s__law_led) l26 c26 k26, PySem.W.mg_of X G a26⟩, ⟨_, _, fun_mk (st := s__law_both) l27 c27 k27, PySem.W.mg_of X G a27⟩, ⟨_, _, fun_mk (st := s__law_change) l28 c28 k28, PySem.W.mg_of X G a28⟩, ⟨_, _, fun_mk (st := s__law_root) l29 c29 k29, PySem.W.mg_of X G a29⟩, ⟨_, _, fun_mk (st := s__law_is_whole) l30 c30 k30, PySem.W.mg_of X G a30⟩, ⟨_, _, fun_mk (st := s__law_is_discriminant) l31 c31 k31, PySem.W.mg_of X G a31⟩, ⟨_, _, fun_mk (st := s__law_disc_of) l32 c32 k32, PySem.W.mg_of X G a32⟩, ⟨_, _, fun_mk (st := s__law_gcd) l33 c33 k33, PySem.W.mg_of X G a33⟩, ⟨_, _, fun_mk (st := s__law_is_form) l34 c34 k34, PySem.W.mg_of X G a34⟩, ⟨_, _, fun_mk (st := s__law_is_reduced) l35 c35 k35, PySem.W.mg_of X G a35⟩, ⟨_, _, fun_mk (st := s__law_classes) l36 c36 k36, PySem.W.mg_of X G a36⟩, ⟨_, _, fun_mk (st := s__law_form) l37 c37 k37, PySem.W.mg_of X G a37⟩, ⟨_, _, fun_mk (st := s__law_way_down) l38 c38 k38, PySem.W.mg_of X G a38⟩, ⟨_, _, fun_mk (st := s__law_reduced) l39 c39 k39, PySem.W.mg_of X G a39⟩, ⟨_, _, fun_mk (st := s__law_completed) l40 c40 k40, PySem.W.mg_of X G a40⟩, ⟨_, _, fun_mk (st := s__law_turned) l41 c41 k41, PySem.W.mg_of X G a41⟩, ⟨_, _, fun_mk (st := s__law_product) l42 c42 k42, PySem.W.mg_of X G a42⟩, ⟨_, _, fun_mk (st := s__law_is_refused) l43 c43 k43, PySem.W.mg_of X G a43⟩, ⟨_, _, fun_mk (st := s__law_does_compose) l44 c44 k44, PySem.W.mg_of X G a44⟩, ⟨_, _, fun_mk (st := s__law_right) l45 c45 k45, PySem.W.mg_of X G a45⟩, ⟨_, _, fun_mk (st := s__law_well) l46 c46 k46, PySem.W.mg_of X G a46⟩, ⟨_, _, fun_mk (st := s_law) l47 c47 k47, PySem.W.mg_of X G a47⟩⟩
  exact ⟨PySem.W.fnOf "law" "law" (defArgs s_law) (defBody s_law) (defScope s_law) .none kV47 dc47 pm47 an47 cd47 ct47, fun s v => .of_eq rfl, fun base _ _ => law_ok T (fun_mk (st := s_law) l47 c47 k47)⟩
theorem start_rel {K : PySem.W.Frag} {H : Hp} : Rel K ⟨[], []⟩ [] H := ⟨rfl, List.nodup_nil, fun a h => (by cases h), fun a h => (by cases h), fun i a ds e _ => (by simp at e)⟩
theorem start_ints {K : PySem.W.Frag} {ρ : Rho} {H : Hp} : ∀ ns : List Int, Dens K ρ H (ns.map V.int) (ns.map D.int)
  | [] => .nil
  | n :: r => .cons (.int n) (start_ints r)
theorem start_den {K : PySem.W.Frag} {H : Hp} {a : Addr} {ns : List Int} (h : SqL K H a (ns.map V.int)) : Den K ⟨[], []⟩ H (.ref a) (.frl (ns.map D.int)) := by
  rcases h with h | h
  · exact .frl h (fun z => by rcases z with z | z <;> cases z) (start_ints ns)
  · exact .frlK (fun H => .inr h) (start_ints ns)
theorem walk {l : PySem.W.OpenLaw} {q : Program} {loose : List Str} {XP : (Str → Option Value) → Heap → Prop} {YP : World → Heap → Prop} {d : DefRec} {K : Params → PySem.W.Frag} (hn : l.most = some 63) (hdf : d.params.defaults = [])
    (hY : ∀ (w : World) (h : Heap), YP w h → (K w.params).In h)
    (F : ∀ (w : World) (mg : Str → Option Value) (fa : Addr) (h : Heap), (K w.params).In h → h.Ns mainGlobals mg → mg d.name = some (.ref fa) →
      ∃ fd : FuncData, (∀ (s : Shared) (u : Value), BindsTo s fd ⟨[u], []⟩ [("script", u)]) ∧ ∀ base : Heap, (K w.params).In base → base.Ns mainGlobals mg → FnG l.prog w (K w.params) mg base CX0 11 fa fd ["script"] (spF (K w.params) 1 F_law))
    (main : ∀ ns : List Int, ns.length ≤ 63 → ∃ h', F_law [.frl (ns.map D.int)] [] = some (.bl true, h')) :
    PySem.W.WalkO q loose XP YP l.row.toRowW d [] (fun f vs => PySem.call f vs) := by
  refine walk_ofG (n := 63) (k := 11) (x := "script") (CX := fun _ => CX0) (sp := fun w => spF (K w.params) 1 F_law) hn (by decide) hdf ⟨⟨rfl, by decide, by decide⟩, rfl⟩ hY F (fun w H a ns hl _ hS => ?_) fun _ _ _ _ _ z => z
  obtain ⟨h', e⟩ := main ns hl
  exact ⟨⟨[], []⟩, [], [.frl (ns.map D.int)], .bl true, h', start_rel, .cons (start_den hS) .nil, rfl, e, fun v H' ρ' _ _ dn => den_bl dn⟩
end Law
open PySem PySem.W PyProof.Rows
set_option maxRecDepth 100000 in
set_option maxHeartbeats 0 in
theorem PySem.Challenge.cw_classprimes_k09_whole_composed_by_united_holds : PySem.Challenge.rw_classprimes_k09_whole_composed_by_united.Holds := by
  w_on; o_law; k_head; (case hw => w_witness2)
  k_fill
  refine Law.walk (l := PySem.Challenge.rw_classprimes_k09_whole_composed_by_united) rfl rfl (fun w h Y => PySem.W.kIn_of Y) ?F Law.main
  case F =>
    intro w mg fa h KX G hmg
    refine' Law.all_mk KX G hmg ?cb ?zsup ?opn ?hmain ?ca_0 ?cx_0 ?sa_0 ?ga_0 ?gg_0 ?no_0 ?ini_0 ?ti_0 ?xi_0 ?su_0 ?sb_0 ?mr_0 ?fl_0 ?fc_0 ?ln_0 ?cd_0 ?cv_0 ?ce_0 ?kc_0 ?ec_0 ?ty_0 ?hd_0 ?xm_0_0 ?a0 ?l0 ?c0 ?k0 ?a1 ?l1 ?c1 ?k1 ?a2 ?l2 ?c2 ?k2 ?a3 ?l3 ?c3 ?k3 ?a4 ?l4 ?c4 ?k4 ?a5 ?l5 ?c5 ?k5 ?a6 ?l6 ?c6 ?k6 ?a7 ?l7 ?c7 ?k7 ?a8 ?l8 ?c8 ?k8 ?a9 ?l9 ?c9 ?k9 ?a10 ?l10 ?c10 ?k10 ?a11 ?l11 ?c11 ?k11 ?a12 ?l12 ?c12 ?k12 ?a13 ?l13 ?c13 ?k13 ?a14 ?l14 ?c14 ?k14 ?a15 ?l15 ?c15 ?k15 ?a16 ?l16 ?c16 ?k16 ?a17 ?l17 ?c17 ?k17 ?a18 ?l18 ?c18 ?k18 ?a19 ?l19 ?c19 ?k19 ?a20 ?l20 ?c20 ?k20 ?a21 ?l21 ?c21 ?k21 ?a22 ?l22 ?c22 ?k22 ?a23 ?l23 ?c23 ?k23 ?a24 ?l24 ?c24 ?k24 ?a25 ?l25 ?c25 ?k25 ?a26 ?l26 ?c26 ?k26 ?a27 ?l27 ?c27 ?k27 ?a28 ?l28 ?c28 ?k28 ?a29 ?l29 ?c29 ?k29 ?a30 ?l30 ?c30 ?k30 ?a31 ?l31 ?c31 ?k31 ?a32 ?l32 ?c32 ?k32 ?a33 ?l33 ?c33 ?k33 ?a34 ?l34 ?c34 ?k34 ?a35 ?l35 ?c35 ?k35 ?a36 ?l36 ?c36 ?k36 ?a37 ?l37 ?c37 ?k37 ?a38 ?l38 ?c38 ?k38 ?a39 ?l39 ?c39 ?k39 ?a40 ?l40 ?c40 ?k40 ?a41 ?l41 ?c41 ?k41 ?a42 ?l42 ?c42 ?k42 ?a43 ?l43 ?c43 ?k43 ?a44 ?l44 ?c44 ?k44 ?a45 ?l45 ?c45 ?k45 ?a46 ?l46 ?c46 ?k46 ?a47 ?l47 ?c47 ?k47 ?z_abs ?z_all ?z_bool ?z_divmod ?z_int ?z_isinstance ?z_len ?z_max ?z_min ?z_range ?z_repr ?z_sum ?z_tuple ?g_gcd
    (case cb => k_is)
    (case zsup => k_is)
    (case opn => k_is)
    (case hmain => first | rfl | k_is)
    (case ca_0 => k_is)
    (case cx_0 => k_is)
    (case sa_0 => k_is)
    (case ga_0 => k_is)
    (case gg_0 => k_is)
    (case no_0 => k_is)
    (case ini_0 => k_is)
    (case ti_0 => k_is)
    (case xi_0 => kx_is)
    (case su_0 => ks_is)
    (case sb_0 => k_is)
    (case mr_0 => k_is)
    (case fl_0 => k_is)
    (case fc_0 => k_is)
    (case ln_0 => first | rfl | k_is)
    (case cd_0 => k_is)
    (case cv_0 => first | rfl | k_is)
    (case ce_0 => k_is)
    (case kc_0 => k_is)
    (case ec_0 => k_is)
    (case ty_0 => k_is)
    (case hd_0 => k_is)
    (case xm_0_0 => first | rfl | k_is)
    (case a0 => k_is)
    (case l0 => k_is)
    (case c0 => k_is)
    (case k0 => k_is)
    (case a1 => k_is)
    (case l1 => k_is)
    (case c1 => k_is)
    (case k1 => k_is)
    (case a2 => k_is)
    (case l2 => k_is)
    (case c2 => k_is)
    (case k2 => k_is)
    (case a3 => k_is)
    (case l3 => k_is)
    (case c3 => k_is)
    (case k3 => k_is)
    (case a4 => k_is)
    (case l4 => k_is)
    (case c4 => k_is)
    (case k4 => k_is)
    (case a5 => k_is)
    (case l5 => k_is)
    (case c5 => k_is)
    (case k5 => k_is)
    (case a6 => k_is)
    (case l6 => k_is)
    (case c6 => k_is)
    (case k6 => k_is)
    (case a7 => k_is)
    (case l7 => k_is)
    (case c7 => k_is)
    (case k7 => k_is)
    (case a8 => k_is)
    (case l8 => k_is)
    (case c8 => k_is)
    (case k8 => k_is)
    (case a9 => k_is)
    (case l9 => k_is)
    (case c9 => k_is)
    (case k9 => k_is)
    (case a10 => k_is)
    (case l10 => k_is)
    (case c10 => k_is)
    (case k10 => k_is)
    (case a11 => k_is)
    (case l11 => k_is)
    (case c11 => k_is)
    (case k11 => k_is)
    (case a12 => k_is)
    (case l12 => k_is)
    (case c12 => k_is)
    (case k12 => k_is)
    (case a13 => k_is)
    (case l13 => k_is)
    (case c13 => k_is)
    (case k13 => k_is)
    (case a14 => k_is)
    (case l14 => k_is)
    (case c14 => k_is)
    (case k14 => k_is)
    (case a15 => k_is)
    (case l15 => k_is)
    (case c15 => k_is)
    (case k15 => k_is)
    (case a16 => k_is)
    (case l16 => k_is)
    (case c16 => k_is)
    (case k16 => k_is)
    (case a17 => k_is)
    (case l17 => k_is)
    (case c17 => k_is)
    (case k17 => k_is)
    (case a18 => k_is)
    (case l18 => k_is)
    (case c18 => k_is)
    (case k18 => k_is)
    (case a19 => k_is)
    (case l19 => k_is)
    (case c19 => k_is)
    (case k19 => k_is)
    (case a20 => k_is)
    (case l20 => k_is)
    (case c20 => k_is)
    (case k20 => k_is)
    (case a21 => k_is)
    (case l21 => k_is)
    (case c21 => k_is)
    (case k21 => k_is)
    (case a22 => k_is)
    (case l22 => k_is)
    (case c22 => k_is)
    (case k22 => k_is)
    (case a23 => k_is)
    (case l23 => k_is)
    (case c23 => k_is)
    (case k23 => k_is)
    (case a24 => k_is)
    (case l24 => k_is)
    (case c24 => k_is)
    (case k24 => k_is)
    (case a25 => k_is)
    (case l25 => k_is)
    (case c25 => k_is)
    (case k25 => k_is)
    (case a26 => k_is)
    (case l26 => k_is)
    (case c26 => k_is)
    (case k26 => k_is)
    (case a27 => k_is)
    (case l27 => k_is)
    (case c27 => k_is)
    (case k27 => k_is)
    (case a28 => k_is)
    (case l28 => k_is)
    (case c28 => k_is)
    (case k28 => k_is)
    (case a29 => k_is)
    (case l29 => k_is)
    (case c29 => k_is)
    (case k29 => k_is)
    (case a30 => k_is)
    (case l30 => k_is)
    (case c30 => k_is)
    (case k30 => k_is)
    (case a31 => k_is)
    (case l31 => k_is)
    (case c31 => k_is)
    (case k31 => k_is)
    (case a32 => k_is)
    (case l32 => k_is)
    (case c32 => k_is)
    (case k32 => k_is)
    (case a33 => k_is)
    (case l33 => k_is)
    (case c33 => k_is)
    (case k33 => k_is)
    (case a34 => k_is)
    (case l34 => k_is)
    (case c34 => k_is)
    (case k34 => k_is)
    (case a35 => k_is)
    (case l35 => k_is)
    (case c35 => k_is)
    (case k35 => k_is)
    (case a36 => k_is)
    (case l36 => k_is)
    (case c36 => k_is)
    (case k36 => k_is)
    (case a37 => k_is)
    (case l37 => k_is)
    (case c37 => k_is)
    (case k37 => k_is)
    (case a38 => k_is)
    (case l38 => k_is)
    (case c38 => k_is)
    (case k38 => k_is)
    (case a39 => k_is)
    (case l39 => k_is)
    (case c39 => k_is)
    (case k39 => k_is)
    (case a40 => k_is)
    (case l40 => k_is)
    (case c40 => k_is)
    (case k40 => k_is)
    (case a41 => k_is)
    (case l41 => k_is)
    (case c41 => k_is)
    (case k41 => k_is)
    (case a42 => k_is)
    (case l42 => k_is)
    (case c42 => k_is)
    (case k42 => k_is)
    (case a43 => k_is)
    (case l43 => k_is)
    (case c43 => k_is)
    (case k43 => k_is)
    (case a44 => k_is)
    (case l44 => k_is)
    (case c44 => k_is)
    (case k44 => k_is)
    (case a45 => k_is)
    (case l45 => k_is)
    (case c45 => k_is)
    (case k45 => k_is)
    (case a46 => k_is)
    (case l46 => k_is)
    (case c46 => k_is)
    (case k46 => k_is)
    (case a47 => k_is)
    (case l47 => k_is)
    (case c47 => k_is)
    (case k47 => k_is)
    (case z_abs => k_is)
    (case z_all => k_is)
    (case z_bool => k_is)
    (case z_divmod => k_is)
    (case z_int => k_is)
    (case z_isinstance => k_is)
    (case z_len => k_is)
    (case z_max => k_is)
    (case z_min => k_is)
    (case z_range => k_is)
    (case z_repr => k_is)
    (case z_sum => k_is)
    (case z_tuple => k_is)
    (case g_gcd => k_is)

