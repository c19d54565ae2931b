import PyProof.Rows.All
import Wide.All
import OpenK.AllK
import Wide.FinOn
import HandS.Conv
import HandS.Deep
import HandS.EndTab
import HandS.Exc
import HandS.ExcField
import HandS.ExcIs
import HandS.ExcValue
import HandS.FStr
import HandS.ForMost
import HandS.IsInst
import HandS.Lambda
import HandS.Style
import HandS.TupAny
import HandS.TupLe
import HandS.TupMul
import HandS.WordsExc
import HandS.Zip
import KE.KExcInit
import KE.KExcIs
import KE.KExcStr
import KE.KExcTry
import OpenK.KMore
import PyProof.ReprRoads
import PySem.Challenge.RW_wordshapes_k01_constants_and_errors
set_option Elab.async false
set_option linter.all false
set_option maxRecDepth 100000
set_option maxHeartbeats 0
section
namespace DL
open PySem PySem.Spec L2

/-! ### data -/
inductive D where
  | non | bl (b : Bool) | int (i : Int) | str (x : Str)
  | lst (xs : List D) | tup (xs : List D)
  | obj (c : Nat) (fs : List (Str × D))
  | fz (xs : List D) | dk (ks : List Key) (xs : List D)

/-- a name's place: nothing, data that nobody changes, a list of this frame's own, a list handed in that may be changed -/
inductive Sl where
  | un | pu (d : D) | ow (xs : List D) | io (xs : List D)
abbrev Slots := List Sl

inductive Res (α : Type) where
  | ok (a : α) (env : Slots)
  | err (c : Nat) (fs : List (Str × D)) (env : Slots)
  | bad
def Res.bind {α β : Type} (r : Res α) (k : α → Slots → Res β) : Res β := match r with
  | .ok a env => k a env
  | .err c fs env => .err c fs env
  | .bad => .bad
@[simp] theorem Res.bind_ok {α β : Type} (a : α) (env : Slots) (k : α → Slots → Res β) : (Res.ok a env).bind k = k a env := rfl
@[simp] theorem Res.bind_err {α β : Type} (c : Nat) (fs : List (Str × D)) (env : Slots) (k : α → Slots → Res β) : (Res.err c fs env).bind k = .err c fs env := rfl
@[simp] theorem Res.bind_bad {α β : Type} (k : α → Slots → Res β) : (Res.bad : Res α).bind k = .bad := rfl
abbrev EF := Slots → Res D
abbrev AF := Slots → Res (List D)

/-! ### what stands in the heap for data -/
/-- an error at a: of the class C, its dict -/
def excH (a C : Addr) (od : Option Addr) : HO := .ext fun h => ∃ (oe : Obj) (vs : Array Value), h.get? a = some oe ∧ oe.cls = .ref C ∧ oe.dict = od ∧ oe.data = .fields vs
mutual
inductive Dr (cl : Nat → Addr) (K : PySem.W.Frag) (H : Hp) : V → D → Prop
  | non : Dr cl K H .non .non
  | bl (b : Bool) : Dr cl K H (.bl b) (.bl b)
  | int (i : Int) : Dr cl K H (.int i) (.int i)
  | str (x : Str) : Dr cl K H (.str x) (.str x)
  | lst {a : Addr} {vs : List V} {ds : List D} : H a = some (.lst vs) → DrA cl K H vs ds → Dr cl K H (.ref a) (.lst ds)
  | fz {a : Addr} {vs : List V} {ds : List D} : SqL K H a vs → DrA cl K H vs ds → Dr cl K H (.ref a) (.fz ds)
  | dk {a : Addr} {ks : List Key} {vs : List V} {ds : List D} : H a = some (.dK (ks.zip vs)) → ks.length = vs.length → DrA cl K H vs ds → Dr cl K H (.ref a) (.dk ks ds)
  | tup {a : Addr} {vs : List V} {ds : List D} : SqT K H a vs → DrA cl K H vs ds → Dr cl K H (.ref a) (.tup ds)
  | obj {a dx : Addr} {c : Nat} {vs : List (Str × V)} {fs : List (Str × D)} : H a = some (.ins (cl c) dx vs) → DrF cl K H vs fs → Dr cl K H (.ref a) (.obj c fs)
  | ex0 {a : Addr} {c : Nat} : H a = some (excH a (cl c) none) → Dr cl K H (.ref a) (.obj c [])
  | ex1 {a dx : Addr} {c : Nat} {vs : List (Str × V)} {fs : List (Str × D)} : H a = some (excH a (cl c) (some dx)) → H dx = some (.xd vs) → DrF cl K H vs fs → Dr cl K H (.ref a) (.obj c fs)
inductive DrA (cl : Nat → Addr) (K : PySem.W.Frag) (H : Hp) : List V → List D → Prop
  | nil : DrA cl K H [] []
  | cons {v : V} {vs : List V} {d : D} {ds : List D} : Dr cl K H v d → DrA cl K H vs ds → DrA cl K H (v :: vs) (d :: ds)
inductive DrF (cl : Nat → Addr) (K : PySem.W.Frag) (H : Hp) : List (Str × V) → List (Str × D) → Prop
  | nil : DrF cl K H [] []
  | cons {n : Str} {v : V} {vs : List (Str × V)} {d : D} {ds : List (Str × D)} : Dr cl K H v d → DrF cl K H vs ds → DrF cl K H ((n, v) :: vs) ((n, d) :: ds)
end

section
variable {cl : Nat → Addr} {K : PySem.W.Frag} {H H' : Hp}
theorem sqT_mono {a : Addr} {xs : List V} (e : Same H H') (h : SqT K H a xs) : SqT K H' a xs := by
  rcases h with h | h
  · rcases h with h | ⟨o, h⟩
    · exact .inl (.inl (e _ _ h))
    · exact .inl (.inr ⟨o, e _ _ h⟩)
  · exact .inr h
mutual
theorem Dr.mono (e : Same H H') : ∀ {v : V} {d : D}, Dr cl K H v d → Dr cl K H' v d
  | _, _, .non => .non
  | _, _, .bl b => .bl b
  | _, _, .int i => .int i
  | _, _, .str x => .str x
  | _, _, .lst h r => .lst (e _ _ h) (DrA.mono e r)
  | _, _, .fz h r => .fz (e.seq h) (DrA.mono e r)
  | _, _, .dk h l r => .dk (e _ _ h) l (DrA.mono e r)
  | _, _, .tup h r => .tup (sqT_mono e h) (DrA.mono e r)
  | _, _, .obj h r => .obj (e _ _ h) (DrF.mono e r)
  | _, _, .ex0 h => .ex0 (e _ _ h)
  | _, _, .ex1 h g r => .ex1 (e _ _ h) (e _ _ g) (DrF.mono e r)
theorem DrA.mono (e : Same H H') : ∀ {vs : List V} {ds : List D}, DrA cl K H vs ds → DrA cl K H' vs ds
  | _, _, .nil => .nil
  | _, _, .cons h r => .cons (Dr.mono e h) (DrA.mono e r)
theorem DrF.mono (e : Same H H') : ∀ {vs : List (Str × V)} {ds : List (Str × D)}, DrF cl K H vs ds → DrF cl K H' vs ds
  | _, _, .nil => .nil
  | _, _, .cons h r => .cons (Dr.mono e h) (DrF.mono e r)
end
theorem DrA.length : ∀ {vs : List V} {ds : List D}, DrA cl K H vs ds → vs.length = ds.length
  | _, _, .nil => rfl
  | _, _, .cons _ r => congrArg (· + 1) (DrA.length r)
theorem DrA.append : ∀ {vs ws : List V} {ds es : List D}, DrA cl K H vs ds → DrA cl K H ws es → DrA cl K H (vs ++ ws) (ds ++ es)
  | _, _, _, _, .nil, q => q
  | _, _, _, _, .cons h r, q => .cons h (DrA.append r q)
theorem DrA.get : ∀ {vs : List V} {ds : List D} {i : Nat} {d : D}, DrA cl K H vs ds → ds[i]? = some d → ∃ v, vs[i]? = some v ∧ Dr cl K H v d
  | _, _, _, _, .nil, e => by simp at e
  | _, _, 0, _, .cons h _, e => by simp at e; subst e; exact ⟨_, rfl, h⟩
  | _, _, i + 1, _, .cons _ r, e => by
    obtain ⟨v, e1, e2⟩ := DrA.get (i := i) r (by simpa using e)
    exact ⟨v, by simpa using e1, e2⟩
theorem DrA.take : ∀ {vs : List V} {ds : List D} (n : Nat), DrA cl K H vs ds → DrA cl K H (vs.take n) (ds.take n)
  | _, _, 0, _ => .nil
  | _, _, _ + 1, .nil => .nil
  | _, _, n + 1, .cons h r => .cons h (DrA.take n r)
theorem DrA.drop : ∀ {vs : List V} {ds : List D} (n : Nat), DrA cl K H vs ds → DrA cl K H (vs.drop n) (ds.drop n)
  | _, _, 0, r => r
  | _, _, _ + 1, .nil => .nil
  | _, _, n + 1, .cons _ r => DrA.drop n r
theorem DrA.reverse : ∀ {vs : List V} {ds : List D}, DrA cl K H vs ds → DrA cl K H vs.reverse ds.reverse
  | _, _, .nil => .nil
  | _, _, .cons h r => by
    rw [List.reverse_cons, List.reverse_cons]
    exact (DrA.reverse r).append (.cons h .nil)
theorem DrA.set : ∀ {vs : List V} {ds : List D} {v : V} {d : D} (i : Nat), DrA cl K H vs ds → Dr cl K H v d → DrA cl K H (vs.set i v) (ds.set i d)
  | _, _, _, _, _, .nil, _ => .nil
  | _, _, _, _, 0, .cons _ r, q => .cons q r
  | _, _, _, _, i + 1, .cons h r, q => .cons h (DrA.set i r q)
end

/-! ### what is one's own -/
/-- a table of code objects grows as defs are made: it is told apart -/
def nT : HO → Bool
  | .tbl _ => false
  | _ => true
/-- the heap without the lists that may change -/
def cut (H : Hp) (O : Addr → Bool) : Hp := fun a => if O a = true then none else match H a with
  | some o => if nT o = true then some o else none
  | none => none
theorem cut_inv {H : Hp} {O : Addr → Bool} {a : Addr} {o : HO} (h : cut H O a = some o) : O a = false ∧ H a = some o ∧ nT o = true := by
  unfold cut at h
  split at h
  · cases h
  · rename_i n
    split at h
    · rename_i o' e
      split at h
      · rename_i t
        cases h
        exact ⟨by cases q : O a <;> simp_all, e, t⟩
      · cases h
    · cases h
theorem cut_le {H : Hp} {O : Addr → Bool} : Same (cut H O) H := fun a o h => (cut_inv h).2.1
theorem cut_ge {H : Hp} {O : Addr → Bool} {a : Addr} {o : HO} (h : H a = some o) (hO : O a = false) (hn : nT o = true := by rfl) : cut H O a = some o := by
  unfold cut
  rw [hO, if_neg Bool.false_ne_true, h]
  show (if nT o = true then some o else none) = some o
  rw [if_pos hn]
theorem cut_of {H H' : Hp} {O O' : Addr → Bool} (h : ∀ a o, O a = false → nT o = true → H a = some o → O' a = false ∧ H' a = some o) : Same (cut H O) (cut H' O') := fun a o z => by
  obtain ⟨z1, z2, z3⟩ := cut_inv z
  obtain ⟨y1, y2⟩ := h a o z1 z3 z2
  exact cut_ge y2 y1 z3
theorem cut_sub {H : Hp} {O O' : Addr → Bool} (s : ∀ a, O a = true → O' a = true) : Same (cut H O') (cut H O) := cut_of fun a o h _ e => ⟨by
  cases q : O a with
  | false => rfl
  | true => (rw [s a q] at h; cases h), e⟩
/-- a list of one's own, or one handed in -/
def owned (env : Slots) (i : Nat) : Bool := match env[i]? with
  | some (.ow _) => true
  | some (.io _) => true
  | _ => false
/-- O: all that may change, P: what this frame has made itself, R: what was handed to it -/
structure RelE (cl : Nat → Addr) (K : PySem.W.Frag) (O P R : Addr → Bool) (env : Slots) (σ : St) (H : Hp) : Prop where
  len : σ.length = env.length
  pu : ∀ (i : Nat) (d : D), env[i]? = some (.pu d) → ∃ v, σ[i]? = some (some v) ∧ Dr cl K (cut H O) v d
  ow : ∀ (i : Nat) (xs : List D), env[i]? = some (.ow xs) → ∃ (p : Addr) (vs : List V), σ[i]? = some (some (V.ref p)) ∧ P p = true ∧ H p = some (.lst vs) ∧ DrA cl K (cut H O) vs xs
  io : ∀ (i : Nat) (xs : List D), env[i]? = some (.io xs) → ∃ (p : Addr) (vs : List V), σ[i]? = some (some (V.ref p)) ∧ R p = true ∧ H p = some (.lst vs) ∧ DrA cl K (cut H O) vs xs
  inj : ∀ (i j : Nat) (p : Addr), owned env i = true → owned env j = true → σ[i]? = some (some (V.ref p)) → σ[j]? = some (some (V.ref p)) → i = j
  dom : ∀ a, O a = true → ∃ vs, H a = some (.lst vs)
  subP : ∀ a, P a = true → O a = true
  subR : ∀ a, R a = true → O a = true
  apart : ∀ a, P a = true → R a = false

/-- what a piece of code does to the heap -/
structure Mv (O P R : Addr → Bool) (H H' : Hp) : Prop where
  keep : ∀ a o, O a = false → nT o = true → H a = some o → H' a = some o
  al : ∀ a, H a ≠ none → H' a ≠ none
  frn : ∀ a, O a = true → P a = false → R a = false → H' a = H a
  tab : ∀ p q, LamX.TabS H p q → LamX.TabS H' p q
theorem Mv.refl {O P R : Addr → Bool} {H : Hp} : Mv O P R H H := ⟨fun _ _ _ _ h => h, fun _ h => h, fun _ _ _ _ => rfl, fun _ _ h => h⟩
theorem Mv.trans {O P R : Addr → Bool} {H H1 H2 : Hp} (a : Mv O P R H H1) (b : Mv O P R H1 H2) : Mv O P R H H2 :=
  ⟨fun x o h n e => b.keep x o h n (a.keep x o h n e), fun x h => b.al x (a.al x h), fun x h1 h2 h3 => (b.frn x h1 h2 h3).trans (a.frn x h1 h2 h3), fun p q h => b.tab p q (a.tab p q h)⟩
theorem Mv.cut {O P R : Addr → Bool} {H H' : Hp} (m : Mv O P R H H') : Same (cut H O) (cut H' O) := cut_of fun a o h n e => ⟨h, m.keep a o h n e⟩
abbrev Dom (O : Addr → Bool) (H : Hp) : Prop := ∀ a, O a = true → ∃ vs, H a = some (.lst vs)
theorem al_same {H H' : Hp} (e : Same H H') (a : Addr) (h : H a ≠ none) : H' a ≠ none := by
  cases q : H a with
  | none => exact absurd q h
  | some o => rw [e a o q]; exact fun z => nomatch z
theorem Mv.same {O P R : Addr → Bool} {H H' : Hp} (e : Same H H') (d : Dom O H) : Mv O P R H H' :=
  ⟨fun a o _ _ h => e a o h, al_same e, fun a h1 _ _ => by
    obtain ⟨vs, q⟩ := d a h1
    rw [e a _ q, q], fun p q h => h.ext e⟩
section
variable {cl : Nat → Addr} {K : PySem.W.Frag} {O P R : Addr → Bool} {env : Slots} {σ : St} {H H' : Hp}
/-- objects are added -/
theorem RelE.same (r : RelE cl K O P R env σ H) (e : Same H H') : RelE cl K O P R env σ H' := by
  have c : Same (cut H O) (cut H' O) := (Mv.same (P := P) (R := R) e r.dom).cut
  refine ⟨r.len, fun i d h => ?_, fun i xs h => ?_, fun i xs h => ?_, r.inj, fun a h => ?_, r.subP, r.subR, r.apart⟩
  · obtain ⟨v, e1, e2⟩ := r.pu i d h
    exact ⟨v, e1, e2.mono c⟩
  · obtain ⟨p, vs, e1, e2, e3, e4⟩ := r.ow i xs h
    exact ⟨p, vs, e1, e2, e _ _ e3, e4.mono c⟩
  · obtain ⟨p, vs, e1, e2, e3, e4⟩ := r.io i xs h
    exact ⟨p, vs, e1, e2, e _ _ e3, e4.mono c⟩
  · obtain ⟨vs, q⟩ := r.dom a h
    exact ⟨vs, e a _ q⟩
theorem RelE.fresh (r : RelE cl K O P R env σ H) {p : Addr} (h : H p = none) : O p = false := by
  cases e : O p with
  | false => rfl
  | true =>
    obtain ⟨vs, q⟩ := r.dom p e
    rw [h] at q; cases q
end

/-- what an exception bears: nothing, or its own dict -/
def XdOk (cl : Nat → Addr) (K : PySem.W.Frag) (H : Hp) (od : Option Addr) : List (Str × D) → Prop
  | [] => od = none
  | fs => ∃ dx vs, od = some dx ∧ H dx = some (.xd vs) ∧ DrF cl K H vs fs
theorem XdOk.mono {cl : Nat → Addr} {K : PySem.W.Frag} {H H' : Hp} {od : Option Addr} (e : Same H H') : ∀ {fs : List (Str × D)}, XdOk cl K H od fs → XdOk cl K H' od fs
  | [], h => h
  | _ :: _, ⟨dx, vs, h1, h2, h3⟩ => ⟨dx, vs, h1, e _ _ h2, h3.mono e⟩
/-! ### the judgements -/
abbrev dF (W : WX) (cl : Nat → Addr) (K : PySem.W.Frag) (O P R : Addr → Bool) (σ : St) (H : Hp) (c : Nat) (fs : List (Str × D)) (env' : Slots) : Prop :=
  ∀ od H', Mv O P R H H' → RelE cl K O P R env' σ H' → XdOk cl K (cut H' O) od fs → W (.ref (cl c)) od σ H'
def Post (cl : Nat → Addr) (K : PySem.W.Frag) (W : WX) (O P R : Addr → Bool) (σ : St) (H : Hp) (Q : VK) : Res D → Prop
  | .ok d env' => ∀ v H', Mv O P R H H' → RelE cl K O P R env' σ H' → Dr cl K (cut H' O) v d → Q v H'
  | .err c fs env' => dF W cl K O P R σ H c fs env'
  | .bad => False
def PostA (cl : Nat → Addr) (K : PySem.W.Frag) (W : WX) (O P R : Addr → Bool) (σ : St) (H : Hp) (Q : List V → Hp → Prop) : Res (List D) → Prop
  | .ok ds env' => ∀ vs H', Mv O P R H H' → RelE cl K O P R env' σ H' → DrA cl K (cut H' O) vs ds → Q vs H'
  | .err c fs env' => dF W cl K O P R σ H c fs env'
  | .bad => False
def PostT (cl : Nat → Addr) (K : PySem.W.Frag) (W : WX) (O P R : Addr → Bool) (σ : St) (H : Hp) (Q : Bool → Hp → Prop) : Res D → Prop
  | .ok (.bl b) env' => ∀ H', Mv O P R H H' → RelE cl K O P R env' σ H' → Q b H'
  | .err c fs env' => dF W cl K O P R σ H c fs env'
  | _ => False
def tD (cl : Nat → Addr) (K : PySem.W.Frag) (W : WX) (f : EF) : TE := fun σ H Q => ∃ O P R env, RelE cl K O P R env σ H ∧ Post cl K W O P R σ H Q (f env)
def tDA (cl : Nat → Addr) (K : PySem.W.Frag) (W : WX) (f : AF) : TA := fun σ H Q => ∃ O P R env, RelE cl K O P R env σ H ∧ PostA cl K W O P R σ H Q (f env)
def tDT (cl : Nat → Addr) (K : PySem.W.Frag) (W : WX) (f : EF) : TT := fun σ H Q => ∃ O P R env, RelE cl K O P R env σ H ∧ PostT cl K W O P R σ H Q (f env)

theorem eImp {X : Cx} {e : Expr} {t t' : TE} (h : PE X e t) (i : ∀ σ H Q, t' σ H Q → t σ H Q) : PE X e t' := ⟨fun pins s σ H Q I q => h.run pins s σ H Q I (i _ _ _ q)⟩
theorem tImp {X : Cx} {e : Expr} {t t' : TT} (h : PT X e t) (i : ∀ σ H Q, t' σ H Q → t σ H Q) : PT X e t' := ⟨fun pins s σ H Q I q => h.run pins s σ H Q I (i _ _ _ q)⟩
theorem aImp {X : Cx} {e : List Expr} {t t' : TA} (h : PA X e t) (i : ∀ σ H Q, t' σ H Q → t σ H Q) : PA X e t' := ⟨fun pos pins s σ H Q I q => h.run pos pins s σ H Q I (i _ _ _ q)⟩

section
variable {cl : Nat → Addr} {K : PySem.W.Frag} {W : WX} {O P R : Addr → Bool} {σ : St} {H H1 : Hp} {Q : VK} {env env1 : Slots}
theorem Post.of_mv (m : Mv O P R H H1) : ∀ {r : Res D}, Post cl K W O P R σ H Q r → Post cl K W O P R σ H1 Q r
  | .ok _ _, h => fun v H' m' => h v H' (m.trans m')
  | .err _ _ _, h => fun od H' m' => h od H' (m.trans m')
  | .bad, h => h
theorem PostA.of_mv {Q : List V → Hp → Prop} (m : Mv O P R H H1) : ∀ {r : Res (List D)}, PostA cl K W O P R σ H Q r → PostA cl K W O P R σ H1 Q r
  | .ok _ _, h => fun v H' m' => h v H' (m.trans m')
  | .err _ _ _, h => fun od H' m' => h od H' (m.trans m')
  | .bad, h => h
theorem PostT.of_mv {Q : Bool → Hp → Prop} (m : Mv O P R H H1) : ∀ {r : Res D}, PostT cl K W O P R σ H Q r → PostT cl K W O P R σ H1 Q r
  | .ok (.bl _) _, h => fun H' m' => h H' (m.trans m')
  | .ok .non _, h => h
  | .ok (.int _) _, h => h
  | .ok (.str _) _, h => h
  | .ok (.lst _) _, h => h
  | .ok (.tup _) _, h => h
  | .ok (.obj _ _) _, h => h
  | .ok (.fz _) _, h => h
  | .ok (.dk _ _) _, h => h
  | .err _ _ _, h => fun od H' m' => h od H' (m.trans m')
  | .bad, h => h
/-- one expression ahead of what follows -/
theorem Post.bind {f : EF} {k : D → Slots → Res D} (r : RelE cl K O P R env σ H) (h : Post cl K W O P R σ H Q ((f env).bind k))
    {Q1 : VK} (q : ∀ d env1 v H1, RelE cl K O P R env1 σ H1 → Dr cl K (cut H1 O) v d → Post cl K W O P R σ H1 Q (k d env1) → Q1 v H1) : tD cl K W f σ H Q1 := by
  refine ⟨O, P, R, env, r, ?_⟩
  cases e : f env with
  | ok d env1 => rw [e] at h; exact fun v H1 m r1 d1 => q d env1 v H1 r1 d1 (h.of_mv m)
  | err c fs env1 => rw [e] at h; exact h
  | bad => rw [e] at h; exact h
theorem Post.bindT {f : EF} {k : D → Slots → Res D} (r : RelE cl K O P R env σ H) (hk : ∀ d env1, (∀ b, d ≠ .bl b) → k d env1 = .bad) (h : Post cl K W O P R σ H Q ((f env).bind k))
    {Q1 : Bool → Hp → Prop} (q : ∀ b env1 H1, RelE cl K O P R env1 σ H1 → Post cl K W O P R σ H1 Q (k (.bl b) env1) → Q1 b H1) : tDT cl K W f σ H Q1 := by
  refine ⟨O, P, R, env, r, ?_⟩
  cases e : f env with
  | ok d env1 =>
    rw [e] at h
    cases d with
    | bl b => exact fun H1 m r1 => q b env1 H1 r1 (h.of_mv m)
    | _ => rw [Res.bind_ok, hk _ _ (by intro b z; cases z)] at h; exact h.elim
  | err c fs env1 => rw [e] at h; exact h
  | bad => rw [e] at h; exact h
theorem Post.bindA {f : AF} {k : List D → Slots → Res D} (r : RelE cl K O P R env σ H) (h : Post cl K W O P R σ H Q ((f env).bind k))
    {Q1 : List V → Hp → Prop} (q : ∀ d env1 v H1, RelE cl K O P R env1 σ H1 → DrA cl K (cut H1 O) v d → Post cl K W O P R σ H1 Q (k d env1) → Q1 v H1) : tDA cl K W f σ H Q1 := by
  refine ⟨O, P, R, env, r, ?_⟩
  cases e : f env with
  | ok d env1 => rw [e] at h; exact fun v H1 m r1 d1 => q d env1 v H1 r1 d1 (h.of_mv m)
  | err c fs env1 => rw [e] at h; exact h
  | bad => rw [e] at h; exact h
end

/-! ### names, constants -/
def dVar (i : Nat) : EF := fun env => match env[i]? with
  | some (.pu d) => .ok d env
  | _ => .bad
def dC (d : D) : EF := fun env => .ok d env
def flatD : D → Option V
  | .non => some .non
  | .bl b => some (.bl b)
  | .int i => some (.int i)
  | .str x => some (.str x)
  | _ => none
theorem flatD_dr {cl : Nat → Addr} {K : PySem.W.Frag} {H : Hp} : ∀ {d : D} {v : V}, flatD d = some v → Dr cl K H v d
  | .non, _, h => by cases h; exact .non
  | .bl b, _, h => by cases h; exact .bl b
  | .int i, _, h => by cases h; exact .int i
  | .str x, _, h => by cases h; exact .str x

section
variable {X : Cx} {cl : Nat → Addr} {W : WX}
/-- an expression is as the function says -/
abbrev SE (X : Cx) (cl : Nat → Addr) (W : WX) (e : Expr) (f : EF) : Prop := PE X e (tD cl X.K W f)
abbrev SA (X : Cx) (cl : Nat → Addr) (W : WX) (es : List Expr) (f : AF) : Prop := PA X es (tDA cl X.K W f)
abbrev SB (X : Cx) (cl : Nat → Addr) (W : WX) (e : Expr) (f : EF) : Prop := PT X e (tDT cl X.K W f)

theorem s_var (i : Nat) {x : Str} {pos : Pos} (hN : X.N[i]? = some x := by rfl) (hv : Vis X.env.scope x := by first | exact Or.inl rfl | exact Or.inr (Or.inl rfl) | exact Or.inr (Or.inr rfl))
    (hd : (x == ("__debug__" : Str)) = false := by decide) (hcd : (x == ("__classdict__" : Str)) = false := by decide) : SE X cl W (.Name x pos) (dVar i) :=
  eImp (pe_var hN hv hd hcd) fun σ H Q ⟨O, P, R, env, r, h⟩ => by
    unfold dVar at h
    split at h
    · rename_i d e
      obtain ⟨v, e1, e2⟩ := r.pu i d e
      exact ⟨v, e1, h v H Mv.refl r e2⟩
    · exact h.elim
theorem s_const {e : Expr} {v : V} {d : D} (h : PE X e (tC v)) (f : flatD d = some v) : SE X cl W e (dC d) :=
  eImp h fun σ H Q ⟨O, P, R, env, r, q⟩ => q v H Mv.refl r (flatD_dr f)
theorem s_int {i : Int} {j pos} : SE X cl W (.Constant (.int i) j pos) (dC (.int i)) := s_const pe_int rfl
theorem s_bl {b : Bool} {j pos} : SE X cl W (.Constant (.bool b) j pos) (dC (.bl b)) := s_const pe_bl rfl
theorem s_non {j pos} : SE X cl W (.Constant .none j pos) (dC .non) := s_const pe_non rfl
theorem s_str {x : Str} {j pos} : SE X cl W (.Constant (.str x) j pos) (dC (.str x)) := s_const pe_str rfl
/-- a name of the module that holds an int -/
theorem s_glob {x : Str} {i : Int} {u : Value} {pos : Pos} (hg : Gl X x) (hm : X.mg x = some u) (r : RelV (.int i) u) (hd : (x == ("__debug__" : Str)) = false := by decide) : SE X cl W (.Name x pos) (dC (.int i)) :=
  s_const (pe_glob hg hm r hd) rfl
end

/-! ### operators on values -/
/-- what follows with data z behind: new objects at most -/
abbrev Gv (cl : Nat → Addr) (K : PySem.W.Frag) (O : Addr → Bool) (H : Hp) (z : D) (Q : VK) : Prop := ∀ v H', Same H H' → Dr cl K (cut H' O) v z → Q v H'
/-- an operator of two values gives what g says -/
def OpD (X : Cx) (cl : Nat → Addr) (f : Value → Value → Sem Value) (g : D → D → Option D) : Prop := ∃ r : R2, OpR X f r ∧
  ∀ (O : Addr → Bool) (H : Hp) (x y : V) (dx dy z : D) (Q : VK), Dom O H → Dr cl X.K (cut H O) x dx → Dr cl X.K (cut H O) y dy → g dx dy = some z → Gv cl X.K O H z Q → r x y H Q
def dOp (g : D → D → Option D) (a b : EF) : EF := fun env => (a env).bind fun x env1 => (b env1).bind fun y env2 => match g x y with
  | some z => .ok z env2
  | none => .bad
section
variable {X : Cx} {cl : Nat → Addr} {W : WX}
theorem tOp_of {K : PySem.W.Frag} {fa fb : EF} {g : D → D → Option D} {r : R2}
    (hr : ∀ (O : Addr → Bool) (H : Hp) (x y : V) (dx dy z : D) (Q : VK), Dom O H → Dr cl K (cut H O) x dx → Dr cl K (cut H O) y dy → g dx dy = some z → Gv cl K O H z Q → r x y H Q)
    (σ : St) (H : Hp) (Q : VK) : tD cl K W (dOp g fa fb) σ H Q → tOp r (tD cl K W fa) (tD cl K W fb) σ H Q := fun ⟨O, P, R, env, rel, h⟩ => by
  refine Post.bind (f := fa) rel h fun dx env1 x H1 r1 d1 h1 => ?_
  refine ⟨O, P, R, env1, r1, ?_⟩
  cases e : fb env1 with
  | ok dy env2 =>
    rw [e] at h1
    refine fun y H2 m r2 d2 => ?_
    have h2 := Post.of_mv m h1
    simp only [Res.bind_ok] at h2
    cases eg : g dx dy with
    | none => rw [eg] at h2; exact h2.elim
    | some z =>
      rw [eg] at h2
      exact hr O H2 x y dx dy z Q r2.dom (d1.mono m.cut) d2 eg fun v H' s' dz => h2 v H' (Mv.same s' r2.dom) (r2.same s') dz
  | err c fs env2 => rw [e] at h1; exact h1
  | bad => rw [e] at h1; exact h1
theorem s_op {op : Operator} {g : D → D → Option D} {a b : Expr} {fa fb : EF} {pos : Pos} (ho : OpD X cl (binaryOp op) g) (ha : SE X cl W a fa) (hb : SE X cl W b fb) : SE X cl W (.BinOp a op b pos) (dOp g fa fb) := by
  obtain ⟨r, h1, h2⟩ := ho
  exact eImp (pe_op h1 ha hb) (tOp_of h2)
theorem s_cmp {op : CmpOp} {g : D → D → Option D} {a b : Expr} {fa fb : EF} {pos : Pos} (ho : OpD X cl (compareOp op) g) (ha : SE X cl W a fa) (hb : SE X cl W b fb) (hm : behindInMarks op b = false) : SE X cl W (.Compare a [op] [b] pos) (dOp g fa fb) := by
  obtain ⟨r, h1, h2⟩ := ho
  exact eImp (pe_cmpR h1 ha hb hm) (tOp_of h2)
/-- either of two rules -/
theorem OpD.or {f : Value → Value → Sem Value} {g g' : D → D → Option D} (h : OpD X cl f g) (h' : OpD X cl f g') : OpD X cl f fun x y => (g x y).or (g' x y) := by
  obtain ⟨r, h1, h2⟩ := h
  obtain ⟨r', h3, h4⟩ := h'
  refine ⟨fun x y H Q => r x y H Q ∨ r' x y H Q, ?_, fun O H x y dx dy z Q dm hx hy hg q => ?_⟩
  · intro pins s σ H x y vx vy Q I rx ry h
    rcases h with h | h
    · exact h1 pins s σ H x y vx vy Q I rx ry h
    · exact h3 pins s σ H x y vx vy Q I rx ry h
  · replace hg : (g dx dy).or (g' dx dy) = some z := hg
    cases e : g dx dy with
    | some w => rw [e] at hg; exact .inl (h2 O H x y dx dy w Q dm hx hy e (by cases hg; exact q))
    | none => rw [e] at hg; exact .inr (h4 O H x y dx dy z Q dm hx hy hg q)
end
end DL

end
section
namespace DL
open PySem PySem.Spec L2

section
variable {X : Cx} {cl : Nat → Addr} {W : WX}
theorem dr_int {K : PySem.W.Frag} {H : Hp} {v : V} {i : Int} (h : Dr cl K H v (.int i)) : v = .int i := by cases h; rfl
theorem dr_bl {K : PySem.W.Frag} {H : Hp} {v : V} {i : Bool} (h : Dr cl K H v (.bl i)) : v = .bl i := by cases h; rfl
theorem dr_str {K : PySem.W.Frag} {H : Hp} {v : V} {i : Str} (h : Dr cl K H v (.str i)) : v = .str i := by cases h; rfl
theorem dr_non {K : PySem.W.Frag} {H : Hp} {v : V} (h : Dr cl K H v .non) : v = .non := by cases h; rfl
theorem dr_tup {K : PySem.W.Frag} {H : Hp} {v : V} {ds : List D} (h : Dr cl K H v (.tup ds)) : ∃ a vs, v = .ref a ∧ SqT K H a vs ∧ DrA cl K H vs ds := by cases h; exact ⟨_, _, rfl, by assumption, by assumption⟩
theorem dr_lst {K : PySem.W.Frag} {H : Hp} {v : V} {ds : List D} (h : Dr cl K H v (.lst ds)) : ∃ a vs, v = .ref a ∧ H a = some (.lst vs) ∧ DrA cl K H vs ds := by cases h; exact ⟨_, _, rfl, by assumption, by assumption⟩
theorem same_new {H : Hp} {p : Addr} {o : HO} (h : H p = none) : Same H (upd H p o) := fun b x e => by
  rw [upd_ne (ne_of_none e h)]
  exact e
theorem cut_new {H : Hp} {O : Addr → Bool} {p : Addr} {o : HO} (d : Dom O H) (h : H p = none) (hn : nT o = true := by rfl) : cut (upd H p o) O p = some o := by
  refine cut_ge upd_same ?_ hn
  cases e : O p with
  | false => rfl
  | true =>
    obtain ⟨vs, q⟩ := d p e
    rw [h] at q; cases q
theorem cut_same {H H' : Hp} {O : Addr → Bool} (e : Same H H') : Same (cut H O) (cut H' O) := cut_of fun a o h _ z => ⟨h, e a o z⟩
/-- a new tuple, a new list -/
theorem dr_newT {K : PySem.W.Frag} {H : Hp} {O : Addr → Bool} {p : Addr} {vs : List V} {ds : List D} (d : Dom O H) (h : H p = none) (r : DrA cl K (cut H O) vs ds) : Dr cl K (cut (upd H p (.tup vs)) O) (.ref p) (.tup ds) :=
  .tup (.inl (.inl (cut_new d h))) (r.mono (cut_same (same_new h)))
theorem dr_newL {K : PySem.W.Frag} {H : Hp} {O : Addr → Bool} {p : Addr} {vs : List V} {ds : List D} (d : Dom O H) (h : H p = none) (r : DrA cl K (cut H O) vs ds) : Dr cl K (cut (upd H p (.lst vs)) O) (.ref p) (.lst ds) :=
  .lst (cut_new d h) (r.mono (cut_same (same_new h)))

/-! ### numbers -/
def gII (k : Int → Int → Option D) : D → D → Option D
  | .int i, .int j => k i j
  | _, _ => none
theorem gII_some {k : Int → Int → Option D} {x y z : D} (h : gII k x y = some z) : ∃ i j, x = .int i ∧ y = .int j ∧ k i j = some z := by
  cases x <;> cases y <;> simp_all [gII]
theorem od_I {f : Value → Value → Sem Value} {g : Int → Int → V} {k : Int → Int → Option D} (h : OpR X f (rI0 g)) (hk : ∀ i j z, k i j = some z → flatD z = some (g i j)) : OpD X cl f (gII k) :=
  ⟨_, h, fun O H x y dx dy z Q dm hx hy e q => by
    obtain ⟨i, j, rfl, rfl, e2⟩ := gII_some e
    rw [dr_int hx, dr_int hy]
    exact ⟨i, j, rfl, rfl, q _ H (Same.refl H) (flatD_dr (hk i j z e2))⟩⟩
theorem od_IC {f : Value → Value → Sem Value} {C : Int → Int → Prop} {g : Int → Int → V} {k : Int → Int → Option D} (h : OpR X f (rI C g)) (hk : ∀ i j z, k i j = some z → C i j ∧ flatD z = some (g i j)) : OpD X cl f (gII k) :=
  ⟨_, h, fun O H x y dx dy z Q dm hx hy e q => by
    obtain ⟨i, j, rfl, rfl, e2⟩ := gII_some e
    rw [dr_int hx, dr_int hy]
    exact ⟨i, j, rfl, rfl, (hk i j z e2).1, q _ H (Same.refl H) (flatD_dr (hk i j z e2).2)⟩⟩
def big64 (i : Int) : Bool := decide (-(2 ^ 64) < i) && decide (i < 2 ^ 64)
def gAddI := gII fun i j => some (.int (i + j))
def gSub := gII fun i j => some (.int (i - j))
def gMulI := gII fun i j => if big64 i || big64 j then some (.int (i * j)) else none
def gDiv := gII fun i j => if j ≠ 0 ∧ j.natAbs < 1073741824 then some (.int (i.fdiv j)) else none
def gMod := gII fun i j => if j ≠ 0 then some (.int (i.fmod j)) else none
def gPow := gII fun i j => if 0 ≤ j ∧ j ≤ 1000000 ∧ i.natAbs < 2 ^ 64 then some (.int (i ^ j.toNat)) else none
def gLt := gII fun i j => some (.bl (decide (i < j)))
def gLe := gII fun i j => some (.bl (decide (i ≤ j)))
def gGt := gII fun i j => some (.bl (decide (j < i)))
def gGe := gII fun i j => some (.bl (decide (j ≤ i)))
theorem od_addI : OpD X cl (binaryOp .Add) gAddI := od_I op_add fun i j z h => by cases h; rfl
theorem od_sub : OpD X cl (binaryOp .Sub) gSub := od_I op_sub fun i j z h => by cases h; rfl
theorem od_mulI : OpD X cl (binaryOp .Mult) gMulI := od_IC op_mul fun i j z h => by
  split at h
  · rename_i c
    cases h
    refine ⟨?_, rfl⟩
    simp only [big64, Bool.or_eq_true, Bool.and_eq_true, decide_eq_true_eq] at c
    exact c
  · cases h
theorem od_div : OpD X cl (binaryOp .FloorDiv) gDiv := od_IC op_fdivN fun i j z h => by
  split at h
  · rename_i c; cases h; exact ⟨c, rfl⟩
  · cases h
theorem od_mod : OpD X cl (binaryOp .Mod) gMod := od_IC op_modN fun i j z h => by
  split at h
  · rename_i c; cases h; exact ⟨c, rfl⟩
  · cases h
theorem od_pow : OpD X cl (binaryOp .Pow) gPow := od_IC op_pow fun i j z h => by
  split at h
  · rename_i c; cases h; exact ⟨c, rfl⟩
  · cases h
theorem od_lt : OpD X cl (compareOp .Lt) gLt := od_I op_lt fun i j z h => by cases h; rfl
theorem od_le : OpD X cl (compareOp .LtE) gLe := od_I op_le fun i j z h => by cases h; rfl
theorem od_gt : OpD X cl (compareOp .Gt) gGt := od_I op_gt fun i j z h => by cases h; rfl
theorem od_ge : OpD X cl (compareOp .GtE) gGe := od_I op_ge fun i j z h => by cases h; rfl

/-! ### texts, tuples, lists -/
def gAddS : D → D → Option D
  | .str x, .str y => if x.length + y.length ≤ sizeLine then some (.str (x ++ y)) else none
  | _, _ => none
def gCatT : D → D → Option D
  | .tup xs, .tup ys => if xs.length + ys.length ≤ sizeLine then some (.tup (xs ++ ys)) else none
  | _, _ => none
def gCatL : D → D → Option D
  | .lst xs, .lst ys => if xs.length + ys.length ≤ sizeLine then some (.lst (xs ++ ys)) else none
  | _, _ => none
theorem od_addS : OpD X cl (binaryOp .Add) gAddS := ⟨_, op_add_str, fun O H x y dx dy z Q dm hx hy e q => by
  cases dx <;> cases dy <;> simp only [gAddS, reduceCtorEq] at e
  split at e
  · rename_i c
    cases e
    rw [dr_str hx, dr_str hy]
    exact ⟨_, _, rfl, rfl, c, q _ H (Same.refl H) (.str _)⟩
  · cases e⟩
theorem od_catT : OpD X cl (binaryOp .Add) gCatT := ⟨_, op_catA, fun O H x y dx dy z Q dm hx hy e q => by
  cases dx <;> cases dy <;> simp only [gCatT, reduceCtorEq] at e
  split at e
  · rename_i xs ys c
    cases e
    obtain ⟨a, vs, rfl, hs, r1⟩ := dr_tup hx
    obtain ⟨b, ws, rfl, ht, r2⟩ := dr_tup hy
    have l1 := r1.length
    have l2 := r2.length
    refine ⟨a, b, vs, ws, rfl, rfl, sqT_mono cut_le hs, sqT_mono cut_le ht, by omega, fun n => ?_, fun n1 n2 => ?_, fun n1 n2 p hp => ?_⟩
    · subst n
      have : xs = [] := List.length_eq_zero_iff.mp (by rw [← l1]; rfl)
      subst this
      exact q _ H (Same.refl H) (by rw [List.nil_append]; exact hy)
    · subst n2
      have : ys = [] := List.length_eq_zero_iff.mp (by rw [← l2]; rfl)
      subst this
      exact q _ H (Same.refl H) (by rw [List.append_nil]; exact hx)
    · exact q _ _ (same_new hp) (dr_newT dm hp (r1.append r2))
  · cases e⟩
theorem od_catL : OpD X cl (binaryOp .Add) gCatL := ⟨_, op_cat, fun O H x y dx dy z Q dm hx hy e q => by
  cases dx <;> cases dy <;> simp only [gCatL, reduceCtorEq] at e
  split at e
  · rename_i xs ys c
    cases e
    obtain ⟨a, vs, rfl, hs, r1⟩ := dr_lst hx
    obtain ⟨b, ws, rfl, ht, r2⟩ := dr_lst hy
    have l1 := r1.length
    have l2 := r2.length
    exact ⟨a, b, vs, ws, rfl, rfl, cut_le _ _ hs, cut_le _ _ ht, by omega, fun p hp => q _ _ (same_new hp) (dr_newL dm hp (r1.append r2))⟩
  · cases e⟩
def gAdd : D → D → Option D := fun x y => ((gAddI x y).or (gAddS x y)).or ((gCatT x y).or (gCatL x y))
theorem od_add : OpD X cl (binaryOp .Add) gAdd := (od_addI.or od_addS).or (od_catT.or od_catL)
@[simp] theorem gAdd_int (i j : Int) : gAdd (.int i) (.int j) = some (.int (i + j)) := rfl
theorem gAdd_tup (xs ys : List D) (h : xs.length + ys.length ≤ sizeLine) : gAdd (.tup xs) (.tup ys) = some (.tup (xs ++ ys)) := by simp [gAdd, gAddI, gII, gAddS, gCatT, gCatL, h]
theorem gAdd_lst (xs ys : List D) (h : xs.length + ys.length ≤ sizeLine) : gAdd (.lst xs) (.lst ys) = some (.lst (xs ++ ys)) := by simp [gAdd, gAddI, gII, gAddS, gCatT, gCatL, h]
theorem gAdd_str (x y : Str) (h : x.length + y.length ≤ sizeLine) : gAdd (.str x) (.str y) = some (.str (x ++ y)) := by simp [gAdd, gAddI, gII, gAddS, gCatT, gCatL, h]

def gRepL : D → D → Option D
  | .lst xs, .int k => if -(2 ^ 63) ≤ k ∧ k < 2 ^ 63 ∧ xs.length * k.toNat ≤ sizeLine then some (.lst (List.replicate k.toNat xs).flatten) else none
  | _, _ => none
theorem DrA.rep {K : PySem.W.Frag} {H : Hp} {vs : List V} {ds : List D} (h : DrA cl K H vs ds) : ∀ n : Nat, DrA cl K H (List.replicate n vs).flatten (List.replicate n ds).flatten
  | 0 => .nil
  | n + 1 => by
    rw [List.replicate_succ, List.replicate_succ, List.flatten_cons, List.flatten_cons]
    exact h.append (DrA.rep h n)
theorem od_repL : OpD X cl (binaryOp .Mult) gRepL := ⟨_, op_rep, fun O H x y dx dy z Q dm hx hy e q => by
  cases dx <;> cases dy <;> simp only [gRepL, reduceCtorEq] at e
  split at e
  · rename_i xs k c
    cases e
    obtain ⟨a, vs, rfl, hs, r1⟩ := dr_lst hx
    rw [dr_int hy]
    exact ⟨a, k, vs, rfl, rfl, cut_le _ _ hs, c.1, c.2.1, by rw [r1.length]; exact c.2.2, fun p hp => q _ _ (same_new hp) (dr_newL dm hp (r1.rep k.toNat))⟩
  · cases e⟩
end
end DL

end
section
namespace DL
open PySem PySem.Spec L2

/-! ### truth -/
def truthD : D → Option Bool
  | .non => some false
  | .bl b => some b
  | .int i => some (i != 0)
  | .str y => if y.length ≤ sizeLine then some ((y.length : Int) != 0) else none
  | .lst xs => some !xs.isEmpty
  | .tup xs => some !xs.isEmpty
  | .fz xs => some !xs.isEmpty
  | .dk ks xs => some !xs.isEmpty
  | .obj _ _ => none
/-- as a test, whatever it is -/
def dTru (f : EF) : EF := fun env => (f env).bind fun d env1 => match truthD d with
  | some b => .ok (.bl b) env1
  | none => .bad
section
variable {X : Cx} {cl : Nat → Addr} {W : WX}
theorem isEmpty_dr {K : PySem.W.Frag} {H : Hp} {vs : List V} {ds : List D} (r : DrA cl K H vs ds) : (!ds.isEmpty) = !vs.isEmpty := by cases r <;> rfl
theorem truthD_ok {K : PySem.W.Frag} {H : Hp} {v : V} {d : D} {b : Bool} (r : Dr cl K H v d) (e : truthD d = some b) : TruV K v H b := by
  cases r with
  | non => cases e; rfl
  | bl c => cases e; rfl
  | int i => cases e; rfl
  | str x =>
    simp only [truthD] at e
    split at e
    · rename_i h; cases e; exact ⟨h, rfl⟩
    · cases e
  | lst h q => cases e; exact .inl ⟨_, .inl (.inl h), isEmpty_dr q⟩
  | tup h q => cases e; exact .inr (.inl ⟨_, h, isEmpty_dr q⟩)
  | fz h q => cases e; exact .inl ⟨_, h, isEmpty_dr q⟩
  | @dk a ks vs ds h l q =>
    cases e
    refine .inr (.inr ⟨_, h, ?_⟩)
    cases q with
    | nil => cases ks with
      | nil => rfl
      | cons _ _ => cases l
    | cons _ _ => cases ks with
      | nil => cases l
      | cons _ _ => rfl
  | obj h q => cases e
  | ex0 _ => cases e
  | ex1 _ _ _ => cases e
theorem truV_le {K : PySem.W.Frag} {H H' : Hp} {v : V} {b : Bool} (e : Same H H') (h : TruV K v H b) : TruV K v H' b := by
  cases v <;> try exact h
  rcases h with ⟨xs, h, k⟩ | ⟨xs, h, k⟩ | ⟨kvs, h, k⟩
  · exact .inl ⟨xs, e.seq h, k⟩
  · exact .inr (.inl ⟨xs, sqT_mono e h, k⟩)
  · exact .inr (.inr ⟨kvs, e _ _ h, k⟩)
theorem b_tru {e : Expr} {f : EF} (h : SE X cl W e f) (he : ∀ whole, isTrue e X.env whole = (do let v ← whole; standAt e.pos; holding [v] (truthy v)) := by intro _; rfl) : SB X cl W e (dTru f) :=
  tImp (pt_truth h he) fun σ H Q ⟨O, P, R, env, rel, q⟩ => by
    refine ⟨O, P, R, env, rel, ?_⟩
    unfold dTru at q
    cases ef : f env with
    | ok d env1 =>
      rw [ef, Res.bind_ok] at q
      refine fun v H1 m r1 d1 => ?_
      cases et : truthD d with
      | some b => rw [et] at q; exact ⟨b, truV_le cut_le (truthD_ok d1 et), q H1 m r1⟩
      | none => rw [et] at q; exact q.elim
    | err c fs env1 => rw [ef] at q; exact q
    | bad => rw [ef] at q; exact q

/-! ### and, or, not, if -/
def dAnd (f g : EF) : EF := fun env => (f env).bind fun d env1 => match d with
  | .bl true => g env1
  | .bl false => .ok (.bl false) env1
  | _ => .bad
def dOr (f g : EF) : EF := fun env => (f env).bind fun d env1 => match d with
  | .bl true => .ok (.bl true) env1
  | .bl false => g env1
  | _ => .bad
def dNot (f : EF) : EF := fun env => (f env).bind fun d env1 => match d with
  | .bl b => .ok (.bl !b) env1
  | _ => .bad
def dIf (t f g : EF) : EF := fun env => (t env).bind fun d env1 => match d with
  | .bl true => f env1
  | .bl false => g env1
  | _ => .bad
theorem PostT.bind {K : PySem.W.Frag} {O P R : Addr → Bool} {σ : L2.St} {H : Hp} {env : Slots} {Q : Bool → Hp → Prop} {f : EF} {k : D → Slots → Res D} (r : RelE cl K O P R env σ H) (hk : ∀ d env1, (∀ b, d ≠ .bl b) → k d env1 = .bad) (h : PostT cl K W O P R σ H Q ((f env).bind k))
    {Q1 : Bool → Hp → Prop} (q : ∀ b env1 H1, RelE cl K O P R env1 σ H1 → PostT cl K W O P R σ H1 Q (k (.bl b) env1) → Q1 b H1) : tDT cl K W f σ H Q1 := by
  refine ⟨O, P, R, env, r, ?_⟩
  cases e : f env with
  | ok d env1 =>
    rw [e] at h
    cases d with
    | bl b => exact fun H1 m r1 => q b env1 H1 r1 (h.of_mv m)
    | _ => rw [Res.bind_ok, hk _ _ (by intro b z; cases z)] at h; exact h.elim
  | err c fs env1 => rw [e] at h; exact h
  | bad => rw [e] at h; exact h
theorem bad_and {g : EF} : ∀ d env1, (∀ b, d ≠ D.bl b) → (match d with | .bl true => g env1 | .bl false => .ok (.bl false) env1 | _ => .bad : Res D) = .bad := fun d env1 h => by
  cases d <;> first | rfl | exact absurd rfl (h _)
theorem w_and1 {a : Expr} {f : EF} {pos : Pos} (h : SB X cl W a f) : PW X (.BoolOp .And [a] pos) (tDT cl X.K W f) := pw_and1 h
theorem w_or1 {a : Expr} {f : EF} {pos : Pos} (h : SB X cl W a f) : PW X (.BoolOp .Or [a] pos) (tDT cl X.K W f) := pw_or1 h
theorem wImp {e : Expr} {t t' : TT} (h : PW X e t) (i : ∀ σ H Q, t' σ H Q → t σ H Q) : PW X e t' := ⟨fun whole pins s σ H Q I q => h.run whole pins s σ H Q I (i _ _ _ q)⟩
theorem w_and {a b : Expr} {rest : List Expr} {f g : EF} {pos : Pos} (ha : SB X cl W a f) (hb : PW X (.BoolOp .And (b :: rest) pos) (tDT cl X.K W g)) : PW X (.BoolOp .And (a :: b :: rest) pos) (tDT cl X.K W (dAnd f g)) :=
  wImp (pw_and ha hb) fun σ H Q ⟨O, P, R, env, rel, q⟩ => PostT.bind (f := f) rel (fun d env1 h => by cases d <;> first | rfl | exact absurd rfl (h _)) q fun b env1 H1 r1 h1 => by
    cases b with
    | true => rw [if_pos rfl]; exact ⟨O, P, R, env1, r1, h1⟩
    | false => rw [if_neg Bool.false_ne_true]; exact h1 H1 Mv.refl r1
theorem w_or {a b : Expr} {rest : List Expr} {f g : EF} {pos : Pos} (ha : SB X cl W a f) (hb : PW X (.BoolOp .Or (b :: rest) pos) (tDT cl X.K W g)) : PW X (.BoolOp .Or (a :: b :: rest) pos) (tDT cl X.K W (dOr f g)) :=
  wImp (pw_or ha hb) fun σ H Q ⟨O, P, R, env, rel, q⟩ => PostT.bind (f := f) rel (fun d env1 h => by cases d <;> first | rfl | exact absurd rfl (h _)) q fun b env1 H1 r1 h1 => by
    cases b with
    | true => rw [if_pos rfl]; exact h1 H1 Mv.refl r1
    | false => rw [if_neg Bool.false_ne_true]; exact ⟨O, P, R, env1, r1, h1⟩
theorem b_not {a : Expr} {f : EF} {pos : Pos} (ha : SB X cl W a f) : SB X cl W (.UnaryOp .Not a pos) (dNot f) :=
  tImp (pt_not ha) fun σ H Q ⟨O, P, R, env, rel, q⟩ => PostT.bind (f := f) rel (fun d env1 h => by cases d <;> first | rfl | exact absurd rfl (h _)) q fun b env1 H1 r1 h1 => h1 H1 Mv.refl r1
/-- as values: True or False -/
theorem s_one {a : Expr} {op : BoolOp} {f : EF} {pos : Pos} (h : SE X cl W a f) : SE X cl W (.BoolOp op [a] pos) f := pe_one h
theorem s_and {a b : Expr} {rest : List Expr} {f g : EF} {pos : Pos} (ha : SE X cl W a f) (hb : SE X cl W (.BoolOp .And (b :: rest) pos) g) : SE X cl W (.BoolOp .And (a :: b :: rest) pos) (dAnd f g) :=
  eImp (pe_and ha hb) fun σ H Q ⟨O, P, R, env, rel, q⟩ => Post.bind (f := f) rel q fun d env1 v H1 r1 d1 h1 => by
    cases d with
    | bl b =>
      refine ⟨b, dr_bl d1, ?_⟩
      cases b with
      | true => rw [if_pos rfl]; exact ⟨O, P, R, env1, r1, h1⟩
      | false => rw [if_neg Bool.false_ne_true]; exact h1 _ H1 Mv.refl r1 (.bl false)
    | _ => exact h1.elim
theorem s_or {a b : Expr} {rest : List Expr} {f g : EF} {pos : Pos} (ha : SE X cl W a f) (hb : SE X cl W (.BoolOp .Or (b :: rest) pos) g) : SE X cl W (.BoolOp .Or (a :: b :: rest) pos) (dOr f g) :=
  eImp (pe_or ha hb) fun σ H Q ⟨O, P, R, env, rel, q⟩ => Post.bind (f := f) rel q fun d env1 v H1 r1 d1 h1 => by
    cases d with
    | bl b =>
      refine ⟨b, dr_bl d1, ?_⟩
      cases b with
      | true => rw [if_pos rfl]; exact h1 _ H1 Mv.refl r1 (.bl true)
      | false => rw [if_neg Bool.false_ne_true]; exact ⟨O, P, R, env1, r1, h1⟩
    | _ => exact h1.elim
theorem s_not {a : Expr} {f : EF} {pos : Pos} (ha : SE X cl W a f) : SE X cl W (.UnaryOp .Not a pos) (dNot f) :=
  eImp (pe_not ha) fun σ H Q ⟨O, P, R, env, rel, q⟩ => Post.bind (f := f) rel q fun d env1 v H1 r1 d1 h1 => by
    cases d with
    | bl b => exact ⟨b, dr_bl d1, h1 _ H1 Mv.refl r1 (.bl _)⟩
    | _ => exact h1.elim
theorem s_if {c a b : Expr} {t f g : EF} {pos : Pos} (hc : SB X cl W c t) (ha : SE X cl W a f) (hb : SE X cl W b g) : SE X cl W (.IfExp c a b pos) (dIf t f g) :=
  eImp (pe_ifExp hc ha hb) fun σ H Q ⟨O, P, R, env, rel, q⟩ => Post.bindT (f := t) rel (fun d env1 h => by cases d <;> first | rfl | exact absurd rfl (h _)) q fun b env1 H1 r1 h1 => by
    cases b with
    | true => rw [if_pos rfl]; exact ⟨O, P, R, env1, r1, h1⟩
    | false => rw [if_neg Bool.false_ne_true]; exact ⟨O, P, R, env1, r1, h1⟩

/-! ### argument lists, displays -/
def dNil : AF := fun env => .ok [] env
def dCons (f : EF) (g : AF) : AF := fun env => (f env).bind fun d env1 => (g env1).bind fun ds env2 => .ok (d :: ds) env2
theorem PostA.bind {K : PySem.W.Frag} {O P R : Addr → Bool} {σ : L2.St} {H : Hp} {env : Slots} {Q : List V → Hp → Prop} {f : EF} {k : D → Slots → Res (List D)} (r : RelE cl K O P R env σ H) (h : PostA cl K W O P R σ H Q ((f env).bind k))
    {Q1 : VK} (q : ∀ d env1 v H1, RelE cl K O P R env1 σ H1 → Dr cl K (cut H1 O) v d → PostA cl K W O P R σ H1 Q (k d env1) → Q1 v H1) : tD cl K W f σ H Q1 := by
  refine ⟨O, P, R, env, r, ?_⟩
  cases e : f env with
  | ok d env1 => rw [e] at h; exact fun v H1 m r1 d1 => q d env1 v H1 r1 d1 (h.of_mv m)
  | err c fs env1 => rw [e] at h; exact h
  | bad => rw [e] at h; exact h
theorem a_nil : SA X cl W [] dNil := aImp pa_nil fun σ H Q ⟨O, P, R, env, rel, q⟩ => q [] H Mv.refl rel .nil
theorem a_cons {e : Expr} {es : List Expr} {f : EF} {g : AF} (ha : SE X cl W e f) (hr : SA X cl W es g) (hs : starEach (e :: es) X.env = (false, eval e X.env) :: starEach es X.env := by rfl) : SA X cl W (e :: es) (dCons f g) :=
  aImp (pa_cons ha hr hs) fun σ H Q ⟨O, P, R, env, rel, q⟩ => PostA.bind (f := f) rel q fun d env1 v H1 r1 d1 h1 => by
    refine ⟨O, P, R, env1, r1, ?_⟩
    cases e2 : g env1 with
    | ok ds env2 => rw [e2] at h1; exact fun vs H2 m r2 d2 => h1 (v :: vs) H2 m r2 (.cons (d1.mono m.cut) d2)
    | err c fs env2 => rw [e2] at h1; exact h1
    | bad => rw [e2] at h1; exact h1
def dTup (f : AF) : EF := fun env => (f env).bind fun ds env1 => if ds.length ≤ sizeLine then .ok (.tup ds) env1 else .bad
def dLst (f : AF) : EF := fun env => (f env).bind fun ds env1 => if ds.length ≤ sizeLine then .ok (.lst ds) env1 else .bad
theorem s_tup {es : List Expr} {f : AF} {n : Nat} {pos : Pos} (h : SA X cl W es f) : SE X cl W (.Tuple es n pos) (dTup f) :=
  eImp (pe_tup h) fun σ H Q ⟨O, P, R, env, rel, q⟩ => Post.bindA (f := f) rel q fun ds env1 vs H1 r1 d1 h1 => by
    split at h1
    · rename_i hl
      exact ⟨by rw [d1.length]; exact hl, fun p hp => h1 _ _ (Mv.same (same_new hp) r1.dom) (r1.same (same_new hp)) (dr_newT r1.dom hp d1)⟩
    · exact h1.elim
theorem s_lst {es : List Expr} {f : AF} {pos : Pos} (h : SA X cl W es f) : SE X cl W (.List es pos) (dLst f) :=
  eImp (pe_lst h) fun σ H Q ⟨O, P, R, env, rel, q⟩ => Post.bindA (f := f) rel q fun ds env1 vs H1 r1 d1 h1 => by
    split at h1
    · rename_i hl
      exact ⟨by rw [d1.length]; exact hl, fun p hp => h1 _ _ (Mv.same (same_new hp) r1.dom) (r1.same (same_new hp)) (dr_newL r1.dom hp d1)⟩
    · exact h1.elim

/-! ### one value in, one out -/
def UnD (X : Cx) (cl : Nat → Addr) (r : V → Hp → VK → Prop) (g : D → Option D) : Prop :=
  ∀ (O : Addr → Bool) (H : Hp) (x : V) (dx z : D) (Q : VK), Dom O H → Dr cl X.K (cut H O) x dx → g dx = some z → Gv cl X.K O H z Q → r x H Q
def dUn (g : D → Option D) (a : EF) : EF := fun env => (a env).bind fun x env1 => match g x with
  | some z => .ok z env1
  | none => .bad
theorem s_un {op : UnaryOp} {r : V → Hp → VK → Prop} {g : D → Option D} {a : Expr} {f : EF} {pos : Pos} (ho : UnR X (unaryOp op) r) (hg : UnD X cl r g) (ha : SE X cl W a f) : SE X cl W (.UnaryOp op a pos) (dUn g f) :=
  eImp (pe_un ho ha) fun σ H Q ⟨O, P, R, env, rel, q⟩ => Post.bind (f := f) rel q fun d env1 v H1 r1 d1 h1 => by
    cases e : g d with
    | some z => rw [e] at h1; exact hg O H1 v d z Q r1.dom d1 e fun u H' s' dz => h1 u H' (Mv.same s' r1.dom) (r1.same s') dz
    | none => rw [e] at h1; exact h1.elim
def gNeg : D → Option D
  | .int i => some (.int (-i))
  | _ => none
theorem s_neg {a : Expr} {f : EF} {pos : Pos} (ha : SE X cl W a f) : SE X cl W (.UnaryOp .USub a pos) (dUn gNeg f) :=
  s_un un_neg (fun O H x dx z Q dm hx e q => by
    cases dx <;> simp only [gNeg, reduceCtorEq] at e
    cases e
    rw [dr_int hx]
    exact ⟨_, rfl, q _ H (Same.refl H) (.int _)⟩) ha

/-! ### calls of built-ins by values -/
def CallD (X : Cx) (cl : Nat → Addr) (r : List V → Hp → VK → Prop) (g : List D → Option D) : Prop :=
  ∀ (O : Addr → Bool) (H : Hp) (xs : List V) (ds : List D) (z : D) (Q : VK), Dom O H → DrA cl X.K (cut H O) xs ds → g ds = some z → Gv cl X.K O H z Q → r xs H Q
def dCB (g : List D → Option D) (a : AF) : EF := fun env => (a env).bind fun xs env1 => match g xs with
  | some z => .ok z env1
  | none => .bad
theorem tCB_of {K : PySem.W.Frag} {r : List V → Hp → VK → Prop} {g : List D → Option D} {f : AF}
    (hg : ∀ (O : Addr → Bool) (H : Hp) (xs : List V) (ds : List D) (z : D) (Q : VK), Dom O H → DrA cl K (cut H O) xs ds → g ds = some z → Gv cl K O H z Q → r xs H Q) (σ : L2.St) (H : Hp) (Q : VK) : tD cl K W (dCB g f) σ H Q → tCB r (tDA cl K W f) σ H Q :=
  fun ⟨O, P, R, env, rel, q⟩ => Post.bindA (f := f) rel q fun ds env1 vs H1 r1 d1 h1 => by
    cases e : g ds with
    | some z => rw [e] at h1; exact hg O H1 vs ds z Q r1.dom d1 e fun u H' s' dz => h1 u H' (Mv.same s' r1.dom) (r1.same s') dz
    | none => rw [e] at h1; exact h1.elim
theorem s_callB {r : List V → Hp → VK → Prop} {g : List D → Option D} {id : String} {x : Str} {e : Expr} {es : List Expr} {f : AF} {p pos : Pos} (hc : CallR X (.builtin id) r) (hg' : CallD X cl r g) (hg : Gl X x) (hm : X.mg x = none) (hv : bootBuiltins x = some (.builtin id)) (ha : SA X cl W (e :: es) f)
    (hn : x ≠ "__name__" := by decide) (hdb : (x == ("__debug__" : Str)) = false := by decide) (he : starEach (e :: es) X.env = (false, eval e X.env) :: starEach es X.env := by rfl) (hpl : (backTo pos (starEach es X.env)).any (·.1) = false := by rfl) : SE X cl W (.Call (.Name x p) (e :: es) [] pos) (dCB g f) :=
  eImp (pe_callB hc hg hm hv ha hn hdb he hpl) (tCB_of hg')
theorem s_callTy {r : List V → Hp → VK → Prop} {g : List D → Option D} {T : String} {x : Str} {e : Expr} {es : List Expr} {f : AF} {p pos : Pos} (hc : CallR X (.type T) r) (hg' : CallD X cl r g) (hg : Gl X x) (hm : X.mg x = none) (hv : bootBuiltins x = some (.type T)) (ha : SA X cl W (e :: es) f)
    (hn : x ≠ "__name__" := by decide) (hdb : (x == ("__debug__" : Str)) = false := by decide) (he : starEach (e :: es) X.env = (false, eval e X.env) :: starEach es X.env := by rfl) (hpl : (backTo pos (starEach es X.env)).any (·.1) = false := by rfl) : SE X cl W (.Call (.Name x p) (e :: es) [] pos) (dCB g f) :=
  eImp (pe_callTy hc hg hm hv ha hn hdb he hpl) (tCB_of hg')
end
end DL

end
section
namespace DL
open PySem PySem.Spec L2

/-! ### statements -/
inductive SR where
  | nx (env : Slots) | rt (d : D) (env : Slots) | bk (env : Slots) | ct (env : Slots)
  | err (c : Nat) (fs : List (Str × D)) (env : Slots) | bad
abbrev SF := Slots → SR
def fgn (O P : Addr → Bool) : Addr → Bool := fun a => O a && !P a
def none0 : Addr → Bool := fun _ => false
/-- the own lists are data from here on -/
def thawS : Sl → Sl
  | .ow xs => .pu (.lst xs)
  | s => s
def thaw (env : Slots) : Slots := env.map thawS
/-- what was handed in stays where it is -/
def IoK (S : List Nat) (σ σ' : L2.St) : Prop := ∀ i ∈ S, σ'[i]? = σ[i]?
theorem IoK.refl {S : List Nat} {σ : L2.St} : IoK S σ σ := fun i h => rfl
theorem IoK.trans {S : List Nat} {σ σ1 σ2 : L2.St} (a : IoK S σ σ1) (b : IoK S σ1 σ2) : IoK S σ σ2 := fun i h => (b i h).trans (a i h)

structure Go (cl : Nat → Addr) (K : PySem.W.Frag) (S : List Nat) (R : Addr → Bool) (O P : Addr → Bool) (σ : L2.St) (H : Hp) (O' P' : Addr → Bool) (env' : Slots) (σ' : L2.St) (H' : Hp) : Prop where
  rel : RelE cl K O' P' R env' σ' H'
  sO : ∀ a, O a = true → O' a = true
  sP : ∀ a, P a = true → P' a = true
  fg : fgn O' P' = fgn O P
  new : ∀ a, P' a = true → P a = true ∨ H a = none
  keep : ∀ a o, O a = false → nT o = true → H a = some o → H' a = some o
  al : ∀ a, H a ≠ none → H' a ≠ none
  frn : ∀ a, O a = true → P a = false → R a = false → H' a = H a
  tab : ∀ p q, LamX.TabS H p q → LamX.TabS H' p q
  io : IoK S σ σ'
structure Fin (cl : Nat → Addr) (K : PySem.W.Frag) (S : List Nat) (R : Addr → Bool) (O P : Addr → Bool) (σ : L2.St) (H : Hp) (env' : Slots) (σ' : L2.St) (H' : Hp) : Prop where
  rel : RelE cl K (fgn O P) none0 R env' σ' H'
  keep : ∀ a o, O a = false → nT o = true → H a = some o → H' a = some o
  al : ∀ a, H a ≠ none → H' a ≠ none
  frn : ∀ a, O a = true → P a = false → R a = false → H' a = H a
  tab : ∀ p q, LamX.TabS H p q → LamX.TabS H' p q
  io : IoK S σ σ'

section
variable {cl : Nat → Addr} {K : PySem.W.Frag} {W : WX} {S : List Nat} {R O P O1 P1 O2 P2 : Addr → Bool} {env env1 env2 : Slots} {σ σ1 σ2 : L2.St} {H H1 H2 : Hp}
theorem Go.of_mv (r : RelE cl K O P R env1 σ H1) (m : Mv O P R H H1) : Go cl K S R O P σ H O P env1 σ H1 :=
  ⟨r, fun _ h => h, fun _ h => h, rfl, fun _ h => .inl h, m.keep, m.al, m.frn, m.tab, IoK.refl⟩
theorem Go.refl (r : RelE cl K O P R env σ H) : Go cl K S R O P σ H O P env σ H := Go.of_mv r Mv.refl
theorem Go.out (a : Go cl K S R O P σ H O1 P1 env1 σ1 H1) (r : RelE cl K O P R env σ H) {x : Addr} {o : HO} (h : O x = false) (e : H x = some o) : O1 x = false := by
  cases q : O1 x with
  | false => rfl
  | true =>
    cases p : P1 x with
    | true =>
      rcases a.new x p with z | z
      · rw [r.subP x z] at h; cases h
      · rw [z] at e; cases e
    | false =>
      have f := congrFun a.fg x
      unfold fgn at f
      rw [q, p, h] at f
      simp at f
theorem Go.fgP (a : Go cl K S R O P σ H O1 P1 env1 σ1 H1) {x : Addr} (h : O x = true) (e : P x = false) : P1 x = false := by
  have f := congrFun a.fg x
  unfold fgn at f
  rw [a.sO x h, h, e] at f
  cases q : P1 x with
  | false => rfl
  | true => rw [q] at f; simp at f
theorem Go.trans (r : RelE cl K O P R env σ H) (a : Go cl K S R O P σ H O1 P1 env1 σ1 H1) (b : Go cl K S R O1 P1 σ1 H1 O2 P2 env2 σ2 H2) : Go cl K S R O P σ H O2 P2 env2 σ2 H2 :=
  ⟨b.rel, fun x h => b.sO x (a.sO x h), fun x h => b.sP x (a.sP x h), b.fg.trans a.fg, (fun x h => by
      rcases b.new x h with z | z
      · exact a.new x z
      · right
        cases q : H x with
        | none => rfl
        | some o => exact absurd z (a.al x (by rw [q]; exact fun y => nomatch y))),
    fun x o h n e => b.keep x o (a.out r h e) n (a.keep x o h n e), fun x h => b.al x (a.al x h),
    fun x h1 h2 h3 => (b.frn x (a.sO x h1) (a.fgP h1 h2) h3).trans (a.frn x h1 h2 h3), fun p q h => b.tab p q (a.tab p q h), a.io.trans b.io⟩
theorem Go.fin (r : RelE cl K O P R env σ H) (a : Go cl K S R O P σ H O1 P1 env1 σ1 H1) (b : Fin cl K S R O1 P1 σ1 H1 env2 σ2 H2) : Fin cl K S R O P σ H env2 σ2 H2 :=
  ⟨by rw [← a.fg]; exact b.rel, fun x o h n e => b.keep x o (a.out r h e) n (a.keep x o h n e), fun x h => b.al x (a.al x h), fun x h1 h2 h3 => (b.frn x (a.sO x h1) (a.fgP h1 h2) h3).trans (a.frn x h1 h2 h3), fun p q h => b.tab p q (a.tab p q h), a.io.trans b.io⟩
theorem fgn_sub {a : Addr} (h : fgn O P a = true) : O a = true := by
  unfold fgn at h
  simp only [Bool.and_eq_true] at h
  exact h.1
theorem thaw_get (env : Slots) (i : Nat) : (thaw env)[i]? = env[i]?.map thawS := by
  unfold thaw
  rw [List.getElem?_map]
theorem RelE.thaw (r : RelE cl K O P R env σ H) : RelE cl K (fgn O P) none0 R (thaw env) σ H := by
  have c : Same (cut H O) (cut H (fgn O P)) := cut_sub fun a h => fgn_sub h
  refine ⟨r.len.trans (by unfold DL.thaw; rw [List.length_map]), fun i d h => ?_, fun i xs h => ?_, fun i xs h => ?_, fun i j p h1 h2 e1 e2 => ?_, fun a h => r.dom a (fgn_sub h), (fun a h => nomatch h), fun a h => ?_, (fun a h => nomatch h)⟩
  · rw [thaw_get] at h
    cases e : env[i]? with
    | none => rw [e] at h; cases h
    | some s =>
      rw [e] at h
      cases s with
      | un => cases h
      | pu d' =>
        cases h
        obtain ⟨v, e1, e2⟩ := r.pu i _ e
        exact ⟨v, e1, e2.mono c⟩
      | ow xs =>
        cases h
        obtain ⟨p, vs, e1, e2, e3, e4⟩ := r.ow i xs e
        refine ⟨.ref p, e1, .lst (cut_ge e3 ?_) (e4.mono c)⟩
        unfold fgn
        rw [e2]
        simp
      | io xs => cases h
  · rw [thaw_get] at h
    cases e : env[i]? with
    | none => rw [e] at h; cases h
    | some s => rw [e] at h; cases s <;> cases h
  · rw [thaw_get] at h
    cases e : env[i]? with
    | none => rw [e] at h; cases h
    | some s =>
      rw [e] at h
      cases s <;> cases h
      obtain ⟨p, vs, e1, e2, e3, e4⟩ := r.io i xs e
      exact ⟨p, vs, e1, e2, e3, e4.mono c⟩
  · refine r.inj i j p ?_ ?_ e1 e2
    · unfold owned at h1 ⊢
      rw [thaw_get] at h1
      cases e : env[i]? with
      | none => rw [e] at h1; cases h1
      | some s => rw [e] at h1; cases s <;> first | rfl | cases h1
    · unfold owned at h2 ⊢
      rw [thaw_get] at h2
      cases e : env[j]? with
      | none => rw [e] at h2; cases h2
      | some s => rw [e] at h2; cases s <;> first | rfl | cases h2
  · unfold fgn
    rw [r.subR a h]
    cases q : P a with
    | false => rfl
    | true => rw [r.apart a q] at h; cases h
theorem thaw_io {i : Nat} {xs : List D} (h : env[i]? = some (.io xs)) : (thaw env)[i]? = some (.io xs) := by
  rw [thaw_get, h]; rfl
theorem Fin.of (r : RelE cl K O P R env1 σ H1) (m : Mv O P R H H1) : Fin cl K S R O P σ H (thaw env1) σ H1 := ⟨r.thaw, m.keep, m.al, m.frn, m.tab, IoK.refl⟩

def PostS (cl : Nat → Addr) (K : PySem.W.Frag) (W : WX) (S : List Nat) (O P R : Addr → Bool) (σ : L2.St) (H : Hp) (De : Ends) : SR → Prop
  | .nx env' => ∀ O' P' σ' H', Go cl K S R O P σ H O' P' env' σ' H' → De.nx σ' H'
  | .bk env' => ∀ O' P' σ' H', Go cl K S R O P σ H O' P' env' σ' H' → De.bk σ' H'
  | .ct env' => ∀ O' P' σ' H', Go cl K S R O P σ H O' P' env' σ' H' → De.ct σ' H'
  | .rt d env' => ∀ v σ' H', Fin cl K S R O P σ H env' σ' H' → Dr cl K (cut H' (fgn O P)) v d → De.rt v H'
  | .err c fs env' => ∀ od σ' H', Fin cl K S R O P σ H env' σ' H' → XdOk cl K (cut H' (fgn O P)) od fs → W (.ref (cl c)) od σ' H'
  | .bad => False
def tS (cl : Nat → Addr) (K : PySem.W.Frag) (W : WX) (S : List Nat) (f : SF) : TS := fun De σ H => ∃ O P R env, RelE cl K O P R env σ H ∧ PostS cl K W S O P R σ H De (f env)
theorem PostS.of_go {De : Ends} (r : RelE cl K O P R env σ H) (g : Go cl K S R O P σ H O1 P1 env1 σ1 H1) : ∀ {s : SR}, PostS cl K W S O P R σ H De s → PostS cl K W S O1 P1 R σ1 H1 De s
  | .nx _, h => fun O' P' σ' H' g' => h O' P' σ' H' (g.trans r g')
  | .bk _, h => fun O' P' σ' H' g' => h O' P' σ' H' (g.trans r g')
  | .ct _, h => fun O' P' σ' H' g' => h O' P' σ' H' (g.trans r g')
  | .rt _ _, h => fun v σ' H' f d => h v σ' H' (g.fin r f) (by rw [g.fg] at d; exact d)
  | .err _ _ _, h => fun od σ' H' f d => h od σ' H' (g.fin r f) (by rw [g.fg] at d; exact d)
  | .bad, h => h
end

end DL

end
section
namespace DL
open PySem PySem.Spec L2

abbrev Tg := D → Slots → Option Slots
section
variable {X : Cx} {cl : Nat → Addr} {W : WX} {S : List Nat}
abbrev SS (X : Cx) (cl : Nat → Addr) (W : WX) (S : List Nat) (st : Stmt) (f : SF) : Prop := PS X st (tS cl X.K W S f)
abbrev SSs (X : Cx) (cl : Nat → Addr) (W : WX) (S : List Nat) (st : List Stmt) (f : SF) : Prop := PSs X st (tS cl X.K W S f)
theorem psImp {e : Stmt} {t t' : TS} (h : PS X e t) (i : ∀ De σ H, t' De σ H → t De σ H) : PS X e t' := ⟨fun pins s σ H De I q => h.run pins s σ H De I (i _ _ _ q)⟩
theorem pssImp {e : List Stmt} {t t' : TS} (h : PSs X e t) (i : ∀ De σ H, t' De σ H → t De σ H) : PSs X e t' := ⟨fun pins s σ H De I q => h.run pins s σ H De I (i _ _ _ q)⟩

/-! ### targets -/
/-- only these places have changed -/
structure Chg (T : List Nat) (σ σ' : L2.St) : Prop where
  len : σ'.length = σ.length
  at_ : ∀ i, i ∉ T → σ'[i]? = σ[i]?
theorem Chg.refl {T : List Nat} {σ : L2.St} : Chg T σ σ := ⟨rfl, fun _ _ => rfl⟩
theorem Chg.app {T T' : List Nat} {σ σ1 σ2 : L2.St} (a : Chg T σ σ1) (b : Chg T' σ1 σ2) : Chg (T ++ T') σ σ2 :=
  ⟨b.len.trans a.len, fun i h => (b.at_ i fun z => h (List.mem_append_right _ z)).trans (a.at_ i fun z => h (List.mem_append_left _ z))⟩
def dis (S T : List Nat) : Bool := S.all fun i => !T.contains i
theorem IoK.chg {S T : List Nat} {σ σ' : L2.St} (h : dis S T = true) (c : Chg T σ σ') : IoK S σ σ' := fun i hi => c.at_ i fun z => by
  unfold dis at h
  rw [List.all_eq_true] at h
  have := h i hi
  simp [z] at this
def TgOk (cl : Nat → Addr) (K : PySem.W.Frag) (S : List Nat) (f : Tg) (g : TG) : Prop :=
  ∀ (O P R : Addr → Bool) (env env' : Slots) (σ : L2.St) (H : Hp) (v : V) (d : D) (Q : L2.St → Hp → Prop), RelE cl K O P R env σ H → Dr cl K (cut H O) v d → f d env = some env' → (∀ σ', RelE cl K O P R env' σ' H → Chg S σ σ' → Q σ' H) → g v σ H Q
def TgsOk (cl : Nat → Addr) (K : PySem.W.Frag) (S : List Nat) (f : List D → Slots → Option Slots) (g : TGs) : Prop :=
  ∀ (O P R : Addr → Bool) (env env' : Slots) (σ : L2.St) (H : Hp) (vs : List V) (ds : List D) (Q : L2.St → Hp → Prop), RelE cl K O P R env σ H → DrA cl K (cut H O) vs ds → f ds env = some env' → (∀ σ', RelE cl K O P R env' σ' H → Chg S σ σ' → Q σ' H) → g vs σ H Q
structure SG (X : Cx) (cl : Nat → Addr) (S : List Nat) (tg : Expr) (f : Tg) : Prop where
  ex : ∃ g : TG, PG X tg g ∧ TgOk cl X.K S f g
structure SGs (X : Cx) (cl : Nat → Addr) (S : List Nat) (tg : List Expr) (f : List D → Slots → Option Slots) : Prop where
  ex : ∃ g : TGs, PGs X tg g ∧ TgsOk cl X.K S f g
def tgN (i : Nat) : Tg := fun d env => if i < env.length then some (env.set i (.pu d)) else none
theorem get_set_pu {env : Slots} {i j : Nat} {s s' : Sl} (h : (env.set i s)[j]? = some s') : (j = i ∧ s = s') ∨ (j ≠ i ∧ env[j]? = some s') := by
  by_cases e : j = i
  · subst e
    rw [List.getElem?_set] at h
    split at h
    · split at h
      · cases h; exact .inl ⟨rfl, rfl⟩
      · cases h
    · rename_i z; exact absurd rfl z
  · rw [List.getElem?_set_ne (Ne.symm e)] at h
    exact .inr ⟨e, h⟩
theorem owned_set {env : Slots} {i j : Nat} {d : D} (h : owned (env.set i (.pu d)) j = true) : j ≠ i ∧ owned env j = true := by
  unfold owned at h ⊢
  cases q : (env.set i (.pu d))[j]? with
  | none => rw [q] at h; cases h
  | some s =>
    rcases get_set_pu q with ⟨e, z⟩ | ⟨e, z⟩
    · subst z; rw [q] at h; cases h
    · rw [q] at h; rw [z]; exact ⟨e, h⟩
theorem RelE.setPu {K : PySem.W.Frag} {O P R : Addr → Bool} {env : Slots} {σ : L2.St} {H : Hp} {v : V} {d : D} (r : RelE cl K O P R env σ H) (i : Nat) (hv : Dr cl K (cut H O) v d) (hi : i < env.length) : RelE cl K O P R (env.set i (.pu d)) (σ.set i (some v)) H := by
  refine ⟨by rw [List.length_set, List.length_set, r.len], fun j d' h => ?_, fun j xs h => ?_, fun j xs h => ?_, fun j k p h1 h2 e1 e2 => ?_, r.dom, r.subP, r.subR, r.apart⟩
  · rcases get_set_pu h with ⟨e, z⟩ | ⟨e, z⟩
    · cases z; subst e
      exact ⟨v, by rw [List.getElem?_set_self (by rw [r.len]; exact hi)], hv⟩
    · obtain ⟨u, e1, e2⟩ := r.pu j d' z
      exact ⟨u, by rw [List.getElem?_set_ne (Ne.symm e)]; exact e1, e2⟩
  · rcases get_set_pu h with ⟨e, z⟩ | ⟨e, z⟩
    · cases z
    · obtain ⟨p, vs, e1, e2⟩ := r.ow j xs z
      exact ⟨p, vs, by rw [List.getElem?_set_ne (Ne.symm e)]; exact e1, e2⟩
  · rcases get_set_pu h with ⟨e, z⟩ | ⟨e, z⟩
    · cases z
    · obtain ⟨p, vs, e1, e2⟩ := r.io j xs z
      exact ⟨p, vs, by rw [List.getElem?_set_ne (Ne.symm e)]; exact e1, e2⟩
  · obtain ⟨n1, o1⟩ := owned_set h1
    obtain ⟨n2, o2⟩ := owned_set h2
    rw [List.getElem?_set_ne (Ne.symm n1)] at e1
    rw [List.getElem?_set_ne (Ne.symm n2)] at e2
    exact r.inj j k p o1 o2 e1 e2
theorem Chg.set {σ : L2.St} {i : Nat} {o : Option V} : Chg [i] σ (σ.set i o) := ⟨by rw [List.length_set], fun j hj => List.getElem?_set_ne fun e => hj (by simp [e])⟩
theorem IoK.set {σ : L2.St} {i : Nat} {o : Option V} (h : S.contains i = false) : IoK S σ (σ.set i o) := fun j hj => by
  refine List.getElem?_set_ne fun e => ?_
  subst e
  rw [List.contains_eq_mem, decide_eq_false_iff_not] at h
  exact h hj
theorem g_name (i : Nat) {x : Str} {pos : Pos} (hN : X.N.Nodup) (hi : X.N[i]? = some x := by rfl) (hx : Loc X.env.scope x := by first | exact Or.inl rfl | exact Or.inr rfl) (hf : X.fn x = true ∨ X.env.scope.names.lookup x = some .local := by first | exact .inl rfl | exact .inr rfl | assumption) : SG X cl [i] (.Name x pos) (tgN i) :=
  ⟨gName i, pg_name hN hi hx hf, fun O P R env env' σ H v d Q r hv e q => by
    unfold tgN at e
    split at e
    · rename_i c
      cases e
      exact q _ (r.setPu i hv c) Chg.set
    · cases e⟩
def tgNil : List D → Slots → Option Slots := fun ds env => match ds with
  | [] => some env
  | _ => none
def tgCons (f : Tg) (g : List D → Slots → Option Slots) : List D → Slots → Option Slots := fun ds env => match ds with
  | d :: r => (f d env).bind fun env1 => g r env1
  | [] => none
def tgTup (n : Nat) (f : List D → Slots → Option Slots) : Tg := fun d env => match d with
  | .tup ds => if ds.length = n then f ds env else none
  | _ => none
theorem gs_nil : SGs X cl [] [] tgNil := ⟨gNil, pgs_nil, fun O P R env env' σ H vs ds Q r hv e q => by
  cases hv with
  | nil => cases e; exact ⟨rfl, q σ r Chg.refl⟩
  | cons _ _ => cases e⟩
theorem gs_cons {e : Expr} {es : List Expr} {f : Tg} {g : List D → Slots → Option Slots} {T T' : List Nat} (h1 : SG X cl T e f) (h2 : SGs X cl T' es g) (hs : (assignEach (e :: es) X.env).map (·.2) = assign e X.env :: (assignEach es X.env).map (·.2) := by rfl) : SGs X cl (T ++ T') (e :: es) (tgCons f g) := by
  obtain ⟨g1, a1, b1⟩ := h1.ex
  obtain ⟨g2, a2, b2⟩ := h2.ex
  refine ⟨gCons g1 g2, pgs_cons a1 a2 hs, fun O P R env env' σ H vs ds Q r hv e q => ?_⟩
  cases hv with
  | nil => cases e
  | @cons v vr d dr hv hr =>
    refine ⟨v, vr, rfl, ?_⟩
    replace e : (f d env).bind (fun env1 => g dr env1) = some env' := e
    cases ef : f d env with
    | none => rw [ef] at e; cases e
    | some env1 =>
      rw [ef] at e
      exact b1 O P R env env1 σ H v d _ r hv ef fun σ1 r1 k1 => b2 O P R env1 env' σ1 H vr dr Q r1 hr e fun σ2 r2 k2 => q σ2 r2 (k1.app k2)
theorem g_tup {es : List Expr} {k n : Nat} {f : List D → Slots → Option Slots} {pos : Pos} (hc : X.calm = true) (h : SGs X cl S es f) (hn : (assignEach es X.env).length = n := by rfl) (hst : (assignEach es X.env).findIdx? (·.1) = none := by rfl) : SG X cl S (.Tuple es k pos) (tgTup n f) := by
  obtain ⟨g, a, b⟩ := h.ex
  refine ⟨gTup X.K n g, pg_tup hc a hn hst, fun O P R env env' σ H v d Q r hv e q => ?_⟩
  cases d with
  | tup ds =>
    obtain ⟨p, vs, rfl, hs, hr⟩ := dr_tup hv
    replace e : (if ds.length = n then f ds env else none) = some env' := e
    by_cases hl : ds.length = n
    · rw [if_pos hl] at e
      exact ⟨p, vs, rfl, sqT_mono cut_le hs, by rw [hr.length]; exact hl, b O P R env env' σ H vs _ Q r hr e q⟩
    · rw [if_neg hl] at e; cases e
  | _ => cases e

/-! ### statements -/
def sErr (c : Nat) (fs : List (Str × D)) (env : Slots) : SR := .err c fs (thaw env)
/-- target = e -/
def sAsg (g : Tg) (f : EF) : SF := fun env => match f env with
  | .ok d env1 => match g d env1 with
    | some env2 => .nx env2
    | none => .bad
  | .err c fs env1 => sErr c fs env1
  | .bad => .bad
theorem err_out {K : PySem.W.Frag} {O P R : Addr → Bool} {σ : L2.St} {H : Hp} {De : Ends} {c : Nat} {fs : List (Str × D)} {env1 : Slots} (r0 : Dom O H) (h : PostS cl K W S O P R σ H De (sErr c fs env1)) : dF W cl K O P R σ H c fs env1 :=
  fun od H' m r x => h od σ H' (Fin.of r m) (x.mono (cut_sub fun _ z => fgn_sub z))
/-- an expression ahead of the rest of a statement -/
theorem PostS.bind {K : PySem.W.Frag} {O P R : Addr → Bool} {σ : L2.St} {H : Hp} {env : Slots} {De : Ends} {f : EF} {k : D → Slots → SR} (r : RelE cl K O P R env σ H)
    (h : PostS cl K W S O P R σ H De (match f env with | .ok d env1 => k d env1 | .err c fs env1 => sErr c fs env1 | .bad => .bad))
    {Q1 : VK} (q : ∀ d env1 v H1, RelE cl K O P R env1 σ H1 → Dr cl K (cut H1 O) v d → PostS cl K W S O P R σ H1 De (k d env1) → Q1 v H1) : tD cl K W f σ H Q1 := by
  refine ⟨O, P, R, env, r, ?_⟩
  cases e : f env with
  | ok d env1 => rw [e] at h; exact fun v H1 m r1 d1 => q d env1 v H1 r1 d1 (h.of_go r (Go.of_mv r1 m))
  | err c fs env1 => rw [e] at h; exact err_out r.dom h
  | bad => rw [e] at h; exact h
theorem PostS.bindT {K : PySem.W.Frag} {O P R : Addr → Bool} {σ : L2.St} {H : Hp} {env : Slots} {De : Ends} {f : EF} {k : D → Slots → SR} (r : RelE cl K O P R env σ H) (hk : ∀ d env1, (∀ b, d ≠ .bl b) → k d env1 = .bad)
    (h : PostS cl K W S O P R σ H De (match f env with | .ok d env1 => k d env1 | .err c fs env1 => sErr c fs env1 | .bad => .bad))
    {Q1 : Bool → Hp → Prop} (q : ∀ b env1 H1, RelE cl K O P R env1 σ H1 → PostS cl K W S O P R σ H1 De (k (.bl b) env1) → Q1 b H1) : tDT cl K W f σ H Q1 := by
  refine ⟨O, P, R, env, r, ?_⟩
  cases e : f env with
  | ok d env1 =>
    rw [e] at h
    cases d with
    | bl b => exact fun H1 m r1 => q b env1 H1 r1 (h.of_go r (Go.of_mv r1 m))
    | _ => replace h : PostS cl K W S O P R σ H De (k _ env1) := h
           rw [hk _ _ (by intro b z; cases z)] at h; exact h.elim
  | err c fs env1 => rw [e] at h; exact err_out r.dom h
  | bad => rw [e] at h; exact h
theorem ss_asg {T : List Nat} {tg e : Expr} {f : EF} {g : Tg} {pos : Pos} (he : SE X cl W e f) (hg : SG X cl T tg g) (hd : dis S T = true := by rfl) (hs : swapsWithSole [tg] e pos.line X.env = pure false := by rfl) (hw : swappedStores [tg] e X.env = pure none := by rfl)
    (h1 : (assignEach [tg] X.env).map (·.2) = [assign tg X.env] := by rfl) : SS X cl W S (.Assign [tg] e pos) (sAsg g f) := by
  obtain ⟨g', a, b⟩ := hg.ex
  refine psImp (ps_asg he a hs hw h1) fun De σ H ⟨O, P, R, env, r, h⟩ => ?_
  refine PostS.bind (f := f) (k := fun d env1 => match g d env1 with | some env2 => .nx env2 | none => .bad) r h fun d env1 v H1 r1 d1 h1 => ?_
  cases eg : g d env1 with
  | none => simp only [eg] at h1; exact h1.elim
  | some env2 =>
    simp only [eg] at h1
    exact b O P R env1 env2 σ H1 v d _ r1 d1 eg fun σ' r2 k2 => h1 O P σ' H1 ⟨r2, fun _ z => z, fun _ z => z, rfl, fun _ z => .inl z, fun _ _ _ _ z => z, fun _ z => z, fun _ _ _ _ => rfl, fun _ _ z => z, IoK.chg hd k2⟩
theorem ss_set (i : Nat) {x : Str} {e : Expr} {f : EF} {pos pos' : Pos} (hN : X.N.Nodup) (he : SE X cl W e f) (hi : X.N[i]? = some x := by rfl) (hx : Loc X.env.scope x := by first | exact Or.inl rfl | exact Or.inr rfl) (hs : swapsWith e (some (.Name x pos')) pos.line X.env = pure false := by rfl)
    (hf : X.fn x = true ∨ X.env.scope.names.lookup x = some .local := by first | exact .inl rfl | exact .inr rfl | assumption) (hd : S.contains i = false := by rfl) : SS X cl W S (.Assign [.Name x pos'] e pos) (sAsg (tgN i) f) := by
  refine psImp (ps_set hN hi hx he hs hf) fun De σ H ⟨O, P, R, env, r, h⟩ => ?_
  refine PostS.bind (f := f) (k := fun d env1 => match tgN i d env1 with | some env2 => .nx env2 | none => .bad) r h fun d env1 v H1 r1 d1 h1 => ?_
  unfold tgN at h1
  split at h1
  · rename_i o env2 e2
    split at e2
    · rename_i c
      cases e2
      exact h1 O P _ H1 ⟨r1.setPu i d1 c, fun _ z => z, fun _ z => z, rfl, fun _ z => .inl z, fun _ _ _ _ z => z, fun _ z => z, fun _ _ _ _ => rfl, fun _ _ z => z, IoK.set hd⟩
    · cases e2
  · exact h1.elim
/-- return e -/
def sRet (f : EF) : SF := fun env => match f (thaw env) with
  | .ok d env1 => .rt d env1
  | .err c fs env1 => .err c fs env1
  | .bad => .bad
theorem RelE.weakF {K : PySem.W.Frag} {O P R : Addr → Bool} {σ : L2.St} {H H1 : Hp} {env env1 : Slots} (r : RelE cl K O P R env σ H) (r1 : RelE cl K (fgn O P) none0 R env1 σ H1) (m : Mv (fgn O P) none0 R H H1) : Fin cl K S R O P σ H env1 σ H1 :=
  ⟨r1, fun a o h n e => m.keep a o (by cases q : fgn O P a with | false => rfl | true => rw [fgn_sub q] at h; cases h) n e, m.al, fun a h1 h2 h3 => m.frn a (by unfold fgn; rw [h1, h2]; rfl) rfl h3, m.tab, IoK.refl⟩
theorem ss_ret {e : Expr} {f : EF} {pos : Pos} (he : SE X cl W e f) : SS X cl W S (.Return (some e) pos) (sRet f) :=
  psImp (ps_ret he) fun De σ H ⟨O, P, R, env, r, h⟩ => by
    refine ⟨fgn O P, none0, R, thaw env, r.thaw, ?_⟩
    unfold sRet at h
    cases ef : f (thaw env) with
    | ok d env1 => rw [ef] at h; exact fun v H1 m r1 d1 => h v σ H1 (r.weakF r1 m) d1
    | err c fs env1 => rw [ef] at h; exact fun od H1 m r1 x => h od σ H1 (r.weakF r1 m) x
    | bad => rw [ef] at h; exact h
def sRetN : SF := fun env => .rt .non (thaw env)
theorem ss_retN {pos : Pos} : SS X cl W S (.Return none pos) sRetN := psImp ps_retN fun De σ H ⟨O, P, R, env, r, h⟩ => h _ σ H (Fin.of r Mv.refl) .non
def sPass : SF := fun env => .nx env
theorem ss_pass {pos : Pos} : SS X cl W S (.Pass pos) sPass := psImp ps_pass fun De σ H ⟨O, P, R, env, r, h⟩ => h O P σ H (Go.refl r)
theorem ss_doc {x j pos pos'} : SS X cl W S (.Expr (.Constant (.str x) j pos) pos') sPass := psImp ps_doc fun De σ H ⟨O, P, R, env, r, h⟩ => h O P σ H (Go.refl r)
def sBrk : SF := fun env => .bk env
theorem ss_break {pos : Pos} : SS X cl W S (.Break pos) sBrk := psImp ps_break fun De σ H ⟨O, P, R, env, r, h⟩ => h O P σ H (Go.refl r)
def sCnt : SF := fun env => .ct env
theorem ss_continue {pos : Pos} : SS X cl W S (.Continue pos) sCnt := psImp ps_continue fun De σ H ⟨O, P, R, env, r, h⟩ => h O P σ H (Go.refl r)
def sExpr (f : EF) : SF := fun env => match f env with
  | .ok d env1 => .nx env1
  | .err c fs env1 => sErr c fs env1
  | .bad => .bad
theorem ss_expr {e : Expr} {f : EF} {pos : Pos} (he : SE X cl W e f) (hs : swapsWith e none pos.line X.env = pure false := by rfl) : SS X cl W S (.Expr e pos) (sExpr f) :=
  psImp (ps_expr he hs) fun De σ H ⟨O, P, R, env, r, h⟩ => PostS.bind (f := f) (k := fun d env1 => .nx env1) r h fun d env1 v H1 r1 d1 h1 => h1 O P σ H1 (Go.refl r1)
def sIf (t : EF) (f g : SF) : SF := fun env => match t env with
  | .ok d env1 => (match d with
    | .bl true => f env1
    | .bl false => g env1
    | _ => .bad)
  | .err c fs env1 => sErr c fs env1
  | .bad => .bad
theorem ss_if {c : Expr} {a b : List Stmt} {t : EF} {f g : SF} {pos : Pos} (hc : SB X cl W c t) (ha : SSs X cl W S a f) (hb : SSs X cl W S b g) : SS X cl W S (.If c a b pos) (sIf t f g) :=
  psImp (ps_if hc ha hb) fun De σ H ⟨O, P, R, env, r, h⟩ => PostS.bindT (f := t) (k := fun d env1 => match d with | .bl true => f env1 | .bl false => g env1 | _ => .bad) r (fun d env1 z => by cases d <;> first | rfl | exact absurd rfl (z _)) h fun b env1 H1 r1 h1 => by
    cases b with
    | true => rw [if_pos rfl]; exact ⟨O, P, R, env1, r1, h1⟩
    | false => rw [if_neg Bool.false_ne_true]; exact ⟨O, P, R, env1, r1, h1⟩
def sNil : SF := fun env => .nx env
def sSeq (f g : SF) : SF := fun env => match f env with
  | .nx env1 => g env1
  | r => r
theorem sss_nil : SSs X cl W S [] sNil := pssImp pss_nil fun De σ H ⟨O, P, R, env, r, h⟩ => h O P σ H (Go.refl r)
theorem seq_of {K : PySem.W.Frag} {f g : SF} (De : Ends) (σ : L2.St) (H : Hp) : tS cl K W S (sSeq f g) De σ H → tSeq (tS cl K W S f) (tS cl K W S g) De σ H := fun ⟨O, P, R, env, r, h⟩ => by
  refine ⟨O, P, R, env, r, ?_⟩
  unfold sSeq at h
  cases e : f env with
  | nx env1 => rw [e] at h; exact fun O' P' σ' H' g' => ⟨O', P', R, env1, g'.rel, h.of_go r g'⟩
  | rt d env1 => rw [e] at h; exact h
  | bk env1 => rw [e] at h; exact h
  | ct env1 => rw [e] at h; exact h
  | err c fs env1 => rw [e] at h; exact h
  | bad => rw [e] at h; exact h
theorem sss_cons {st : Stmt} {rest : List Stmt} {f g : SF} (h1 : SS X cl W S st f) (h2 : SSs X cl W S rest g) : SSs X cl W S (st :: rest) (sSeq f g) := pssImp (pss_cons h1 h2) seq_of
theorem sss_one {st : Stmt} {f : SF} (h1 : SS X cl W S st f) : SSs X cl W S [st] f := pss_one h1
end
end DL

end
section
namespace DL
open PySem PySem.Spec L2

/-! ### what a def is worth: for arguments that are data -/
inductive PR where
  | ok (d : D) | err (c : Nat) (fs : List (Str × D)) | bad
inductive IR where
  | ok (d : D) (xs : List D) | err (c : Nat) (fs : List (Str × D)) (xs : List D) | bad
abbrev PM := List D → PR
abbrev IM := List D → List D → IR
def PostP (cl : Nat → Addr) (K : PySem.W.Frag) (O : Addr → Bool) (H : Hp) (Q : VK) (E : XK) : PR → Prop
  | .ok d => ∀ v H', Mv O none0 none0 H H' → Dr cl K (cut H' O) v d → Q v H'
  | .err c fs => ∀ od H', Mv O none0 none0 H H' → XdOk cl K (cut H' O) od fs → E (.ref (cl c)) od H'
  | .bad => False
def spP (cl : Nat → Addr) (K : PySem.W.Frag) (n : Nat) (m : PM) : Sp := fun vs H Q E => vs.length = n ∧ ∃ (O : Addr → Bool) (ds : List D), Dom O H ∧ DrA cl K (cut H O) vs ds ∧ PostP cl K O H Q E (m ds)
def at1 (p : Addr) : Addr → Bool := fun a => a == p
def PostI (cl : Nat → Addr) (K : PySem.W.Frag) (O : Addr → Bool) (p : Addr) (H : Hp) (Q : VK) (E : XK) : IR → Prop
  | .ok d xs => ∀ v ws H', Mv O none0 (at1 p) H H' → H' p = some (.lst ws) → DrA cl K (cut H' O) ws xs → Dr cl K (cut H' O) v d → Q v H'
  | .err c fs xs => ∀ od ws H', Mv O none0 (at1 p) H H' → H' p = some (.lst ws) → DrA cl K (cut H' O) ws xs → XdOk cl K (cut H' O) od fs → E (.ref (cl c)) od H'
  | .bad => False
def spI (cl : Nat → Addr) (K : PySem.W.Frag) (n : Nat) (m : IM) : Sp := fun vs H Q E => vs.length = n + 1 ∧ ∃ (O : Addr → Bool) (p : Addr) (us ws : List V) (xs ds : List D), vs = .ref p :: us ∧ Dom O H ∧ O p = true ∧ H p = some (.lst ws) ∧
  DrA cl K (cut H O) ws xs ∧ DrA cl K (cut H O) us ds ∧ PostI cl K O p H Q E (m xs ds)

/-- from a body -/
def entP (n : Nat) (ds : List D) : Slots := ds.map Sl.pu ++ List.replicate (n - ds.length) .un
def runP (n : Nat) (f : SF) : PM := fun ds => match f (entP n ds) with
  | .nx _ => .ok .non
  | .rt d _ => .ok d
  | .err c fs _ => .err c fs
  | _ => .bad
def entI (n : Nat) (xs : List D) (ds : List D) : Slots := .io xs :: (ds.map Sl.pu ++ List.replicate (n - 1 - ds.length) .un)
def ioHead : Slots → Option (List D)
  | .io ys :: _ => some ys
  | _ => none
theorem ioHead_get {env : Slots} {ys : List D} (h : ioHead env = some ys) : env[0]? = some (.io ys) := by
  unfold ioHead at h
  split at h
  · cases h; rfl
  · cases h
def withIo (env : Slots) (k : List D → IR) : IR := match ioHead env with
  | some ys => k ys
  | none => .bad
def runI (n : Nat) (f : SF) : IM := fun xs ds => match f (entI n xs ds) with
  | .nx env => withIo env fun ys => .ok .non ys
  | .rt d env => withIo env fun ys => .ok d ys
  | .err c fs env => withIo env fun ys => .err c fs ys
  | _ => .bad

section
variable {cl : Nat → Addr} {K : PySem.W.Frag} {N : List Str} {f : SF} {H : Hp} {Q : VK} {E : XK} {vs : List V}
theorem start_len {N : List Str} {vs : List V} (h : vs.length ≤ N.length) : (L2.start N vs).length = N.length := by
  unfold L2.start
  rw [List.length_append, List.length_map, List.length_replicate]
  omega
theorem start_get {N : List Str} {vs : List V} {i : Nat} {v : V} (h : vs[i]? = some v) : (L2.start N vs)[i]? = some (some v) := by
  have hl : i < vs.length := (List.getElem?_eq_some_iff.mp h).1
  unfold L2.start
  rw [List.getElem?_append_left (by rw [List.length_map]; exact hl), List.getElem?_map, h]
  rfl
theorem entP_get {n i : Nat} {ds : List D} {s : Sl} (h : (entP n ds)[i]? = some s) : (∃ d, ds[i]? = some d ∧ s = .pu d) ∨ s = .un := by
  unfold entP at h
  by_cases e : i < ds.length
  · rw [List.getElem?_append_left (by rw [List.length_map]; exact e), List.getElem?_map] at h
    cases q : ds[i]? with
    | none => rw [q] at h; cases h
    | some d => rw [q] at h; cases h; exact .inl ⟨d, rfl, rfl⟩
  · rw [List.getElem?_append_right (by rw [List.length_map]; omega)] at h
    right
    rw [List.getElem?_replicate] at h
    split at h
    · cases h; rfl
    · cases h
theorem relP {O : Addr → Bool} {ds : List D} (dm : Dom O H) (r : DrA cl K (cut H O) vs ds) (hl : vs.length ≤ N.length) : RelE cl K O none0 none0 (entP N.length ds) (L2.start N vs) H := by
  refine ⟨?_, fun i d h => ?_, fun i xs h => ?_, fun i xs h => ?_, fun i j p h1 _ _ _ => ?_, dm, (fun a h => nomatch h), (fun a h => nomatch h), fun a _ => rfl⟩
  · rw [start_len hl]
    unfold entP
    rw [List.length_append, List.length_map, List.length_replicate, ← r.length]
    omega
  · rcases entP_get h with ⟨d', e, z⟩ | z
    · cases z
      obtain ⟨v, e1, e2⟩ := r.get e
      exact ⟨v, start_get e1, e2⟩
    · cases z
  · rcases entP_get h with ⟨d', e, z⟩ | z <;> cases z
  · rcases entP_get h with ⟨d', e, z⟩ | z <;> cases z
  · unfold owned at h1
    cases q : (entP N.length ds)[i]? with
    | none => rw [q] at h1; cases h1
    | some s =>
      rw [q] at h1
      rcases entP_get q with ⟨d', e, z⟩ | z <;> (subst z; cases h1)
theorem fgn_none {O : Addr → Bool} : fgn O none0 = O := by
  funext a
  unfold fgn none0
  simp
theorem RelE.mv0 {O P R : Addr → Bool} {env : Slots} {σ : L2.St} {H H' : Hp} (r : RelE cl K O P R env σ H) (m : Mv O none0 none0 H H') : RelE cl K O P R env σ H' := by
  refine ⟨r.len, fun i d h => ?_, fun i xs h => ?_, fun i xs h => ?_, r.inj, fun a h => ?_, r.subP, r.subR, r.apart⟩
  · obtain ⟨v, e1, e2⟩ := r.pu i d h
    exact ⟨v, e1, e2.mono m.cut⟩
  · obtain ⟨p, vs, e1, e2, e3, e4⟩ := r.ow i xs h
    exact ⟨p, vs, e1, e2, (m.frn p (r.subP p e2) rfl rfl).trans e3, e4.mono m.cut⟩
  · obtain ⟨p, vs, e1, e2, e3, e4⟩ := r.io i xs h
    exact ⟨p, vs, e1, e2, (m.frn p (r.subR p e2) rfl rfl).trans e3, e4.mono m.cut⟩
  · obtain ⟨vs, q⟩ := r.dom a h
    exact ⟨vs, (m.frn a h rfl rfl).trans q⟩
theorem Mv.of0 {O P R : Addr → Bool} {H H' : Hp} (m : Mv O none0 none0 H H') : Mv O P R H H' := ⟨m.keep, m.al, fun a h _ _ => m.frn a h rfl rfl, m.tab⟩
theorem body_pure {O : Addr → Bool} {ds : List D} (dm : Dom O H) (r : DrA cl K (cut H O) vs ds) (hl : vs.length ≤ N.length) (h : PostP cl K O H Q E (runP N.length f ds)) :
    tS cl K (fun cls d _ H' => E cls d H') [] f { nx := fun _ H' => Q .non H', rt := Q } (L2.start N vs) H := by
  refine ⟨O, none0, none0, _, relP dm r hl, ?_⟩
  unfold runP at h
  cases e : f (entP N.length ds) with
  | nx env' =>
    rw [e] at h
    refine fun O' P' σ' H' g => h _ H' ⟨g.keep, g.al, g.frn, g.tab⟩ .non
  | rt d env' =>
    rw [e] at h
    intro v σ' H' g hd
    rw [fgn_none] at hd
    exact h v H' ⟨g.keep, g.al, g.frn, g.tab⟩ hd
  | err c fs env' =>
    rw [e] at h
    intro od σ' H' g e1
    rw [fgn_none] at e1
    exact h od H' ⟨g.keep, g.al, g.frn, g.tab⟩ e1
  | bk env' => rw [e] at h; exact h.elim
  | ct env' => rw [e] at h; exact h.elim
  | bad => rw [e] at h; exact h
theorem relI {O : Addr → Bool} {p : Addr} {us ws : List V} {xs ds : List D} (dm : Dom O H) (hp : O p = true) (hw : H p = some (.lst ws)) (rw' : DrA cl K (cut H O) ws xs) (r : DrA cl K (cut H O) us ds) (hl : us.length + 1 ≤ N.length) :
    RelE cl K O none0 (at1 p) (entI N.length xs ds) (L2.start N (.ref p :: us)) H := by
  have hg : ∀ {i : Nat} {s : Sl}, (entI N.length xs ds)[i]? = some s → (i = 0 ∧ s = .io xs) ∨ (∃ j d, i = j + 1 ∧ ds[j]? = some d ∧ s = .pu d) ∨ s = .un := fun {i s} h => by
    cases i with
    | zero => cases h; exact .inl ⟨rfl, rfl⟩
    | succ j =>
      right
      unfold entI at h
      rw [List.getElem?_cons_succ] at h
      have h2 : (entP (N.length - 1) ds)[j]? = some s := h
      rcases entP_get h2 with ⟨d', e, z⟩ | z
      · exact .inl ⟨j, d', rfl, e, z⟩
      · exact .inr z
  refine ⟨?_, fun i d h => ?_, fun i ys h => ?_, fun i ys h => ?_, fun i j q h1 h2 e1 e2 => ?_, dm, (fun a h => nomatch h), fun a h => ?_, (fun a h => nomatch h)⟩
  · rw [start_len (by rw [List.length_cons]; exact hl)]
    unfold entI
    rw [List.length_cons, List.length_append, List.length_map, List.length_replicate, ← r.length]
    omega
  · rcases hg h with ⟨e, z⟩ | ⟨j, d', e, e1, z⟩ | z
    · cases z
    · cases z
      obtain ⟨v, e2, e3⟩ := r.get e1
      subst e
      exact ⟨v, start_get (by rw [List.getElem?_cons_succ]; exact e2), e3⟩
    · cases z
  · rcases hg h with ⟨e, z⟩ | ⟨j, d', e, e1, z⟩ | z <;> cases z
  · rcases hg h with ⟨e, z⟩ | ⟨j, d', e, e1, z⟩ | z
    · cases z
      subst e
      exact ⟨p, ws, start_get rfl, by unfold at1; simp, hw, rw'⟩
    · cases z
    · cases z
  · have one : ∀ {i : Nat}, owned (entI N.length xs ds) i = true → i = 0 := fun {i} h => by
      unfold owned at h
      cases q : (entI N.length xs ds)[i]? with
      | none => rw [q] at h; cases h
      | some s =>
        rcases hg q with ⟨e, z⟩ | ⟨j, d', e, e1, z⟩ | z
        · exact e
        · subst z; rw [q] at h; cases h
        · subst z; rw [q] at h; cases h
    rw [one h1, one h2]
  · unfold at1 at h
    rw [beq_iff_eq] at h
    rw [h]; exact hp
theorem body_io {O : Addr → Bool} {p : Addr} {us ws : List V} {xs ds : List D} (dm : Dom O H) (hp : O p = true) (hw : H p = some (.lst ws)) (rw' : DrA cl K (cut H O) ws xs) (r : DrA cl K (cut H O) us ds) (hl : us.length + 1 ≤ N.length)
    (h : PostI cl K O p H Q E (runI N.length f xs ds)) :
    tS cl K (fun cls d _ H' => E cls d H') [0] f { nx := fun _ H' => Q .non H', rt := Q } (L2.start N (.ref p :: us)) H := by
  refine ⟨O, none0, at1 p, _, relI dm hp hw rw' r hl, ?_⟩
  have s0 : (L2.start N (V.ref p :: us))[0]? = some (some (V.ref p)) := start_get rfl
  have io0 : ∀ {O2 P2 : Addr → Bool} {env' : Slots} {σ' : L2.St} {H' : Hp} {ys : List D}, RelE cl K O2 P2 (at1 p) env' σ' H' → IoK [0] (L2.start N (V.ref p :: us)) σ' → ioHead env' = some ys → ∃ ws', H' p = some (.lst ws') ∧ DrA cl K (cut H' O2) ws' ys := fun {O2 P2 env' σ' H' ys} r1 k e => by
    obtain ⟨q, vs', e1, e2, e3, e4⟩ := r1.io 0 ys (ioHead_get e)
    rw [k 0 (by simp), s0] at e1
    cases e1
    exact ⟨vs', e3, e4⟩
  unfold runI at h
  cases e : f (entI N.length xs ds) with
  | nx env' =>
    rw [e] at h
    refine fun O' P' σ' H' g => ?_
    replace h : PostI cl K O p H Q E (withIo env' fun ys => IR.ok D.non ys) := h
    unfold  withIo at h
    cases q : ioHead env' with
    | some ys =>
      rw [q] at h
      obtain ⟨ws', h1, h2⟩ := io0 g.rel g.io q
      exact h _ ws' H' ⟨g.keep, g.al, g.frn, g.tab⟩ h1 (h2.mono (cut_sub g.sO)) .non
    | none => rw [q] at h; exact h.elim
  | rt d env' =>
    rw [e] at h
    intro v σ' H' g hd
    rw [fgn_none] at hd
    have gr := g.rel
    rw [fgn_none] at gr
    replace h : PostI cl K O p H Q E (withIo env' fun ys => IR.ok d ys) := h
    unfold  withIo at h
    cases q : ioHead env' with
    | some ys =>
      rw [q] at h
      obtain ⟨ws', h1, h2⟩ := io0 gr g.io q
      exact h v ws' H' ⟨g.keep, g.al, g.frn, g.tab⟩ h1 h2 hd
    | none => rw [q] at h; exact h.elim
  | err c fs env' =>
    rw [e] at h
    intro od σ' H' g e1
    rw [fgn_none] at e1
    have gr := g.rel
    rw [fgn_none] at gr
    replace h : PostI cl K O p H Q E (withIo env' fun ys => IR.err c fs ys) := h
    unfold  withIo at h
    cases q : ioHead env' with
    | some ys =>
      rw [q] at h
      obtain ⟨ws', h1, h2⟩ := io0 gr g.io q
      exact h od ws' H' ⟨g.keep, g.al, g.frn, g.tab⟩ h1 h2 e1
    | none => rw [q] at h; exact h.elim
  | bk env' => rw [e] at h; exact h.elim
  | ct env' => rw [e] at h; exact h.elim
  | bad => rw [e] at h; exact h
end

/-! ### defs: those of the program may be called anywhere -/
section
variable {Pg : Program} {w : World} {K : PySem.W.Frag} {mg : Str → Option Value} {base : Heap} {cl : Nat → Addr}
/-- W of a def: what leaves it -/
abbrev WE (E : XK) : WX := fun cls d _ H => E cls d H
theorem fn_pure {x qual : Str} {st : Stmt} {fa : Addr} {fd : FuncData} {N ps : List Str} {k n : Nat} {b : SF} {m : PM} (F : Fun K x qual st fa fd) (S : FnScope N ps (defScope st)) (hn : n = ps.length) (hN : n ≤ N.length)
    (hm : ∀ ds, ds.length = n → m ds = .bad ∨ m ds = runP N.length b ds)
    (hbody : ∀ (cdv : Value) (A : Around) (outer : List Env) (s : Shared) (H : Hp) (E : XK), Room k (A.deeper (PyProof.Rows.envOfC qual (defScope st) s.heap.objs.size fa cdv)) →
      SSs (cxOf (L2.CX Pg w) Pg w K mg base N qual (defScope st) fa cdv A outer s H E) cl (WE E) [] (defBody st) b) : FnOk Pg w K mg base (L2.CX Pg w) (k + 1) fa fd ps (spP cl K n m) := by
  refine F.okX S (fun vs H Q E h => by rw [← hn]; exact h.1) fun cdv A outer s H vs Q E hr h => ?_
  obtain ⟨hl, O, ds, dm, r, q⟩ := h
  refine ⟨_, hbody cdv A outer s H E hr, body_pure dm r (by rw [hl]; exact hN) ?_⟩
  rcases hm ds (by rw [← r.length]; exact hl) with z | z
  · rw [z] at q; exact q.elim
  · rw [← z]; exact q
end

/-! ### calls -/
def dCall (m : PM) (a : AF) : EF := fun env => (a env).bind fun ds env1 => match m ds with
  | .ok d => .ok d env1
  | .err c fs => .err c fs env1
  | .bad => .bad
section
variable {X : Cx} {cl : Nat → Addr} {E : XK} {k n : Nat} {fa : Addr} {fd : FuncData} {ps : List Str} {m : PM}
theorem sp_of {K : PySem.W.Frag} {O P R : Addr → Bool} {env1 : Slots} {σ : L2.St} {H1 : Hp} {vs : List V} {ds : List D} {Q : VK} (hn : ds.length = n) (r1 : RelE cl K O P R env1 σ H1) (d1 : DrA cl K (cut H1 O) vs ds)
    (h : Post cl K (WE E) O P R σ H1 Q (match m ds with | .ok d => .ok d env1 | .err c fs => .err c fs env1 | .bad => .bad)) : spP cl K n m vs H1 Q E := by
  refine ⟨by rw [d1.length]; exact hn, O, ds, r1.dom, d1, ?_⟩
  cases e : m ds with
  | ok d => rw [e] at h; exact fun v H' m dv => h v H' m.of0 (r1.mv0 m) dv
  | err c fs => rw [e] at h; exact fun od H' m x => h od H' m.of0 (r1.mv0 m) x
  | bad => rw [e] at h; exact h
def dLen (n : Nat) (a : AF) : AF := fun env => (a env).bind fun ds env1 => if ds.length = n then .ok ds env1 else .bad
/-- f(e, ..), the defaults' data dd behind -/
def dCallD (n : Nat) (dd : List D) (m : PM) (a : AF) : EF := fun env => (a env).bind fun ds env1 => if (ds ++ dd).length = n then (match m (ds ++ dd) with
  | .ok d => .ok d env1
  | .err c fs => .err c fs env1
  | .bad => .bad) else .bad
theorem s_call {x : Str} {p pos : Pos} {e : Expr} {es : List Expr} {f : AF} {dvs : List V} {dus : List Value} {dd : List D} (F : FnOk X.prog X.w X.K X.mg X.base (L2.CX X.prog X.w) k fa fd ps (spP cl X.K n m)) (tk : Takes X (WE E)) (hr : Room k X.A) (hg : Gl X x) (hm : X.mg x = some (.ref fa))
    (hk : PySem.W.keepIn X.K (.ref fa) = true) (hb : Binds X.K fd ps dus) (hd : Vals dvs dus) (hdd : ∀ H, DrA cl X.K H dvs dd) (ha : SA X cl (WE E) (e :: es) f) (hdb : (x == ("__debug__" : Str)) = false := by decide) (he : starEach (e :: es) X.env = (false, eval e X.env) :: starEach es X.env := by rfl)
    (hpl : (backTo pos (starEach es X.env)).any (·.1) = false := by rfl) : SE X cl (WE E) (.Call (.Name x p) (e :: es) [] pos) (dCallD n dd m f) :=
  eImp (pe_call F hr hg hm hk hb hd (passes_call tk fun _ _ _ _ h => h) ha hdb he hpl) fun σ H Q ⟨O, P, R, env, rel, q⟩ => Post.bindA (f := f) rel q fun ds env1 vs H1 r1 d1 h1 => by
    split at h1
    · rename_i hl
      exact sp_of hl r1 (d1.append (hdd _)) h1
    · exact h1.elim
/-- by keywords, all parameters given: pm puts them in order -/
def dCallK (n : Nat) (pm : List D → List D → List D) (m : PM) (a b : AF) : EF := fun env => (a env).bind fun ds env1 => (b env1).bind fun es env2 => if (pm ds es).length = n then (match m (pm ds es) with
  | .ok d => .ok d env2
  | .err c fs => .err c fs env2
  | .bad => .bad) else .bad
end
end DL

end
section
namespace DL
open PySem PySem.Spec L2

/-! ### what is walked -/
/-- J gives the items, one by one, as long as what nobody changes stands -/
structure Walks (cl : Nat → Addr) (K : PySem.W.Frag) (O : Addr → Bool) (H1 : Hp) (J : It) (items : List D) : Prop where
  go : ∀ (O' : Addr → Bool) i H' d, Same (cut H1 O) (cut H' O') → Dom O' H' → items[i]? = some d → J.go i H' ∧ ∀ x H'', J.yld i H' x H'' → Same H' H'' ∧ Dr cl K (cut H'' O') x d
  stop : ∀ (O' : Addr → Bool) i H', Same (cut H1 O) (cut H' O') → items.length ≤ i → J.stop i H'
def tWk (cl : Nat → Addr) (K : PySem.W.Frag) (W : WX) (f : AF) : TI := fun σ H Rc => ∃ O P R env, RelE cl K O P R env σ H ∧ match f env with
  | .ok items env1 => ∀ J H1, Mv O P R H H1 → RelE cl K O P R env1 σ H1 → Walks cl K O H1 J items → Rc J H1
  | .err c fs env1 => dF W cl K O P R σ H c fs env1
  | .bad => False
abbrev SI (X : Cx) (cl : Nat → Addr) (W : WX) (tg iter : Expr) (f : AF) : Prop := PI X tg iter (tWk cl X.K W f)
section
variable {X : Cx} {cl : Nat → Addr} {W : WX} {S : List Nat} {tg : Expr}
theorem piImp {iter : Expr} {t t' : TI} (h : PI X tg iter t) (i : ∀ σ H R, t' σ H R → t σ H R) : PI X tg iter t' := ⟨fun pins s σ H R I q => h.run pins s σ H R I (i _ _ _ q)⟩
/-- the items of a list or a tuple -/
def itemsOf : D → Option (List D)
  | .lst xs => some xs
  | .tup xs => some xs
  | .fz xs => some xs
  | _ => none
def wSeq (f : EF) : AF := fun env => (f env).bind fun d env1 => match d with
  | .lst xs => .ok xs env1
  | .fz xs => .ok xs env1
  | _ => .bad
def wTup (f : EF) : AF := fun env => (f env).bind fun d env1 => match d with
  | .tup xs => .ok xs env1
  | _ => .bad
theorem SqL.uniq {K : PySem.W.Frag} {H : Hp} {a : Addr} {xs : List V} (h : SqL K H a xs) : True := trivial
theorem walks_list {K : PySem.W.Frag} {O : Addr → Bool} {H1 : Hp} {a : Addr} {vs : List V} {ds : List D} (h : ∀ (O' : Addr → Bool) H', Same (cut H1 O) (cut H' O') → SqL K H' a vs) (r : DrA cl K (cut H1 O) vs ds) : Walks cl K O H1 (Itl K a) ds where
  go := fun O' i H' d s dm e => by
    obtain ⟨v, e1, e2⟩ := r.get e
    refine ⟨⟨vs, v, h O' H' s, e1⟩, fun x H'' ⟨e3, e4⟩ => ?_⟩
    subst e3
    have := e4 vs (h O' H'' s)
    rw [e1] at this
    cases this
    exact ⟨Same.refl _, e2.mono s⟩
  stop := fun O' i H' s e => ⟨vs, h O' H' s, by rw [r.length]; exact e⟩
theorem walks_tup {K : PySem.W.Frag} {O : Addr → Bool} {H1 : Hp} {a : Addr} {vs : List V} {ds : List D} (h : ∀ (O' : Addr → Bool) H', Same (cut H1 O) (cut H' O') → SqT K H' a vs) (r : DrA cl K (cut H1 O) vs ds) : Walks cl K O H1 (Itt K a) ds where
  go := fun O' i H' d s dm e => by
    obtain ⟨v, e1, e2⟩ := r.get e
    refine ⟨⟨vs, v, h O' H' s, e1⟩, fun x H'' ⟨e3, e4⟩ => ?_⟩
    subst e3
    have := e4 vs (h O' H'' s)
    rw [e1] at this
    cases this
    exact ⟨Same.refl _, e2.mono s⟩
  stop := fun O' i H' s e => ⟨vs, h O' H' s, by rw [r.length]; exact e⟩
theorem wk_bind {K : PySem.W.Frag} {O P R : Addr → Bool} {σ : L2.St} {H : Hp} {env : Slots} {f : EF} {k : D → Slots → Res (List D)} {Rc : It → Hp → Prop} (r : RelE cl K O P R env σ H)
    (h : match (f env).bind k with
      | .ok items env1 => ∀ J H1, Mv O P R H H1 → RelE cl K O P R env1 σ H1 → Walks cl K O H1 J items → Rc J H1
      | .err c fs env1 => dF W cl K O P R σ H c fs env1
      | .bad => False)
    {Q1 : VK} (q : ∀ d env1 v H1, RelE cl K O P R env1 σ H1 → Dr cl K (cut H1 O) v d → (match k d env1 with
      | .ok items env2 => ∀ J H2, Mv O P R H1 H2 → RelE cl K O P R env2 σ H2 → Walks cl K O H2 J items → Rc J H2
      | .err c fs env2 => dF W cl K O P R σ H1 c fs env2
      | .bad => False) → Q1 v H1) : tD cl K W f σ H Q1 := by
  refine ⟨O, P, R, env, r, ?_⟩
  cases e : f env with
  | ok d env1 =>
    rw [e, Res.bind_ok] at h
    refine fun v H1 m r1 d1 => q d env1 v H1 r1 d1 ?_
    cases ek : k d env1 with
    | ok items env2 => rw [ek] at h; exact fun J H2 m2 r2 w2 => h J H2 (m.trans m2) r2 w2
    | err c fs env2 => rw [ek] at h; exact fun od H' m2 => h od H' (m.trans m2)
    | bad => rw [ek] at h; exact h
  | err c fs env1 => rw [e] at h; exact h
  | bad => rw [e] at h; exact h
theorem i_list {e : Expr} {f : EF} (h : SE X cl W e f) : SI X cl W tg e (wSeq f) :=
  piImp (pi_list h) fun σ H Rc ⟨O, P, R, env, r, q⟩ => wk_bind (f := f) r q fun d env1 v H1 r1 d1 h1 => by
    cases d1 with
    | lst hl ha => exact ⟨_, rfl, ⟨_, .inl (.inl (cut_le _ _ hl))⟩, h1 _ H1 Mv.refl r1 (walks_list (fun O' H' s => .inl (.inl (cut_le _ _ (s _ _ hl)))) ha)⟩
    | fz hl ha => exact ⟨_, rfl, ⟨_, Same.seq cut_le hl⟩, h1 _ H1 Mv.refl r1 (walks_list (fun O' H' s => Same.seq cut_le (Same.seq s hl)) ha)⟩
    | _ => exact h1.elim
theorem i_tup {e : Expr} {f : EF} (h : SE X cl W e f) : SI X cl W tg e (wTup f) :=
  piImp (pi_tup h) fun σ H Rc ⟨O, P, R, env, r, q⟩ => wk_bind (f := f) r q fun d env1 v H1 r1 d1 h1 => by
    cases d1 with
    | tup hl ha => exact ⟨_, rfl, ⟨_, sqT_mono cut_le hl⟩, h1 _ H1 Mv.refl r1 (walks_tup (fun O' H' s => sqT_mono cut_le (sqT_mono s hl)) ha)⟩
    | _ => exact h1.elim
/-- ranges -/
def rngD (lo : Int) (n : Nat) : List D := (List.range n).map fun (i : Nat) => D.int (lo + (i : Int))
theorem walks_rng {K : PySem.W.Frag} {O : Addr → Bool} {H1 : Hp} {lo : Int} {n : Nat} : Walks cl K O H1 (Itr lo n) (rngD lo n) where
  go := fun O' i H' d s dm e => by
    unfold rngD at e
    rw [List.getElem?_map] at e
    cases q : (List.range n)[i]? with
    | none => rw [q] at e; cases e
    | some j =>
      rw [q] at e
      cases e
      obtain ⟨h1, h2⟩ := List.getElem?_eq_some_iff.mp q
      rw [List.length_range] at h1
      rw [List.getElem_range] at h2
      subst h2
      refine ⟨h1, fun x H'' ⟨e3, e4⟩ => ?_⟩
      subst e3; subst e4
      exact ⟨Same.refl _, .int _⟩
  stop := fun O' i H' s e => by
    unfold rngD at e
    rw [List.length_map, List.length_range] at e
    exact e
def r62 (i : Int) : Bool := decide (-(2 ^ 62) ≤ i) && decide (i < 2 ^ 62)
def wRng1 (a : EF) : AF := fun env => (a env).bind fun d env1 => match d with
  | .int j => if r62 j = true then .ok (rngD 0 j.toNat) env1 else .bad
  | _ => .bad
def wRng2 (a b : EF) : AF := fun env => (a env).bind fun d env1 => (b env1).bind fun e env2 => match d, e with
  | .int i, .int j => if (r62 i && r62 j) = true then .ok (rngD i (j - i).toNat) env2 else .bad
  | _, _ => .bad
theorem drA1 {K : PySem.W.Frag} {H : Hp} {vs : List V} {d : D} (h : DrA cl K H vs [d]) : ∃ v, vs = [v] ∧ Dr cl K H v d := by
  cases h with
  | cons h r => cases r; exact ⟨_, rfl, h⟩
theorem drA2 {K : PySem.W.Frag} {H : Hp} {vs : List V} {d e : D} (h : DrA cl K H vs [d, e]) : ∃ v w, vs = [v, w] ∧ Dr cl K H v d ∧ Dr cl K H w e := by
  cases h with
  | cons h r => obtain ⟨w, rfl, hw⟩ := drA1 r; exact ⟨_, _, rfl, h, hw⟩
theorem r62_of {i : Int} (h : r62 i = true) : -(2 ^ 62) ≤ i ∧ i < 2 ^ 62 := by
  simp only [r62, Bool.and_eq_true, decide_eq_true_eq] at h
  exact h
/-- the one argument, the two -/
theorem args1 {K : PySem.W.Frag} {fa : EF} {σ : L2.St} {H : Hp} {Q : List V → Hp → Prop} (h : tD cl K W fa σ H fun v H1 => Q [v] H1) : tDA cl K W (dCons fa dNil) σ H Q := by
  obtain ⟨O, P, R, env, r, q⟩ := h
  refine ⟨O, P, R, env, r, ?_⟩
  unfold dCons
  cases e : fa env with
  | ok d env1 =>
    rw [e] at q
    intro vs H1 m r1 d1
    obtain ⟨v, rfl, hv⟩ := drA1 d1
    exact q v H1 m r1 hv
  | err c fs env1 => rw [e] at q; exact q
  | bad => rw [e] at q; exact q
theorem args1' {K : PySem.W.Frag} {fa : EF} {σ : L2.St} {H : Hp} {Q : List V → Hp → Prop} (h : tD cl K W fa σ H fun v H1 => Q [v] H1) : tCons (tD cl K W fa) tNil σ H Q := h
theorem i_rng1 {a : Expr} {fa : EF} {p pos : Pos} (hg : Gl X "range") (hm : X.mg "range" = none) (ha : SE X cl W a fa) (hs0 : starEach [a] X.env = (false, eval a X.env) :: starEach [] X.env := by rfl) (hs : starEach [a] X.env = [(false, eval a X.env)] := by rfl) : SI X cl W tg (.Call (.Name "range" p) [a] [] pos) (wRng1 fa) :=
  piImp (pi_range1 hg hm (pa_cons ha pa_nil hs0) hs) fun σ H Rc ⟨O, P, R, env, r, q⟩ => args1' (wk_bind (f := fa) r q fun d env1 v H1 r1 d1 h1 => by
    cases d with
    | int j =>
      by_cases hb : r62 j = true
      · simp only [hb, if_true] at h1
        rw [dr_int d1]
        exact ⟨j, rfl, (r62_of hb).1, (r62_of hb).2, h1 _ H1 Mv.refl r1 walks_rng⟩
      · simp only [hb, if_false, Bool.false_eq_true] at h1
    | _ => exact h1.elim)
theorem i_rng2 {a b : Expr} {fa fb : EF} {p pos : Pos} (hg : Gl X "range") (hm : X.mg "range" = none) (ha : SE X cl W a fa) (hb : SE X cl W b fb) (hs0 : starEach [a, b] X.env = (false, eval a X.env) :: starEach [b] X.env := by rfl)
    (hs1 : starEach [b] X.env = (false, eval b X.env) :: starEach [] X.env := by rfl) (hs : starEach [a, b] X.env = [(false, eval a X.env), (false, eval b X.env)] := by rfl) (hs2 : starEach [b] X.env = [(false, eval b X.env)] := by rfl) :
    SI X cl W tg (.Call (.Name "range" p) [a, b] [] pos) (wRng2 fa fb) :=
  piImp (pi_range2 hg hm (pa_cons ha (pa_cons hb pa_nil hs1) hs0) hs hs2) fun σ H Rc ⟨O, P, R, env, r, q⟩ => wk_bind (f := fa) r q fun d env1 v H1 r1 d1 h1 => wk_bind (f := fb) r1 h1 fun e env2 u H2 r2 e2 h2 => by
    cases d with
    | int i =>
      cases e with
      | int j =>
        by_cases hb : (r62 i && r62 j) = true
        · simp only [hb, if_true] at h2
          have h3 := Bool.and_eq_true_iff.mp hb
          rw [dr_int e2, dr_int d1]
          exact ⟨i, j, rfl, ⟨(r62_of h3.1).1, (r62_of h3.1).2, (r62_of h3.2).1, (r62_of h3.2).2⟩, h2 _ H2 Mv.refl r2 walks_rng⟩
        · simp only [hb, if_false, Bool.false_eq_true] at h2
      | _ => exact h2.elim
    | _ => exact h2.elim

/-! ### for -/
def sFor (w : AF) (g : Tg) (b : SF) : SF := fun env => match w env with
  | .ok items env1 => forGo g b items env1
  | .err c fs env1 => sErr c fs env1
  | .bad => .bad
where forGo (g : Tg) (b : SF) : List D → Slots → SR
  | [], env => .nx env
  | d :: ds, env => match g d env with
    | none => .bad
    | some env1 => match b env1 with
      | .nx env2 => forGo g b ds env2
      | .ct env2 => forGo g b ds env2
      | .bk env2 => .nx env2
      | .rt d env2 => .rt d env2
      | .err c fs env2 => .err c fs env2
      | .bad => .bad
/-- the turns -/
theorem for_turns {K : PySem.W.Frag} {g : Tg} {g' : TG} {b : SF} {De : Ends} {items : List D} {J : It} {O0 : Addr → Bool} {H0 : Hp} {T : List Nat} (hd : dis S T = true) (hg : TgOk cl K T g g') (wk : Walks cl K O0 H0 J items)
    {P0 R : Addr → Bool} {env0 : Slots} {σ0 : L2.St} (r0 : RelE cl K O0 P0 R env0 σ0 H0) (h : PostS cl K W S O0 P0 R σ0 H0 De (sFor.forGo g b items env0)) :
    ∃ Wv : Nat → Nat → L2.St → Hp → Prop, (∃ m, Wv 0 m σ0 H0) ∧ ∀ i m σ H, Wv i m σ H →
      (J.stop i H ∧ De.nx σ H) ∨ (J.go i H ∧ ∃ N : L2.St → Hp → Prop, (∀ σ' H', N σ' H' → ∃ m', m' < m ∧ Wv (i + 1) m' σ' H') ∧ ∀ x H', J.yld i H x H' → g' x σ H' fun σ2 H2 => tS cl K W S b { De with nx := N, ct := N, bk := De.nx } σ2 H2) := by
  let Wv : Nat → Nat → L2.St → Hp → Prop := fun i m σ H => m = items.length - i ∧ i ≤ items.length ∧ ∃ O P env, Go cl K S R O0 P0 σ0 H0 O P env σ H ∧ PostS cl K W S O P R σ H De (sFor.forGo g b (items.drop i) env)
  refine ⟨Wv, ⟨items.length, by simp, Nat.zero_le _, O0, P0, env0, Go.refl r0, h⟩, ?_⟩
  rintro i m σ H ⟨rfl, hi, O, P, env, go, q⟩
  have sm : Same (cut H0 O0) (cut H O) := cut_of fun a o h n z => ⟨go.out r0 h z, go.keep a o h n z⟩
  by_cases hlt : i < items.length
  · right
    have e1 : items[i]? = some items[i] := List.getElem?_eq_getElem hlt
    obtain ⟨w1, w2⟩ := wk.go O i H _ sm go.rel.dom e1
    rw [List.drop_eq_getElem_cons hlt] at q
    refine ⟨w1, fun σ' H' => Wv (i + 1) (items.length - (i + 1)) σ' H', fun σ' H' z => ⟨_, by omega, z⟩, fun x H' hy => ?_⟩
    obtain ⟨s1, dx⟩ := w2 x H' hy
    replace q : PostS cl K W S O P R σ H De (match g items[i] env with
      | none => .bad
      | some env1 => match b env1 with
        | .nx env2 => sFor.forGo g b (items.drop (i + 1)) env2
        | .ct env2 => sFor.forGo g b (items.drop (i + 1)) env2
        | .bk env2 => .nx env2
        | .rt d env2 => .rt d env2
        | .err c fs env2 => .err c fs env2
        | .bad => .bad) := q
    have r1 : RelE cl K O P R env σ H' := go.rel.same s1
    cases eg : g items[i] env with
    | none => rw [eg] at q; exact q.elim
    | some env1 =>
      rw [eg] at q
      refine hg O P R env env1 σ H' x items[i] _ r1 dx eg fun σ2 r2 k2 => ⟨O, P, R, env1, r2, ?_⟩
      have g2 : Go cl K S R O P σ H O P env1 σ2 H' := ⟨r2, fun _ z => z, fun _ z => z, rfl, fun _ z => .inl z, fun a o _ _ z => s1 a o z, al_same s1, fun a z _ _ => by
        obtain ⟨vs, w⟩ := go.rel.dom a z
        rw [s1 a _ w, w], fun p q h => h.ext s1, IoK.chg hd k2⟩
      have q2 := PostS.of_go go.rel g2 q
      have go2 := go.trans r0 g2
      have nxt : ∀ {env2 : Slots}, PostS cl K W S O P R σ2 H' De (sFor.forGo g b (items.drop (i + 1)) env2) → ∀ O' P' σ' H'', Go cl K S R O P σ2 H' O' P' env2 σ' H'' → Wv (i + 1) (items.length - (i + 1)) σ' H'' := fun {env2} z O' P' σ' H'' g3 =>
        ⟨rfl, hlt, O', P', env2, go2.trans r0 g3, PostS.of_go r2 g3 z⟩
      simp only at q2
      cases eb : b env1 with
      | nx env2 => rw [eb] at q2; exact nxt q2
      | ct env2 => rw [eb] at q2; exact nxt q2
      | bk env2 => rw [eb] at q2; exact q2
      | rt d env2 => rw [eb] at q2; exact q2
      | err c fs env2 => rw [eb] at q2; exact q2
      | bad => rw [eb] at q2; exact q2
  · left
    have : i = items.length := by omega
    subst this
    rw [List.drop_length] at q
    exact ⟨wk.stop O _ H sm (Nat.le_refl _), q O P σ H (Go.refl go.rel)⟩
theorem ss_for {T : List Nat} {iter : Expr} {body : List Stmt} {w : AF} {g : Tg} {b : SF} {pos : Pos} (hp : PassesOwn (model X.prog X.w) X.A X.env X.xe) (hc : X.calm = true) (hi : SI X cl W tg iter w) (hg : SG X cl T tg g) (hb : SSs X cl W S body b)
    (hd : dis S T = true := by rfl) (hs : ∀ x, foldedSetIterable iter X.env x = pure x := by intro _; rfl) : SS X cl W S (.For tg iter body [] pos) (sFor w g b) := by
  obtain ⟨g', a, ok⟩ := hg.ex
  refine psImp (ps_for hp hc hi a hb hs) fun De σ H ⟨O, P, R, env, r, h⟩ => ⟨O, P, R, env, r, ?_⟩
  unfold sFor at h
  cases e : w env with
  | ok items env1 =>
    rw [e] at h
    exact fun J H1 m r1 wk => for_turns hd ok wk r1 (h.of_go r (Go.of_mv r1 m))
  | err c fs env1 => rw [e] at h; exact err_out r.dom h
  | bad => rw [e] at h; exact h
end
end DL

end
section
namespace DL
open PySem PySem.Spec L2

/-! ### comprehensions -/
def isUn (env : Slots) (i : Nat) : Bool := match env[i]? with
  | some .un => true
  | _ => false
def wipeE : List Nat → Slots → Slots
  | [], env => env
  | v :: vs, env => (wipeE vs env).set v .un
def W0 : WX := fun _ _ _ _ => False
theorem wipe_get {σ : L2.St} {i : Nat} : ∀ {vs : List Nat}, (i ∉ vs → (wipe σ vs)[i]? = σ[i]?) ∧ (i ∈ vs → i < σ.length → (wipe σ vs)[i]? = some none)
  | [] => ⟨fun _ => rfl, fun h => by simp at h⟩
  | v :: vs => by
    obtain ⟨h1, h2⟩ := wipe_get (σ := σ) (i := i) (vs := vs)
    constructor
    · intro h
      simp only [List.mem_cons, not_or] at h
      show ((wipe σ vs).set v none)[i]? = σ[i]?
      rw [List.getElem?_set_ne (Ne.symm h.1)]
      exact h1 h.2
    · intro h hl
      show ((wipe σ vs).set v none)[i]? = some none
      by_cases e : v = i
      · subst e
        rw [List.getElem?_set_self (by rw [wipe_length]; exact hl)]
      · rw [List.getElem?_set_ne e]
        refine h2 ?_ hl
        rcases List.mem_cons.mp h with z | z
        · exact absurd z.symm e
        · exact z
theorem wipe_chg {T vs : List Nat} {σ σ2 : L2.St} (c : Chg T (wipe σ vs) σ2) (h : ∀ i ∈ T, i ∈ vs) : wipe σ2 vs = wipe σ vs := by
  have hl : σ2.length = σ.length := c.len.trans (wipe_length σ vs)
  refine List.ext_getElem? fun i => ?_
  by_cases hi : i ∈ vs
  · by_cases hb : i < σ.length
    · rw [(wipe_get (σ := σ2)).2 hi (by rw [hl]; exact hb), (wipe_get (σ := σ)).2 hi hb]
    · rw [List.getElem?_eq_none (by rw [wipe_length, hl]; omega), List.getElem?_eq_none (by rw [wipe_length]; omega)]
  · rw [(wipe_get (σ := σ2)).1 hi, c.at_ i fun z => hi (h i z)]
theorem wipeE_get {env : Slots} {i : Nat} : ∀ {vs : List Nat} {s : Sl}, (wipeE vs env)[i]? = some s → s = .un ∨ (i ∉ vs ∧ env[i]? = some s)
  | [], s, h => .inr ⟨by simp, h⟩
  | v :: vs, s, h => by
    have h' : ((wipeE vs env).set v .un)[i]? = some s := h
    by_cases e : i = v
    · subst e
      rw [List.getElem?_set] at h'
      split at h'
      · split at h'
        · cases h'; exact .inl rfl
        · cases h'
      · rename_i z; exact absurd rfl z
    · rw [List.getElem?_set_ne (Ne.symm e)] at h'
      rcases wipeE_get (vs := vs) h' with z | ⟨z1, z2⟩
      · exact .inl z
      · exact .inr ⟨by simp only [List.mem_cons, not_or]; exact ⟨e, z1⟩, z2⟩
theorem wipeE_len {env : Slots} : ∀ {vs : List Nat}, (wipeE vs env).length = env.length
  | [] => rfl
  | v :: vs => by
    show ((wipeE vs env).set v .un).length = env.length
    rw [List.length_set, wipeE_len]
def compGo (g : Tg) (t e : EF) (vs : List Nat) : List D → List D → Slots → Res (List D)
  | [], acc, env => .ok acc env
  | d :: ds, acc, env => match g d env with
    | none => .bad
    | some env1 => match t env1 with
      | .ok (.bl true) env2 => (match e env2 with
        | .ok z env3 => if acc.length < sizeLine then compGo g t e vs ds (acc ++ [z]) (wipeE vs env3) else .bad
        | _ => .bad)
      | .ok (.bl false) env2 => compGo g t e vs ds acc (wipeE vs env2)
      | _ => .bad
def dComp (w : AF) (g : Tg) (t e : EF) (vs : List Nat) : EF := fun env => (w env).bind fun items env1 => if vs.all (isUn env1) = true then (compGo g t e vs items [] env1).bind fun acc env2 => .ok (.lst acc) env2 else .bad
def or1 (O : Addr → Bool) (p : Addr) : Addr → Bool := fun a => O a || a == p

section
variable {cl : Nat → Addr} {K : PySem.W.Frag} {O P R : Addr → Bool} {env env' : Slots} {σ σ' : L2.St} {H H' : Hp}
/-- other names' places, told or forgotten -/
theorem RelE.reslot (r : RelE cl K O P R env σ H) (hl : σ'.length = env'.length) (h : ∀ (i : Nat) (s : Sl), env'[i]? = some s → s = .un ∨ (env[i]? = some s ∧ σ'[i]? = σ[i]?)) : RelE cl K O P R env' σ' H := by
  have ow : ∀ {i : Nat}, owned env' i = true → owned env i = true ∧ σ'[i]? = σ[i]? := fun {i} q => by
    unfold owned at q ⊢
    cases e : env'[i]? with
    | none => rw [e] at q; cases q
    | some s =>
      rcases h i s e with z | ⟨z, k⟩
      · subst z; rw [e] at q; cases q
      · rw [e] at q; rw [z]; exact ⟨q, k⟩
  refine ⟨hl, fun i d q => ?_, fun i xs q => ?_, fun i xs q => ?_, fun i j p h1 h2 e1 e2 => ?_, r.dom, r.subP, r.subR, r.apart⟩
  · rcases h i _ q with z | ⟨z, k⟩
    · cases z
    · rw [k]; exact r.pu i d z
  · rcases h i _ q with z | ⟨z, k⟩
    · cases z
    · rw [k]; exact r.ow i xs z
  · rcases h i _ q with z | ⟨z, k⟩
    · cases z
    · rw [k]; exact r.io i xs z
  · obtain ⟨o1, k1⟩ := ow h1
    obtain ⟨o2, k2⟩ := ow h2
    rw [k1] at e1
    rw [k2] at e2
    exact r.inj i j p o1 o2 e1 e2
theorem or1_sub {p : Addr} : ∀ a, O a = true → or1 O p a = true := fun a h => by unfold or1; rw [h]; rfl
/-- a new list beside -/
theorem RelE.laidL {p : Addr} {vs : List V} (r : RelE cl K O P R env σ H) (hp : H p = none) : RelE cl K (or1 O p) P R env σ (upd H p (.lst vs)) := by
  have sm : Same H (upd H p (.lst vs)) := same_new hp
  have c : Same (cut H O) (cut (upd H p (.lst vs)) (or1 O p)) := cut_of fun a o h _ z => ⟨by
    unfold or1
    simp [h, ne_of_none z hp], sm a o z⟩
  refine ⟨r.len, fun i d q => ?_, fun i xs q => ?_, fun i xs q => ?_, r.inj, fun a h => ?_, fun a h => or1_sub a (r.subP a h), fun a h => or1_sub a (r.subR a h), r.apart⟩
  · obtain ⟨v, e1, e2⟩ := r.pu i d q; exact ⟨v, e1, e2.mono c⟩
  · obtain ⟨q1, ws, e1, e2, e3, e4⟩ := r.ow i xs q; exact ⟨q1, ws, e1, e2, sm _ _ e3, e4.mono c⟩
  · obtain ⟨q1, ws, e1, e2, e3, e4⟩ := r.io i xs q; exact ⟨q1, ws, e1, e2, sm _ _ e3, e4.mono c⟩
  · unfold or1 at h
    simp only [Bool.or_eq_true, beq_iff_eq] at h
    rcases h with h | h
    · obtain ⟨ws, w⟩ := r.dom a h; exact ⟨ws, sm _ _ w⟩
    · subst h; exact ⟨vs, upd_same⟩
/-- it changes -/
theorem RelE.putL {p : Addr} {vs : List V} (r : RelE cl K (or1 O p) P R env σ H) (hP : P p = false) (hR : R p = false) : RelE cl K (or1 O p) P R env σ (upd H p (.lst vs)) := by
  have ot : or1 O p p = true := by unfold or1; simp
  have c : Same (cut H (or1 O p)) (cut (upd H p (.lst vs)) (or1 O p)) := cut_of fun a o h _ z => ⟨h, by rw [upd_ne (fun e => by rw [e, ot] at h; cases h)]; exact z⟩
  refine ⟨r.len, fun i d q => ?_, fun i xs q => ?_, fun i xs q => ?_, r.inj, fun a h => ?_, r.subP, r.subR, r.apart⟩
  · obtain ⟨v, e1, e2⟩ := r.pu i d q; exact ⟨v, e1, e2.mono c⟩
  · obtain ⟨q1, ws, e1, e2, e3, e4⟩ := r.ow i xs q
    exact ⟨q1, ws, e1, e2, by rw [upd_ne (fun e => by rw [e, hP] at e2; cases e2)]; exact e3, e4.mono c⟩
  · obtain ⟨q1, ws, e1, e2, e3, e4⟩ := r.io i xs q
    exact ⟨q1, ws, e1, e2, by rw [upd_ne (fun e => by rw [e, hR] at e2; cases e2)]; exact e3, e4.mono c⟩
  · by_cases e : a = p
    · subst e; exact ⟨vs, upd_same⟩
    · obtain ⟨ws, w⟩ := r.dom a h; exact ⟨ws, by rw [upd_ne e]; exact w⟩
/-- it is one's own no more -/
theorem RelE.dropL {p : Addr} (r : RelE cl K (or1 O p) P R env σ H) (sP : ∀ a, P a = true → O a = true) (sR : ∀ a, R a = true → O a = true) : RelE cl K O P R env σ H := by
  have c : Same (cut H (or1 O p)) (cut H O) := cut_sub or1_sub
  refine ⟨r.len, fun i d q => ?_, fun i xs q => ?_, fun i xs q => ?_, r.inj, fun a h => r.dom a (or1_sub a h), sP, sR, r.apart⟩
  · obtain ⟨v, e1, e2⟩ := r.pu i d q; exact ⟨v, e1, e2.mono c⟩
  · obtain ⟨q1, ws, e1, e2, e3, e4⟩ := r.ow i xs q; exact ⟨q1, ws, e1, e2, e3, e4.mono c⟩
  · obtain ⟨q1, ws, e1, e2, e3, e4⟩ := r.io i xs q; exact ⟨q1, ws, e1, e2, e3, e4.mono c⟩
end

theorem compGo_noerr {g : Tg} {t e : EF} {vs : List Nat} : ∀ (ds acc : List D) (env : Slots) {c : Nat} {fs : List (Str × D)} {env2 : Slots}, compGo g t e vs ds acc env ≠ .err c fs env2
  | [], acc, env, c, fs, env2 => fun h => by cases h
  | d :: ds, acc, env, c, fs, env2 => fun h => by
    unfold compGo at h
    split at h
    · cases h
    · split at h
      · split at h
        · split at h
          · exact compGo_noerr ds _ _ h
          · cases h
        · cases h
      · exact compGo_noerr ds _ _ h
      · cases h
section
variable {X : Cx} {cl : Nat → Addr} {W : WX}
/-- the turns of a comprehension; D: the list that is made -/
theorem comp_turns {K : PySem.W.Frag} {g : Tg} {g' : TG} {t e : EF} {vs T : List Nat} {items : List D} {J : It} {O P R : Addr → Bool} {H1 : Hp} {env : Slots} {σ : L2.St} {Da : Addr} {Qd : Hp → Prop}
    (hT : ∀ i ∈ T, i ∈ vs) (hg : TgOk cl K T g g') (wk : Walks cl K O H1 J items) (r : RelE cl K O P R env σ H1) (hun : ∀ v ∈ vs, isUn env v = true) (hD : H1 Da = none)
    (h : match compGo g t e vs items [] env with
      | .ok acc env2 => ∀ H ws, RelE cl K (or1 O Da) P R env2 σ H → Mv O P R H1 H → H Da = some (.lst ws) → DrA cl K (cut H (or1 O Da)) ws acc → Qd H
      | _ => False) :
    ∃ Wv : Nat → Nat → Hp → Prop, (∃ m, Wv 0 m (upd H1 Da (.lst []))) ∧ ∀ i m H, Wv i m H →
      (J.stop i H ∧ Qd H) ∨ (J.go i H ∧ ∃ Nx : Hp → Prop, (∀ H', Nx H' → ∃ m', m' < m ∧ Wv (i + 1) m' H') ∧ ∀ x H', J.yld i H x H' → g' x (wipe σ vs) H' fun σ2 H2 => wipe σ2 vs = wipe σ vs ∧ tDT cl K W0 t σ2 H2 fun b H3 =>
        if b = true then tD cl K W0 e σ2 H3 fun y H4 => ∃ acc, H4 Da = some (.lst acc) ∧ acc.length < sizeLine ∧ Nx (upd H4 Da (.lst (acc ++ [y]))) else Nx H3) := by
  have oD : O Da = false := r.fresh hD
  have pD : P Da = false := by cases q : P Da with | false => rfl | true => rw [r.subP _ q] at oD; cases oD
  have rD : R Da = false := by cases q : R Da with | false => rfl | true => rw [r.subR _ q] at oD; cases oD
  have otD : or1 O Da Da = true := by unfold or1; simp
  -- what stands ahead of a turn
  let St1 : List D → Slots → Hp → Prop := fun acc env H => ∃ ws, RelE cl K (or1 O Da) P R env (wipe σ vs) H ∧ (∀ v ∈ vs, isUn env v = true) ∧ Mv O P R H1 H ∧ H Da = some (.lst ws) ∧ DrA cl K (cut H (or1 O Da)) ws acc
  let G : List D → List D → Slots → Prop := fun ds acc env => match compGo g t e vs ds acc env with
    | .ok acc env2 => ∀ H ws, RelE cl K (or1 O Da) P R env2 σ H → Mv O P R H1 H → H Da = some (.lst ws) → DrA cl K (cut H (or1 O Da)) ws acc → Qd H
    | _ => False
  let Wv : Nat → Nat → Hp → Prop := fun i m H => m = items.length - i ∧ i ≤ items.length ∧ ∃ acc env, St1 acc env H ∧ G (items.drop i) acc env
  have m0 : Mv O P R H1 (upd H1 Da (.lst [])) := Mv.same (same_new hD) r.dom
  have un_ne : ∀ {env : Slots}, (∀ v ∈ vs, isUn env v = true) → ∀ (i : Nat) (s : Sl), env[i]? = some s → s = .un ∨ i ∉ vs := fun {env} hu i s e => by
    by_cases q : i ∈ vs
    · have := hu i q
      unfold isUn at this
      rw [e] at this
      cases s <;> first | exact .inl rfl | cases this
    · exact .inr q
  refine ⟨Wv, ⟨items.length, by simp, Nat.zero_le _, [], env, ⟨[], ?_, hun, m0, upd_same, .nil⟩, h⟩, ?_⟩
  · exact (r.laidL hD).reslot (by rw [wipe_length]; exact r.len) fun i s q => by
      rcases un_ne hun i s q with z | z
      · exact .inl z
      · exact .inr ⟨q, (wipe_get (σ := σ)).1 z⟩
  rintro i m H ⟨rfl, hi, acc, env1, ⟨ws, r1, hu1, mv, hDa, ha⟩, q⟩
  have sm : Same (cut H1 O) (cut H (or1 O Da)) := cut_of fun a o h n z => ⟨by
    unfold or1
    simp [h, ne_of_none z hD], mv.keep a o h n z⟩
  by_cases hlt : i < items.length
  · right
    have e1 : items[i]? = some items[i] := List.getElem?_eq_getElem hlt
    obtain ⟨w1, w2⟩ := wk.go _ i H _ sm r1.dom e1
    rw [List.drop_eq_getElem_cons hlt] at q
    refine ⟨w1, fun H' => Wv (i + 1) (items.length - (i + 1)) H', fun H' z => ⟨_, by omega, z⟩, fun x H' hy => ?_⟩
    obtain ⟨s1, dx⟩ := w2 x H' hy
    have r1' := r1.same s1
    have mv' : Mv O P R H1 H' := mv.trans ⟨fun a o _ _ z => s1 a o z, al_same s1, fun a z _ _ => by
      obtain ⟨us, w⟩ := r1.dom a (or1_sub a z)
      rw [s1 a _ w, w], fun p q h => h.ext s1⟩
    have ha' := ha.mono (cut_same (O := or1 O Da) s1)
    have hDa' := s1 _ _ hDa
    replace q : match (match g items[i] env1 with
        | none => .bad
        | some env1 => match t env1 with
          | .ok (.bl true) env2 => (match e env2 with
            | .ok z env3 => if acc.length < sizeLine then compGo g t e vs (items.drop (i + 1)) (acc ++ [z]) (wipeE vs env3) else .bad
            | _ => .bad)
          | .ok (.bl false) env2 => compGo g t e vs (items.drop (i + 1)) acc (wipeE vs env2)
          | _ => .bad : Res (List D)) with
      | .ok acc env2 => ∀ H ws, RelE cl K (or1 O Da) P R env2 σ H → Mv O P R H1 H → H Da = some (.lst ws) → DrA cl K (cut H (or1 O Da)) ws acc → Qd H
      | _ => False := q
    cases eg : g items[i] env1 with
    | none => rw [eg] at q; exact q.elim
    | some env2 =>
      rw [eg] at q
      refine hg _ P R env1 env2 (wipe σ vs) H' x items[i] _ r1' dx eg fun σ2 r2 k2 => ⟨wipe_chg k2 hT, _, P, R, env2, r2, ?_⟩
      have hl2 : σ2.length = σ.length := k2.len.trans (wipe_length σ vs)
      -- the next turn's places
      have back : ∀ {env3 : Slots} {H3 : Hp}, RelE cl K (or1 O Da) P R env3 σ2 H3 → RelE cl K (or1 O Da) P R (wipeE vs env3) (wipe σ vs) H3 := fun {env3 H3} r3 =>
        r3.reslot (by rw [wipe_length, wipeE_len, ← r3.len, hl2]) fun j s z => by
          rcases wipeE_get z with z | ⟨z1, z2⟩
          · exact .inl z
          · exact .inr ⟨z2, (k2.at_ j fun y => z1 (hT j y)).symm⟩
      have unW : ∀ {env3 : Slots}, env3.length = σ.length → ∀ v ∈ vs, isUn (wipeE vs env3) v = true := fun {env3} hl v hv => by
        have hb : v < σ.length := by
          have z := hun v hv
          unfold isUn at z
          split at z
          · rename_i e9
            rw [r.len]
            exact (List.getElem?_eq_some_iff.mp e9).1
          · cases z
        have hb3 : v < (wipeE vs env3).length := by rw [wipeE_len, hl]; exact hb
        unfold isUn
        rw [List.getElem?_eq_getElem hb3]
        rcases wipeE_get (List.getElem?_eq_getElem hb3) with z | ⟨z, _⟩
        · rw [z]
        · exact absurd hv z
      have mvO : ∀ {Ha Hb : Hp}, Mv (or1 O Da) P R Ha Hb → Ha Da = some (.lst ws) → Mv O P R Ha Hb ∧ Hb Da = some (.lst ws) := fun {Ha Hb} mm hh => by
        have eD : Hb Da = Ha Da := mm.frn Da otD pD rD
        refine ⟨⟨fun a o h1 n h2 => ?_, mm.al, fun a h1 h2 h3 => mm.frn a (or1_sub a h1) h2 h3, mm.tab⟩, eD.trans hh⟩
        by_cases ne : a = Da
        · subst ne; rw [eD]; exact h2
        · exact mm.keep a o (by unfold or1; simp [h1, ne]) n h2
      simp only at q
      cases et : t env2 with
      | ok b env3 =>
        rw [et] at q
        cases b with
        | bl b =>
          intro H3 m3 r3
          obtain ⟨m3', hD3⟩ := mvO m3 hDa'
          cases b with
          | false =>
            rw [if_neg Bool.false_ne_true]
            exact ⟨rfl, hlt, acc, _, ⟨ws, back r3, unW (by rw [← r3.len, hl2]), mv'.trans m3', hD3, ha'.mono m3.cut⟩, q⟩
          | true =>
            rw [if_pos rfl]
            refine ⟨_, P, R, env3, r3, ?_⟩
            cases ee : e env3 with
            | ok z env4 =>
              simp only [ee] at q
              intro y H4 m4 r4 d4
              obtain ⟨m4', hD4⟩ := mvO m4 hD3
              by_cases hz : acc.length < sizeLine
              · rw [if_pos hz] at q
                have ha4 := (ha'.mono m3.cut).mono m4.cut
                refine ⟨ws, hD4, by rw [ha4.length]; exact hz, rfl, hlt, acc ++ [z], _, ⟨ws ++ [y], (back r4).putL pD rD, unW (by rw [← r4.len, hl2]), ?_, upd_same, ?_⟩, q⟩
                · have m5 := mv'.trans (m3'.trans m4')
                  refine ⟨fun a o h1 n h2 => ?_, fun a h1 => ?_, fun a h1 h2 h3 => ?_, fun p q h => ?_⟩
                  · rw [upd_ne (ne_of_none h2 hD)]; exact m5.keep a o h1 n h2
                  · by_cases ne : a = Da
                    · subst ne; rw [upd_same]; exact fun z => nomatch z
                    · rw [upd_ne ne]; exact m5.al a h1
                  · rw [upd_ne (fun ne => by rw [ne, oD] at h1; cases h1)]; exact m5.frn a h1 h2 h3
                  · obtain ⟨ps, t1, t2, t3⟩ := m5.tab p q h
                    have nl : ∀ {b : Addr} {o : HO}, H4 b = some o → (∀ xs, o ≠ .lst xs) → upd H4 Da (.lst (ws ++ [y])) b = some o := fun {b o} e ne => by
                      rw [upd_ne (fun z => by rw [z, hD4] at e; exact ne ws (Option.some.inj e).symm)]; exact e
                    refine ⟨ps, nl t1 (fun xs z => by cases z), t2, fun pos cv hc => ?_⟩
                    obtain ⟨c, c1, c2⟩ := t3 pos cv hc
                    exact ⟨c, c1, nl c2 (fun xs z => by unfold LamX.CodeO at z; cases z)⟩
                · have cc : Same (cut H4 (or1 O Da)) (cut (upd H4 Da (.lst (ws ++ [y]))) (or1 O Da)) := cut_of fun a o h _ z => ⟨h, by rw [upd_ne (fun e => by rw [e, otD] at h; cases h)]; exact z⟩
                  exact (ha4.append (.cons d4 .nil)).mono cc
              · rw [if_neg hz] at q; exact q.elim
            | err c fs env4 => simp only [ee] at q
            | bad => simp only [ee] at q
        | _ => exact q.elim
      | err c fs env3 => rw [et] at q; exact q.elim
      | bad => rw [et] at q; exact q.elim
  · left
    have : i = items.length := by omega
    subst this
    rw [List.drop_length] at q
    refine ⟨wk.stop _ _ H sm (Nat.le_refl _), q H ws (r1.reslot (by rw [← wipe_length σ vs]; exact r1.len) fun j s z => ?_) mv hDa ha⟩
    rcases un_ne hu1 j s z with y | y
    · exact .inl y
    · exact .inr ⟨z, ((wipe_get (σ := σ)).1 y).symm⟩
/-- the one list that is new -/
theorem comp_post {K : PySem.W.Frag} {w : AF} {g : Tg} {g' : TG} {t e : EF} {vs T : List Nat} (hT : ∀ i ∈ T, i ∈ vs) (ok : TgOk cl K T g g') (σ : L2.St) (H : Hp) (Q : VK) :
    tD cl K W (dComp w g t e vs) σ H Q → tLc (tWk cl K W w) g' (tDT cl K W0 t) (tD cl K W0 e) vs σ H Q := fun ⟨O, P, R, env, rel, q⟩ => by
  refine ⟨O, P, R, env, rel, ?_⟩
  unfold dComp at q
  cases ew : w env with
  | ok items env1 =>
    rw [ew, Res.bind_ok] at q
    intro J H1 m r1 wk Da hD
    by_cases hu : vs.all (isUn env1) = true
    · rw [if_pos hu] at q
      refine comp_turns hT ok wk r1 (fun v hv => List.all_eq_true.mp hu v hv) hD ?_
      cases ec : compGo g t e vs items [] env1 with
      | ok acc env2 =>
        rw [ec, Res.bind_ok] at q
        intro H2 ws r2 m2 hd ha
        refine q (.ref Da) H2 (m.trans m2) (r2.dropL r1.subP r1.subR) (.lst (cut_ge hd (r1.fresh hD)) (ha.mono (cut_sub or1_sub)))
      | err c fs env2 =>
        -- no error leaves a comprehension
        exfalso
        exact compGo_noerr _ _ _ ec
      | bad => rw [ec] at q; exact q.elim
    · rw [if_neg hu] at q; exact q.elim
  | err c fs env1 => rw [ew] at q; exact q
  | bad => rw [ew] at q; exact q
theorem tgOk_name {K : PySem.W.Frag} (i : Nat) : TgOk cl K [i] (tgN i) (gName i) := fun O P R env env' σ H v d Q r hv e q => by
  unfold tgN at e
  split at e
  · rename_i c
    cases e
    exact q _ (r.setPu i hv c) Chg.set
  · cases e
theorem tgsOk_nil {K : PySem.W.Frag} : TgsOk cl K [] tgNil gNil := fun O P R env env' σ H vs ds Q r hv e q => by
  cases hv with
  | nil => cases e; exact ⟨rfl, q σ r Chg.refl⟩
  | cons _ _ => cases e
theorem tgsOk_cons {K : PySem.W.Frag} {T T' : List Nat} {f : Tg} {g : List D → Slots → Option Slots} {g1 : TG} {g2 : TGs} (b1 : TgOk cl K T f g1) (b2 : TgsOk cl K T' g g2) : TgsOk cl K (T ++ T') (tgCons f g) (gCons g1 g2) := fun O P R env env' σ H vs ds Q r hv e q => by
  cases hv with
  | nil => cases e
  | @cons v vr d dr hv hr =>
    refine ⟨v, vr, rfl, ?_⟩
    replace e : (f d env).bind (fun env1 => g dr env1) = some env' := e
    cases ef : f d env with
    | none => rw [ef] at e; cases e
    | some env1 =>
      rw [ef] at e
      exact b1 O P R env env1 σ H v d _ r hv ef fun σ1 r1 k1 => b2 O P R env1 env' σ1 H vr dr Q r1 hr e fun σ2 r2 k2 => q σ2 r2 (k1.app k2)
theorem tgOk_tup {K : PySem.W.Frag} {T : List Nat} {n : Nat} {f : List D → Slots → Option Slots} {g : TGs} (b : TgsOk cl K T f g) : TgOk cl K T (tgTup n f) (gTup K n g) := fun O P R env env' σ H v d Q r hv e q => by
  cases d with
  | tup ds =>
    obtain ⟨p, vs, rfl, hs, hr⟩ := dr_tup hv
    replace e : (if ds.length = n then f ds env else none) = some env' := e
    by_cases hl : ds.length = n
    · rw [if_pos hl] at e
      exact ⟨p, vs, rfl, sqT_mono cut_le hs, by rw [hr.length]; exact hl, b O P R env env' σ H vs _ Q r hr e q⟩
    · rw [if_neg hl] at e; cases e
  | _ => cases e
/-- no test: all -/
def dYes : EF := dC (.bl true)
theorem pts_yes {Y : Cx} {K : PySem.W.Frag} : PTs Y [] (tDT cl K W0 dYes) := ⟨fun pins s σ H Q I ⟨O, P, R, env, r, q⟩ => pts_nil.run pins s σ H Q I (q H Mv.refl r)⟩
theorem pts_b {Y : Cx} {c : Expr} {t : EF} (h : SB Y cl W0 c t) : PTs Y [c] (tDT cl Y.K W0 t) := pts_one h
abbrev Blk (X : Cx) (scope : Scope) (s : Shared) (H : Hp) (C : Addr) (c2 : List (Str × Addr)) (fp : List Addr) : Cx := X.blk s H scope (compEnvC scope c2 C X.env) fp
theorem s_comp (own : List (Str × Nat)) {T : List Nat} {elt tg iter : Expr} {ifs : List Expr} {scope : Scope} {pos : Pos} {w : AF} {g : Tg} {g' : TG} {t e : EF} (hc : X.calm = true) (hN : X.N.Nodup) (hi : SI X cl W tg iter w) (ok : blkC X.N X.env.scope scope own = true)
    (gk : TgOk cl X.K T g g') (hg : ∀ (s : Shared) (H : Hp) (C : Addr) (c2 : List (Str × Addr)) (fp : List Addr), PG (Blk X scope s H C c2 fp) tg g')
    (ht : ∀ (s : Shared) (H : Hp) (C : Addr) (c2 : List (Str × Addr)) (fp : List Addr), PTs (Blk X scope s H C c2 fp) ifs (tDT cl X.K W0 t))
    (he : ∀ (s : Shared) (H : Hp) (C : Addr) (c2 : List (Str × Addr)) (fp : List Addr), SE (Blk X scope s H C c2 fp) cl W0 elt e) (hT : ∀ i ∈ T, i ∈ own.map (·.2) := by decide) (hs : ∀ x, foldedSetIterable iter X.env x = pure x := by intro _; rfl) :
    SE X cl W (.ListComp elt [⟨tg, iter, ifs, 0⟩] scope pos) (dComp w g t e (own.map (·.2))) :=
  eImp (pe_lc hc hN hi (blkOk_by ok) hg ht he hs) (comp_post hT gk)
/-- name = [..] on one line, the name a local -/
theorem ss_setComp {S : List Nat} (i : Nat) (own : List (Str × Nat)) {T : List Nat} {y : Str} {py spos : Pos} {elt tg iter : Expr} {ifs : List Expr} {scope : Scope} {pos : Pos} {w : AF} {g : Tg} {g' : TG} {t e : EF} (hc : X.calm = true) (hN : X.N.Nodup) (hi : SI X cl W tg iter w) (ok : blkC X.N X.env.scope scope own = true)
    (gk : TgOk cl X.K T g g') (hg : ∀ (s : Shared) (H : Hp) (C : Addr) (c2 : List (Str × Addr)) (fp : List Addr), PG (Blk X scope s H C c2 fp) tg g')
    (ht : ∀ (s : Shared) (H : Hp) (C : Addr) (c2 : List (Str × Addr)) (fp : List Addr), PTs (Blk X scope s H C c2 fp) ifs (tDT cl X.K W0 t))
    (he : ∀ (s : Shared) (H : Hp) (C : Addr) (c2 : List (Str × Addr)) (fp : List Addr), SE (Blk X scope s H C c2 fp) cl W0 elt e) (hy : X.N[i]? = some y := by rfl) (hyl : X.env.scope.names.lookup y = some .local := by rfl)
    (hsw : swapsWith (.ListComp elt [⟨tg, iter, ifs, 0⟩] scope pos) (some (.Name y py)) spos.line X.env = pure true := by exact sw_true rfl rfl rfl (by decide +kernel))
    (hT : ∀ i ∈ T, i ∈ own.map (·.2) := by decide) (hd : S.contains i = false := by rfl) (hs : ∀ x, foldedSetIterable iter X.env x = pure x := by intro _; rfl) :
    SS X cl W S (.Assign [.Name y py] (.ListComp elt [⟨tg, iter, ifs, 0⟩] scope pos) spos) (sAsg (tgN i) (dComp w g t e (own.map (·.2)))) := by
  refine psImp (ps_setLc (te := tD cl X.K W0 e) (tt := tDT cl X.K W0 t) hc hN hy hyl hsw hi (blkOk_by ok) hg ht he hs) fun De σ H ⟨O, P, R, env, r, h⟩ => ?_
  refine comp_post (W := W) hT gk σ H _ (PostS.bind (f := dComp w g t e (own.map (·.2))) (k := fun d env1 => match tgN i d env1 with | some env2 => .nx env2 | none => .bad) r h fun d env1 v H1 r1 d1 h1 => ?_)
  unfold tgN at h1
  split at h1
  · rename_i o env2 e2
    split at e2
    · rename_i c
      cases e2
      exact h1 O P _ H1 ⟨r1.setPu i d1 c, fun _ z => z, fun _ z => z, rfl, fun _ z => .inl z, fun _ _ _ _ z => z, fun _ z => z, fun _ _ _ _ => rfl, fun _ _ z => z, IoK.set hd⟩
    · cases e2
  · exact h1.elim
end
end DL

end
section
namespace DL
open PySem PySem.Spec L2

section
variable {X : Cx} {cl : Nat → Addr} {W : WX}
theorem DrA.atI {K : PySem.W.Frag} {H : Hp} {vs : List V} {ds : List D} {i : Int} {d : D} (r : DrA cl K H vs ds) (h : L2.atI ds i = some d) : ∃ v, L2.atI vs i = some v ∧ Dr cl K H v d := by
  unfold L2.atI at h ⊢
  rw [r.length]
  cases e : ixN ds.length i with
  | none => rw [e] at h; cases h
  | some j =>
    rw [e] at h
    exact r.get h

/-! ### xs[i], t[i] -/
def gIx : D → D → Option D
  | .lst xs, .int i => atI xs i
  | .tup xs, .int i => atI xs i
  | .fz xs, .int i => atI xs i
  | _, _ => none
theorem s_ix {a b : Expr} {fa fb : EF} {pos : Pos} (ha : SE X cl W a fa) (hb : SE X cl W b fb) (hs : PlainIx b := by exact fun _ _ => rfl) : SE X cl W (.Subscript a b pos) (dOp gIx fa fb) :=
  eImp (pe_ix ix_seq ha hb hs) (tOp_of fun O H x y dx dy z Q dm hx hy e q => by
    cases dy with
    | int i =>
      rw [dr_int hy]
      cases dx with
      | lst xs =>
        obtain ⟨a, vs, rfl, h1, h2⟩ := dr_lst hx
        obtain ⟨v, e1, e2⟩ := h2.atI (show atI xs i = some z from e)
        exact .inl ⟨a, vs, i, v, rfl, rfl, .inl (.inl (cut_le _ _ h1)), e1, q v H (Same.refl H) e2⟩
      | tup xs =>
        obtain ⟨a, vs, rfl, h1, h2⟩ := dr_tup hx
        obtain ⟨v, e1, e2⟩ := h2.atI (show atI xs i = some z from e)
        exact .inr (.inl ⟨a, vs, i, v, rfl, rfl, sqT_mono cut_le h1, e1, q v H (Same.refl H) e2⟩)
      | fz xs =>
        cases hx with
        | fz h1 h2 =>
          obtain ⟨v, e1, e2⟩ := h2.atI (show atI xs i = some z from e)
          exact .inl ⟨_, _, i, v, rfl, rfl, Same.seq cut_le h1, e1, q v H (Same.refl H) e2⟩
      | _ => cases e
    | _ => cases dx <;> cases e)

/-! ### slices -/
abbrev OF := Slots → Option (EF)
def cutD (xs : List D) (lo hi : Option Int) : List D := (xs.drop (HT.sIx xs.length 0 lo)).take (HT.sIx xs.length xs.length hi - HT.sIx xs.length 0 lo)
theorem DrA.cutD {K : PySem.W.Frag} {H : Hp} {vs : List V} {ds : List D} (r : DrA cl K H vs ds) (lo hi : Option Int) : DrA cl K H (cutV vs lo hi) (cutD ds lo hi) := by
  unfold cutV DL.cutD
  rw [r.length]
  exact (r.drop _).take _
def gSl (lo hi : Option Int) : D → Option D
  | .tup xs => some (.tup (cutD xs lo hi))
  | .lst xs => some (.lst (cutD xs lo hi))
  | .fz xs => some (.lst (cutD xs lo hi))
  | _ => none
def optI : D → Option Int
  | .int i => some i
  | _ => none
/-- a[lo:hi]; a part left out: none -/
def dPart : Option EF → Slots → Res (Option Int)
  | none, env => .ok none env
  | some f, env => (f env).bind fun d env1 => match d with
    | .int i => .ok (some i) env1
    | _ => .bad
def dSl (a : EF) (lo hi : Option EF) : EF := fun env => (a env).bind fun d env1 => (dPart lo env1).bind fun l env2 => (dPart hi env2).bind fun h env3 => match gSl l h d with
  | some z => .ok z env3
  | none => .bad
def PostO (cl : Nat → Addr) (K : PySem.W.Frag) (W : WX) (O P R : Addr → Bool) (σ : L2.St) (H : Hp) (Q : Option Int → Hp → Prop) : Res (Option Int) → Prop
  | .ok o env' => ∀ H', Mv O P R H H' → RelE cl K O P R env' σ H' → Q o H'
  | .err c fs env' => dF W cl K O P R σ H c fs env'
  | .bad => False
def tDO (cl : Nat → Addr) (K : PySem.W.Frag) (W : WX) (f : Slots → Res (Option Int)) : TO := fun σ H Q => ∃ O P R env, RelE cl K O P R env σ H ∧ PostO cl K W O P R σ H Q (f env)
structure SO (X : Cx) (cl : Nat → Addr) (W : WX) (e : Option Expr) (f : Option EF) : Prop where
  ex : ∃ t : TO, PO X e t ∧ ∀ σ H Q, tDO cl X.K W (dPart f) σ H Q → t σ H Q
theorem o_none : SO X cl W none none := ⟨tNoPart, po_none, fun σ H Q ⟨O, P, R, env, r, q⟩ => q H Mv.refl r⟩
theorem o_some {e : Expr} {f : EF} (h : SE X cl W e f) : SO X cl W (some e) (some f) := ⟨_, po_some h, fun σ H Q ⟨O, P, R, env, r, q⟩ => by
  refine ⟨O, P, R, env, r, ?_⟩
  replace q : PostO cl X.K W O P R σ H Q ((f env).bind fun d env1 => match d with
    | .int i => .ok (some i) env1
    | _ => .bad) := q
  cases e1 : f env with
  | ok d env1 =>
    rw [e1, Res.bind_ok] at q
    intro v H1 m r1 d1
    cases d with
    | int i => exact ⟨i, dr_int d1, q H1 m r1⟩
    | _ => exact q.elim
  | err c fs env1 => rw [e1] at q; exact q
  | bad => rw [e1] at q; exact q⟩
theorem part_bind {K : PySem.W.Frag} {O P R : Addr → Bool} {σ : L2.St} {H : Hp} {Q : VK} {env : Slots} {f : Slots → Res (Option Int)} {k : Option Int → Slots → Res D} (r : RelE cl K O P R env σ H) (h : Post cl K W O P R σ H Q ((f env).bind k))
    {Q1 : Option Int → Hp → Prop} (q : ∀ o env1 H1, RelE cl K O P R env1 σ H1 → Mv O P R H H1 → Post cl K W O P R σ H1 Q (k o env1) → Q1 o H1) : tDO cl K W f σ H Q1 := by
  refine ⟨O, P, R, env, r, ?_⟩
  cases e : f env with
  | ok o env1 => rw [e] at h; exact fun H1 m r1 => q o env1 H1 r1 m (h.of_mv m)
  | err c fs env1 => rw [e] at h; exact h
  | bad => rw [e] at h; exact h
theorem s_sl {e : Expr} {lo hi : Option Expr} {f : EF} {fl fh : Option EF} {p2 pos : Pos} (he : SE X cl W e f) (hl : SO X cl W lo fl) (hh : SO X cl W hi fh) : SE X cl W (.Subscript e (.Slice lo hi none p2) pos) (dSl f fl fh) := by
  obtain ⟨tl, l1, l2⟩ := hl.ex
  obtain ⟨th, h1, h2⟩ := hh.ex
  refine eImp (pe_slice (sl_tupA.or sl_list) he l1 h1) fun σ H Q ⟨O, P, R, env, r, q⟩ => ?_
  refine Post.bind (f := f) r q fun d env1 v H1 r1 d1 q1 => l2 _ _ _ (part_bind r1 q1 fun l env2 H2 r2 m2 q2 => h2 _ _ _ (part_bind r2 q2 fun h env3 H3 r3 m3 q3 => ?_))
  have d3 := (d1.mono m2.cut).mono m3.cut
  cases d with
  | tup xs =>
    obtain ⟨a, vs, rfl, a1, a2⟩ := dr_tup d3
    refine .inl ⟨a, vs, rfl, sqT_mono cut_le a1, fun w => ?_, fun _ p hp => ?_⟩
    · have e0 : cutD xs l h = xs := by
        unfold DL.cutD
        rw [← a2.length, w.1, w.2, a2.length]
        simp
      have q4 : Post cl X.K W O P R σ H3 Q (.ok (.tup (cutD xs l h)) env3) := q3
      rw [e0] at q4
      exact q4 _ H3 Mv.refl r3 d3
    · exact q3 _ _ (Mv.same (same_new hp) r3.dom) (r3.same (same_new hp)) (dr_newT r3.dom hp (a2.cutD l h))
  | lst xs =>
    obtain ⟨a, vs, rfl, a1, a2⟩ := dr_lst d3
    exact .inr ⟨a, vs, rfl, .inl (.inl (cut_le _ _ a1)), fun p hp => q3 _ _ (Mv.same (same_new hp) r3.dom) (r3.same (same_new hp)) (dr_newL r3.dom hp (a2.cutD l h))⟩
  | fz xs =>
    cases d3 with
    | fz a1 a2 => exact .inr ⟨_, _, rfl, Same.seq cut_le a1, fun p hp => q3 _ _ (Mv.same (same_new hp) r3.dom) (r3.same (same_new hp)) (dr_newL r3.dom hp (a2.cutD l h))⟩
  | _ => exact q3.elim

/-! ### len, tuple(..), list(..) -/
def gLen : List D → Option D
  | [.lst xs] => some (.int xs.length)
  | [.tup xs] => some (.int xs.length)
  | [.fz xs] => some (.int xs.length)
  | _ => none
theorem cd_len : CallD X cl (fun xs H Q => ∃ p ys, xs = [.ref p] ∧ (SqL X.K H p ys ∨ SqT X.K H p ys) ∧ Q (.int ys.length) H) gLen := fun O H vs ds z Q dm r e q => by
  cases r with
  | nil => cases e
  | @cons v vr d dr h hr =>
    cases hr with
    | cons _ _ => cases d <;> cases e
    | nil =>
      cases h with
      | lst a b => cases e; exact ⟨_, _, rfl, .inl (.inl (.inl (cut_le _ _ a))), by rw [b.length]; exact q _ H (Same.refl H) (.int _)⟩
      | tup a b => cases e; exact ⟨_, _, rfl, .inr (sqT_mono cut_le a), by rw [b.length]; exact q _ H (Same.refl H) (.int _)⟩
      | fz a b => cases e; exact ⟨_, _, rfl, .inl (Same.seq cut_le a), by rw [b.length]; exact q _ H (Same.refl H) (.int _)⟩
      | _ => cases e
def gTupOf : List D → Option D
  | [.lst xs] => some (.tup xs)
  | [.tup xs] => some (.tup xs)
  | [.fz xs] => some (.tup xs)
  | _ => none
theorem cd_tupOf : CallD X cl (fun xs H Q => ∃ p ys, xs = [.ref p] ∧ ((SqL X.K H p ys ∧ ∀ l, H l = none → Q (.ref l) (upd H l (.tup ys))) ∨ (SqT X.K H p ys ∧ Q (.ref p) H))) gTupOf := fun O H vs ds z Q dm r e q => by
  cases r with
  | nil => cases e
  | @cons v vr d dr h hr =>
    cases hr with
    | cons _ _ => cases d <;> cases e
    | nil =>
      cases h with
      | lst a b => cases e; exact ⟨_, _, rfl, .inl ⟨.inl (.inl (cut_le _ _ a)), fun l hl => q _ _ (same_new hl) (dr_newT dm hl b)⟩⟩
      | tup a b => cases e; exact ⟨_, _, rfl, .inr ⟨sqT_mono cut_le a, q _ H (Same.refl H) (.tup a b)⟩⟩
      | fz a b => cases e; exact ⟨_, _, rfl, .inl ⟨Same.seq cut_le a, fun l hl => q _ _ (same_new hl) (dr_newT dm hl b)⟩⟩
      | _ => cases e
def gLstOf : List D → Option D
  | [.lst xs] => some (.lst xs)
  | [.tup xs] => some (.lst xs)
  | [.fz xs] => some (.lst xs)
  | _ => none
theorem cd_lstOf : CallD X cl (fun xs H Q => ∃ p ys, xs = [.ref p] ∧ (SqL X.K H p ys ∨ SqT X.K H p ys) ∧ ∀ l, H l = none → Q (.ref l) (upd H l (.lst ys))) gLstOf := fun O H vs ds z Q dm r e q => by
  cases r with
  | nil => cases e
  | @cons v vr d dr h hr =>
    cases hr with
    | cons _ _ => cases d <;> cases e
    | nil =>
      cases h with
      | lst a b => cases e; exact ⟨_, _, rfl, .inl (.inl (.inl (cut_le _ _ a))), fun l hl => q _ _ (same_new hl) (dr_newL dm hl b)⟩
      | tup a b => cases e; exact ⟨_, _, rfl, .inr (sqT_mono cut_le a), fun l hl => q _ _ (same_new hl) (dr_newL dm hl b)⟩
      | fz a b => cases e; exact ⟨_, _, rfl, .inl (Same.seq cut_le a), fun l hl => q _ _ (same_new hl) (dr_newL dm hl b)⟩
      | _ => cases e
theorem s_len {e : Expr} {es : List Expr} {f : AF} {p pos : Pos} (hg : Gl X "len") (hm : X.mg "len" = none) (ha : SA X cl W (e :: es) f) (he : starEach (e :: es) X.env = (false, eval e X.env) :: starEach es X.env := by rfl) (hpl : (backTo pos (starEach es X.env)).any (·.1) = false := by rfl) : SE X cl W (.Call (.Name "len" p) (e :: es) [] pos) (dCB gLen f) :=
  s_callB call_len_seq cd_len hg hm PySem.boot_len ha (by decide) (by decide) he hpl
theorem s_tupOf {e : Expr} {es : List Expr} {f : AF} {p pos : Pos} (hg : Gl X "tuple") (hm : X.mg "tuple" = none) (ha : SA X cl W (e :: es) f) (he : starEach (e :: es) X.env = (false, eval e X.env) :: starEach es X.env := by rfl) (hpl : (backTo pos (starEach es X.env)).any (·.1) = false := by rfl) : SE X cl W (.Call (.Name "tuple" p) (e :: es) [] pos) (dCB gTupOf f) :=
  s_callTy call_tuple_of cd_tupOf hg hm (by decide +kernel) ha (by decide) (by decide) he hpl
theorem s_lstOf {e : Expr} {es : List Expr} {f : AF} {p pos : Pos} (hg : Gl X "list") (hm : X.mg "list" = none) (ha : SA X cl W (e :: es) f) (he : starEach (e :: es) X.env = (false, eval e X.env) :: starEach es X.env := by rfl) (hpl : (backTo pos (starEach es X.env)).any (·.1) = false := by rfl) : SE X cl W (.Call (.Name "list" p) (e :: es) [] pos) (dCB gLstOf f) :=
  s_callTy call_list_of cd_lstOf hg hm (by decide +kernel) ha (by decide) (by decide) he hpl

/-! ### isinstance of a built-in type -/
def tyD : D → Option String
  | .non => some "NoneType" | .bl _ => some "bool" | .int _ => some "int" | .str _ => some "str" | .lst _ => some "list" | .tup _ => some "tuple" | .fz _ => some "list" | .dk _ _ => some "dict" | .obj _ _ => none
theorem tyD_ok {K : PySem.W.Frag} {H : Hp} {v : V} {d : D} {T : String} (r : Dr cl K H v d) (e : tyD d = some T) : TyX K H v (.type T) := by
  cases r with
  | non => cases e; exact .base .non
  | bl b => cases e; exact .base (.bl b)
  | int i => cases e; exact .base (.int i)
  | str x => cases e; exact .base (.str x)
  | lst h _ => cases e; exact .base (.lst h)
  | tup h _ =>
    cases e
    rcases h with (h | ⟨o, h⟩) | ⟨o, its, n, h, c, _⟩
    · exact .base (.tup h)
    · exact .fTuple h
    · exact .kTuple h c
  | fz h _ =>
    cases e
    rcases h with (h | ⟨o, h⟩) | ⟨o, its, n, h, c, _⟩
    · exact .base (.lst h)
    · exact .base (.frz h)
    · exact .kList h c
  | dk h _ _ => cases e; exact .base (.dK h)
  | obj _ _ => cases e
  | ex0 _ => cases e
  | ex1 _ _ _ => cases e
def gIsi (T : String) : D → Option Bool
  | .non => kitB "NoneType" T | .bl _ => kitB "bool" T | .int _ => kitB "int" T | .str _ => kitB "str" T | .lst _ => kitB "list" T | .tup _ => kitB "tuple" T | .fz _ => kitB "list" T | .dk _ _ => kitB "dict" T | .obj _ _ => none
theorem gIsi_eq {T : String} {d : D} {b : Bool} (h : gIsi T d = some b) : ∃ U, tyD d = some U ∧ kitB U T = some b := by
  cases d <;> first | exact ⟨_, rfl, h⟩ | cases h
def dIsi (T : String) (a : EF) : EF := fun env => (a env).bind fun d env1 => match gIsi T d with
  | some b => .ok (.bl b) env1
  | none => .bad
theorem tyX_le {K : PySem.W.Frag} {H H' : Hp} {v : V} {t : String} (e : Same H H') (h : TyX K H v (.type t)) (hi : ∀ a, v = .ref a → True) : True := trivial
theorem s_isi {T : String} {a : Expr} {x : Str} {f : EF} {p p2 pos : Pos} (ha : SE X cl W a f) (hx : bootBuiltins x = some (.type T)) (hg : Gl X "isinstance") (hm : X.mg "isinstance" = none) (hg2 : Gl X x) (hm2 : X.mg x = none)
    (hn : x ≠ "__name__" := by decide) (hdb : (x == ("__debug__" : Str)) = false := by decide) (hs0 : starEach [a, .Name x p2] X.env = (false, eval a X.env) :: starEach [.Name x p2] X.env := by rfl) (hs1 : starEach [.Name x p2] X.env = (false, eval (.Name x p2) X.env) :: starEach [] X.env := by rfl)
    (hpl : (backTo pos (starEach [.Name x p2] X.env)).any (·.1) = false := by rfl) : SE X cl W (.Call (.Name "isinstance" p) [a, .Name x p2] [] pos) (dIsi T f) :=
  eImp (pe_callB call_isi hg hm (by decide +kernel) (pa_cons ha (pa_cons (pe_bltn (v := .ty T) hg2 hm2 hx rfl hn hdb) pa_nil hs1) hs0) (by decide) (by decide) hs0 hpl) fun σ H Q ⟨O, P, R, env, r, q⟩ =>
    Post.bind (f := f) r q fun d env1 v H1 r1 d1 q1 => by
      cases e : gIsi T d with
      | none => rw [e] at q1; exact q1.elim
      | some b =>
        rw [e] at q1
        obtain ⟨U, e1, e2⟩ := gIsi_eq e
        exact ⟨v, .ty T, .type U, .type T, b, rfl, .ty T, tyD_ok (d1.mono cut_le) e1, kit_ty e2, q1 _ H1 Mv.refl r1 (.bl b)⟩
/-- a value that is True or False, as a test -/
theorem test_of {K : PySem.W.Frag} {f : EF} {Tt : TE} (h : ∀ σ H Q, tD cl K W f σ H Q → Tt σ H Q) (σ : L2.St) (H : Hp) (Q : Bool → Hp → Prop) : tDT cl K W f σ H Q → tTest Tt σ H Q := fun ⟨O, P, R, env, r, q⟩ => h _ _ _ ⟨O, P, R, env, r, by
  cases e : f env with
  | ok d env1 =>
    rw [e] at q
    cases d with
    | bl b => exact fun v H1 m r1 d1 => ⟨b, dr_bl d1, q H1 m r1⟩
    | _ => exact q.elim
  | err c fs env1 => rw [e] at q; exact q
  | bad => rw [e] at q; exact q⟩
theorem b_cmp {op : CmpOp} {g : D → D → Option D} {a b : Expr} {fa fb : EF} {pos : Pos} (ho : OpD X cl (compareOp op) g) (ha : SE X cl W a fa) (hb : SE X cl W b fb) (hm : behindInMarks op b = false) : SB X cl W (.Compare a [op] [b] pos) (dOp g fa fb) := by
  obtain ⟨r, h1, h2⟩ := ho
  exact tImp (pt_cmpR h1 ha hb hm) (test_of (tOp_of h2))
end
end DL

end
section
namespace DL
open PySem PySem.Spec L2

/-! ### plain data -/
mutual
def toPy : D → Option PyData
  | .non => some .none
  | .bl b => some (.bool b)
  | .int i => some (.int i)
  | .str x => some (.str x)
  | .lst xs => (toPyA xs).map .list
  | .fz xs => (toPyA xs).map .list
  | .tup xs => (toPyA xs).map .tuple
  | .obj _ _ => none
  | .dk _ _ => none
def toPyA : List D → Option (List PyData)
  | [] => some []
  | x :: xs => (toPy x).bind fun p => (toPyA xs).map (p :: ·)
end
section
variable {cl : Nat → Addr} {K : PySem.W.Frag} {H : Hp}
mutual
theorem dp_of : ∀ {v : V} {d : D} {p : PyData}, Dr cl K H v d → toPy d = some p → Dp K H v p
  | _, _, _, .non, e => by cases e; exact .non
  | _, _, _, .bl b, e => by cases e; exact .bl b
  | _, _, _, .int i, e => by cases e; exact .int i
  | _, _, _, .str x, e => by cases e; exact .str x
  | _, .lst ds, p, .lst h r, e => by
    unfold toPy at e
    cases q : toPyA ds with
    | none => rw [q] at e; cases e
    | some ps => rw [q] at e; cases e; exact .lst (.inl (.inl h)) (dpA_of r q)
  | _, .fz ds, p, .fz h r, e => by
    unfold toPy at e
    cases q : toPyA ds with
    | none => rw [q] at e; cases e
    | some ps => rw [q] at e; cases e; exact .lst h (dpA_of r q)
  | _, .tup ds, p, .tup h r, e => by
    unfold toPy at e
    cases q : toPyA ds with
    | none => rw [q] at e; cases e
    | some ps => rw [q] at e; cases e; exact .tup h (dpA_of r q)
  | _, _, _, .obj _ _, e => by cases e
  | _, _, _, .dk _ _ _, e => by cases e
theorem dpA_of : ∀ {vs : List V} {ds : List D} {ps : List PyData}, DrA cl K H vs ds → toPyA ds = some ps → DpAll K H vs ps
  | _, _, _, .nil, e => by cases e; exact .nil
  | _, d :: ds, ps, .cons h r, e => by
    unfold toPyA at e
    cases q : toPy d with
    | none => rw [q] at e; cases e
    | some p =>
      rw [q] at e
      cases q2 : toPyA ds with
      | none => rw [q2] at e; cases e
      | some ps2 => rw [q2] at e; cases e; exact .cons (dp_of h q) (dpA_of r q2)
end
end
/-- == of data -/
def eqD (x y : D) : Option Bool := (toPy x).bind fun p => (toPy y).bind fun q => if SeqAt.shaped p && SeqAt.shaped q then some (PyData.eqv p q) else none
def gEq : D → D → Option D := fun x y => (eqD x y).map .bl
def gNe : D → D → Option D := fun x y => (eqD x y).map fun b => .bl (!b)
theorem eqD_some {x y : D} {b : Bool} (h : eqD x y = some b) : ∃ p q, toPy x = some p ∧ toPy y = some q ∧ SeqAt.shaped p = true ∧ SeqAt.shaped q = true ∧ PyData.eqv p q = b := by
  unfold eqD at h
  cases e1 : toPy x with
  | none => rw [e1] at h; cases h
  | some p =>
    rw [e1] at h
    cases e2 : toPy y with
    | none => rw [e2] at h; cases h
    | some q =>
      rw [e2] at h
      replace h : (if SeqAt.shaped p && SeqAt.shaped q then some (PyData.eqv p q) else none) = some b := h
      split at h
      · rename_i c
        cases h
        have c2 := Bool.and_eq_true_iff.mp c
        exact ⟨p, q, rfl, rfl, c2.1, c2.2, rfl⟩
      · cases h
section
variable {X : Cx} {cl : Nat → Addr} {W : WX}
theorem od_eq (hu : X.A.units + 64 < cLine) : OpD X cl (compareOp .Eq) gEq := ⟨_, op_eqD hu, fun O H x y dx dy z Q dm hx hy e q => by
  unfold gEq at e
  cases e1 : eqD dx dy with
  | none => rw [e1] at e; cases e
  | some b =>
    rw [e1] at e; cases e
    obtain ⟨p, r, a1, a2, a3, a4, a5⟩ := eqD_some e1
    subst a5
    exact ⟨p, r, dp_of (hx.mono cut_le) a1, dp_of (hy.mono cut_le) a2, a3, a4, q _ H (Same.refl H) (.bl _)⟩⟩
theorem od_ne (hu : X.A.units + 64 < cLine) : OpD X cl (compareOp .NotEq) gNe := ⟨_, op_neD hu, fun O H x y dx dy z Q dm hx hy e q => by
  unfold gNe at e
  cases e1 : eqD dx dy with
  | none => rw [e1] at e; cases e
  | some b =>
    rw [e1] at e; cases e
    obtain ⟨p, r, a1, a2, a3, a4, a5⟩ := eqD_some e1
    subst a5
    exact ⟨p, r, dp_of (hx.mono cut_le) a1, dp_of (hy.mono cut_le) a2, a3, a4, q _ H (Same.refl H) (.bl _)⟩⟩
/-- in, not in, over flat things -/
def flats : List D → Option (List V)
  | [] => some []
  | d :: ds => (flatD d).bind fun v => (flats ds).map (v :: ·)
theorem flat_v {K : PySem.W.Frag} {H : Hp} {v w : V} {d : D} (r : Dr cl K H v d) (e : flatD d = some w) : v = w ∧ flatV v = true := by
  cases r <;> first | (cases e; exact ⟨rfl, rfl⟩) | cases e
theorem flats_v {K : PySem.W.Frag} {H : Hp} : ∀ {vs ws : List V} {ds : List D}, DrA cl K H vs ds → flats ds = some ws → vs = ws ∧ vs.all flatV = true
  | _, _, _, .nil, e => by cases e; exact ⟨rfl, rfl⟩
  | _, _, d :: ds, .cons h r, e => by
    unfold flats at e
    cases q : flatD d with
    | none => rw [q] at e; cases e
    | some w =>
      rw [q] at e
      cases q2 : flats ds with
      | none => rw [q2] at e; cases e
      | some ws =>
        rw [q2] at e; cases e
        obtain ⟨h1, h2⟩ := flat_v h q
        obtain ⟨h3, h4⟩ := flats_v r q2
        exact ⟨by rw [h1, h3], by rw [List.all_cons, h2, h4]; rfl⟩
def inD (x y : D) : Option Bool := (flatD x).bind fun v => match y with
  | .lst xs => (flats xs).map fun ws => inV v ws
  | .tup xs => (flats xs).map fun ws => inV v ws
  | .fz xs => (flats xs).map fun ws => inV v ws
  | _ => none
def gIn : D → D → Option D := fun x y => (inD x y).map .bl
def gNin : D → D → Option D := fun x y => (inD x y).map fun b => .bl (!b)
theorem inD_some {K : PySem.W.Frag} {H : Hp} {x y : V} {dx dy : D} {b : Bool} (hx : Dr cl K H x dx) (hy : Dr cl K H y dy) (h : inD dx dy = some b) : ∃ p xs, y = .ref p ∧ (SqL K H p xs ∨ SqT K H p xs) ∧ flatV x = true ∧ xs.all flatV = true ∧ inV x xs = b := by
  unfold inD at h
  cases e1 : flatD dx with
  | none => rw [e1] at h; cases h
  | some v =>
    rw [e1] at h
    obtain ⟨rfl, fx⟩ := flat_v hx e1
    cases hy with
    | @lst a vs ds h1 h2 =>
      replace h : (flats ds).map (fun ws => inV x ws) = some b := h
      cases e2 : flats ds with
      | none => rw [e2] at h; cases h
      | some ws => rw [e2] at h; cases h; obtain ⟨rfl, f2⟩ := flats_v h2 e2; exact ⟨a, vs, rfl, .inl (.inl (.inl h1)), fx, f2, rfl⟩
    | @fz a vs ds h1 h2 =>
      replace h : (flats ds).map (fun ws => inV x ws) = some b := h
      cases e2 : flats ds with
      | none => rw [e2] at h; cases h
      | some ws => rw [e2] at h; cases h; obtain ⟨rfl, f2⟩ := flats_v h2 e2; exact ⟨a, vs, rfl, .inl h1, fx, f2, rfl⟩
    | @tup a vs ds h1 h2 =>
      replace h : (flats ds).map (fun ws => inV x ws) = some b := h
      cases e2 : flats ds with
      | none => rw [e2] at h; cases h
      | some ws => rw [e2] at h; cases h; obtain ⟨rfl, f2⟩ := flats_v h2 e2; exact ⟨a, vs, rfl, .inr h1, fx, f2, rfl⟩
    | _ => cases h
theorem sq_le {K : PySem.W.Frag} {H H' : Hp} {p : Addr} {xs : List V} (e : Same H H') (h : SqL K H p xs ∨ SqT K H p xs) : SqL K H' p xs ∨ SqT K H' p xs := h.elim (fun z => .inl (Same.seq e z)) fun z => .inr (sqT_mono e z)
theorem od_in : OpD X cl (compareOp .In) gIn := ⟨_, op_in_seq, fun O H x y dx dy z Q dm hx hy e q => by
  unfold gIn at e
  cases e1 : inD dx dy with
  | none => rw [e1] at e; cases e
  | some b =>
    rw [e1] at e; cases e
    obtain ⟨p, xs, a1, a2, a3, a4, a5⟩ := inD_some hx hy e1
    exact ⟨p, xs, a1, sq_le cut_le a2, a3, a4, by rw [if_neg Bool.false_ne_true, a5]; exact q _ H (Same.refl H) (.bl _)⟩⟩
theorem od_nin : OpD X cl (compareOp .NotIn) gNin := ⟨_, op_notIn_seq, fun O H x y dx dy z Q dm hx hy e q => by
  unfold gNin at e
  cases e1 : inD dx dy with
  | none => rw [e1] at e; cases e
  | some b =>
    rw [e1] at e; cases e
    obtain ⟨p, xs, a1, a2, a3, a4, a5⟩ := inD_some hx hy e1
    exact ⟨p, xs, a1, sq_le cut_le a2, a3, a4, by rw [if_pos rfl, a5]; exact q _ H (Same.refl H) (.bl _)⟩⟩
/-- is None, is not None -/
def isN : D → Bool
  | .non => true
  | _ => false
theorem isN_v {K : PySem.W.Frag} {H : Hp} {v : V} {d : D} (r : Dr cl K H v d) : decide (v = .non) = isN d := by
  cases r <;> first | rfl | exact decide_eq_false (fun z => nomatch z)
def gIsN : D → D → Option D
  | x, .non => some (.bl (isN x))
  | _, _ => none
def gNotN : D → D → Option D
  | x, .non => some (.bl (!isN x))
  | _, _ => none
theorem od_isN : OpD X cl (compareOp .Is) gIsN := ⟨_, op_isN, fun O H x y dx dy z Q dm hx hy e q => by
  cases dy with
  | non => cases e; exact ⟨dr_non hy, by rw [isN_v hx]; exact q _ H (Same.refl H) (.bl _)⟩
  | _ => cases e⟩
theorem od_notN : OpD X cl (compareOp .IsNot) gNotN := ⟨_, op_notN, fun O H x y dx dy z Q dm hx hy e q => by
  cases dy with
  | non => cases e; exact ⟨dr_non hy, by rw [isN_v hx]; exact q _ H (Same.refl H) (.bl _)⟩
  | _ => cases e⟩

/-! ### a < b <= c -/
def dChain (g h : D → D → Option D) (a b c : EF) : EF := fun env => (a env).bind fun x env1 => (b env1).bind fun y env2 => match g x y with
  | some (.bl true) => (c env2).bind fun z env3 => (match h y z with
    | some r => .ok r env3
    | none => .bad)
  | some (.bl false) => .ok (.bl false) env2
  | _ => .bad
theorem tChain_of {K : PySem.W.Frag} {g h : D → D → Option D} {r r' : R2} {fa fb fc : EF}
    (hr : ∀ (O : Addr → Bool) (H : Hp) (x y : V) (dx dy z : D) (Q : VK), Dom O H → Dr cl K (cut H O) x dx → Dr cl K (cut H O) y dy → g dx dy = some z → Gv cl K O H z Q → r x y H Q)
    (hr' : ∀ (O : Addr → Bool) (H : Hp) (x y : V) (dx dy z : D) (Q : VK), Dom O H → Dr cl K (cut H O) x dx → Dr cl K (cut H O) y dy → h dx dy = some z → Gv cl K O H z Q → r' x y H Q)
    (σ : L2.St) (H : Hp) (Q : VK) : tD cl K W (dChain g h fa fb fc) σ H Q → tChain r r' (tD cl K W fa) (tD cl K W fb) (tD cl K W fc) σ H Q := fun ⟨O, P, R, env, rel, q⟩ => by
  refine Post.bind (f := fa) rel q fun dx env1 x H1 r1 d1 q1 => ⟨O, P, R, env1, r1, ?_⟩
  cases e : fb env1 with
  | ok dy env2 =>
    rw [e] at q1
    refine fun y H2 m2 r2 d2 => ?_
    have q2 := Post.of_mv m2 q1
    simp only [Res.bind_ok] at q2
    have d1' := d1.mono m2.cut
    cases eg : g dx dy with
    | none => rw [eg] at q2; exact q2.elim
    | some z =>
      rw [eg] at q2
      refine hr O H2 x y dx dy z _ r2.dom d1' d2 eg fun v H3 s3 d3 => ?_
      have m3 : Mv O P R H2 H3 := Mv.same s3 r2.dom
      cases z with
      | bl b =>
        refine ⟨b, dr_bl d3, ?_⟩
        cases b with
        | false => rw [if_neg Bool.false_ne_true]; exact q2 _ H3 m3 (r2.same s3) (.bl false)
        | true =>
          rw [if_pos rfl]
          replace q2 := Post.of_mv m3 q2
          refine ⟨O, P, R, env2, r2.same s3, ?_⟩
          cases ec : fc env2 with
          | ok dz env3 =>
            simp only [ec, Res.bind_ok] at q2
            intro w H4 m4 r4 d4
            have q4 := Post.of_mv m4 q2
            cases eh : h dy dz with
            | none => rw [eh] at q4; exact q4.elim
            | some rr =>
              rw [eh] at q4
              exact hr' O H4 y w dy dz rr Q r4.dom ((d2.mono m3.cut).mono m4.cut) d4 eh fun v5 H5 s5 d5 => q4 v5 H5 (Mv.same s5 r4.dom) (r4.same s5) d5
          | err c fs env3 => simp only [ec, Res.bind_err] at q2; exact q2
          | bad => simp only [ec, Res.bind_bad] at q2; exact q2.elim
      | _ => exact q2.elim
  | err c fs env2 => rw [e] at q1; exact q1
  | bad => rw [e] at q1; exact q1
theorem s_chain {op op' : CmpOp} {g h : D → D → Option D} {a b c : Expr} {fa fb fc : EF} {pos : Pos} (ho : OpD X cl (compareOp op) g) (ho' : OpD X cl (compareOp op') h) (ha : SE X cl W a fa) (hb : SE X cl W b fb) (hc : SE X cl W c fc)
    (hm : lastMarks [op, op'] [b, c] = false := by with_unfolding_all rfl) : SE X cl W (.Compare a [op, op'] [b, c] pos) (dChain g h fa fb fc) := by
  obtain ⟨r, h1, h2⟩ := ho
  obtain ⟨r', h3, h4⟩ := ho'
  exact eImp (pe_chain h1 h3 ha hb hc hm) (tChain_of h2 h4)

/-! ### two numbers -/
def gMax2 : List D → Option D
  | [.int i, .int j] => some (.int (if j > i then j else i))
  | _ => none
def gMin2 : List D → Option D
  | [.int i, .int j] => some (.int (if j < i then j else i))
  | _ => none
theorem cd_max2 : CallD X cl (fun xs H Q => ∃ i j, xs = [.int i, .int j] ∧ Q (.int (if j > i then j else i)) H) gMax2 := fun O H vs ds z Q dm r e q => by
  unfold gMax2 at e
  split at e
  · cases e
    obtain ⟨v, w, rfl, h1, h2⟩ := drA2 r
    rw [dr_int h1, dr_int h2]
    exact ⟨_, _, rfl, q _ H (Same.refl H) (.int _)⟩
  · cases e
theorem cd_min2 : CallD X cl (fun xs H Q => ∃ i j, xs = [.int i, .int j] ∧ Q (.int (if j < i then j else i)) H) gMin2 := fun O H vs ds z Q dm r e q => by
  unfold gMin2 at e
  split at e
  · cases e
    obtain ⟨v, w, rfl, h1, h2⟩ := drA2 r
    rw [dr_int h1, dr_int h2]
    exact ⟨_, _, rfl, q _ H (Same.refl H) (.int _)⟩
  · cases e
theorem s_max2 {e : Expr} {es : List Expr} {f : AF} {p pos : Pos} (hc : X.calm = true) (hg : Gl X "max") (hm : X.mg "max" = none) (ha : SA X cl W (e :: es) f) (he : starEach (e :: es) X.env = (false, eval e X.env) :: starEach es X.env := by rfl) (hpl : (backTo pos (starEach es X.env)).any (·.1) = false := by rfl) : SE X cl W (.Call (.Name "max" p) (e :: es) [] pos) (dCB gMax2 f) :=
  s_callB (call_max2 hc) cd_max2 hg hm (by decide +kernel) ha (by decide) (by decide) he hpl
theorem s_min2 {e : Expr} {es : List Expr} {f : AF} {p pos : Pos} (hc : X.calm = true) (hg : Gl X "min") (hm : X.mg "min" = none) (ha : SA X cl W (e :: es) f) (he : starEach (e :: es) X.env = (false, eval e X.env) :: starEach es X.env := by rfl) (hpl : (backTo pos (starEach es X.env)).any (·.1) = false := by rfl) : SE X cl W (.Call (.Name "min" p) (e :: es) [] pos) (dCB gMin2 f) :=
  s_callB (call_min2 hc) cd_min2 hg hm (by decide +kernel) ha (by decide) (by decide) he hpl
/-! ### int(n), abs(n) -/
def gInt1 : List D → Option D
  | [.int i] => some (.int i)
  | _ => none
theorem cd_int1 : CallD X cl (fun xs H Q => (∃ i, xs = [.int i] ∧ Q (.int i) H) ∨ ∃ k, xs = [.bl k] ∧ Q (.int (if k then 1 else 0)) H) gInt1 := fun O H vs ds z Q dm r e q => by
  unfold gInt1 at e
  split at e
  · cases e
    obtain ⟨v, rfl, h1⟩ := drA1 r
    rw [dr_int h1]
    exact .inl ⟨_, rfl, q _ H (Same.refl H) (.int _)⟩
  · cases e
theorem s_int1 {e : Expr} {es : List Expr} {f : AF} {p pos : Pos} (hg : Gl X "int") (hm : X.mg "int" = none) (ha : SA X cl W (e :: es) f) (he : starEach (e :: es) X.env = (false, eval e X.env) :: starEach es X.env := by rfl) (hpl : (backTo pos (starEach es X.env)).any (·.1) = false := by rfl) : SE X cl W (.Call (.Name "int" p) (e :: es) [] pos) (dCB gInt1 f) :=
  s_callTy call_int1 cd_int1 hg hm (by decide +kernel) ha (by decide) (by decide) he hpl
def gAbs : List D → Option D
  | [.int i] => some (.int (if i < 0 then -i else i))
  | _ => none
theorem cd_abs : CallD X cl (fun xs H Q => ∃ i, xs = [.int i] ∧ Q (.int (if i < 0 then -i else i)) H) gAbs := fun O H vs ds z Q dm r e q => by
  unfold gAbs at e
  split at e
  · cases e
    obtain ⟨v, rfl, h1⟩ := drA1 r
    rw [dr_int h1]
    exact ⟨_, rfl, q _ H (Same.refl H) (.int _)⟩
  · cases e
theorem s_abs {e : Expr} {es : List Expr} {f : AF} {p pos : Pos} (hg : Gl X "abs") (hm : X.mg "abs" = none) (ha : SA X cl W (e :: es) f) (he : starEach (e :: es) X.env = (false, eval e X.env) :: starEach es X.env := by rfl) (hpl : (backTo pos (starEach es X.env)).any (·.1) = false := by rfl) : SE X cl W (.Call (.Name "abs" p) (e :: es) [] pos) (dCB gAbs f) :=
  s_callB call_abs cd_abs hg hm (by decide +kernel) ha (by decide) (by decide) he hpl

/-! ### sums, least and greatest, all, any: of a list -/
def intsD : List D → Option (List Int)
  | [] => some []
  | .int i :: ds => (intsD ds).map (i :: ·)
  | _ => none
theorem intsD_v {K : PySem.W.Frag} {H : Hp} : ∀ {vs : List V} {ds : List D} {ns : List Int}, DrA cl K H vs ds → intsD ds = some ns → vs = ns.map V.int
  | _, _, _, .nil, e => by cases e; rfl
  | _, .int i :: ds, ns, .cons h r, e => by
    unfold intsD at e
    cases q : intsD ds with
    | none => rw [q] at e; cases e
    | some ms => rw [q] at e; cases e; rw [dr_int h, intsD_v r q]; rfl
  | _, .non :: _, _, .cons _ _, e => by cases e
  | _, .bl _ :: _, _, .cons _ _, e => by cases e
  | _, .str _ :: _, _, .cons _ _, e => by cases e
  | _, .lst _ :: _, _, .cons _ _, e => by cases e
  | _, .tup _ :: _, _, .cons _ _, e => by cases e
  | _, .obj _ _ :: _, _, .cons _ _, e => by cases e
  | _, .fz _ :: _, _, .cons _ _, e => by cases e
  | _, .dk _ _ :: _, _, .cons _ _, e => by cases e
theorem intsD_map (ns : List Int) : intsD (ns.map D.int) = some ns := by
  induction ns with
  | nil => rfl
  | cons a r ih => show (intsD (r.map D.int)).map (a :: ·) = _; rw [ih]; rfl
def gSumL : List D → Option D
  | [.lst xs] => (intsD xs).map fun ns => .int ns.sum
  | _ => none
theorem cd_sumL : CallD X cl (rSum X.K) gSumL := fun O H vs ds z Q dm r e q => by
  unfold gSumL at e
  split at e
  · rename_i xs
    obtain ⟨v, rfl, h1⟩ := drA1 r
    obtain ⟨a, ws, rfl, h2, h3⟩ := dr_lst h1
    cases e1 : intsD xs with
    | none => rw [e1] at e; cases e
    | some ns =>
      rw [e1] at e; cases e
      have := intsD_v h3 e1
      subst this
      exact ⟨a, ns, rfl, .inl (.inl (cut_le _ _ h2)), q _ H (Same.refl H) (.int _)⟩
  · cases e
theorem s_sumL {e : Expr} {es : List Expr} {f : AF} {p pos : Pos} (hc : X.calm = true) (hg : Gl X "sum") (hm : X.mg "sum" = none) (ha : SA X cl W (e :: es) f) (he : starEach (e :: es) X.env = (false, eval e X.env) :: starEach es X.env := by rfl) (hpl : (backTo pos (starEach es X.env)).any (·.1) = false := by rfl) : SE X cl W (.Call (.Name "sum" p) (e :: es) [] pos) (dCB gSumL f) :=
  s_callB (cr_sum hc) cd_sumL hg hm (by decide +kernel) ha (by decide) (by decide) he hpl
def maxL : List Int → Option Int
  | [] => none
  | a :: r => some (r.foldl max a)
def minL : List Int → Option Int
  | [] => none
  | a :: r => some (r.foldl min a)
theorem foldl_max (r : List Int) : ∀ a : Int, a ≤ r.foldl max a ∧ (∀ y ∈ r, y ≤ r.foldl max a) ∧ (r.foldl max a = a ∨ r.foldl max a ∈ r) := by
  induction r with
  | nil => intro a; exact ⟨Int.le_refl a, by simp, .inl rfl⟩
  | cons b r ih =>
    intro a
    obtain ⟨h1, h2, h3⟩ := ih (max a b)
    refine ⟨by rw [List.foldl_cons]; omega, fun y hy => ?_, ?_⟩
    · rw [List.foldl_cons]
      rcases List.mem_cons.mp hy with rfl | hy
      · omega
      · exact h2 y hy
    · rw [List.foldl_cons]
      rcases h3 with h3 | h3
      · by_cases c : a ≤ b
        · right; rw [h3, Int.max_eq_right c]; exact List.mem_cons_self
        · left; rw [h3]; omega
      · right; exact List.mem_cons_of_mem _ h3
theorem foldl_min (r : List Int) : ∀ a : Int, r.foldl min a ≤ a ∧ (∀ y ∈ r, r.foldl min a ≤ y) ∧ (r.foldl min a = a ∨ r.foldl min a ∈ r) := by
  induction r with
  | nil => intro a; exact ⟨Int.le_refl a, by simp, .inl rfl⟩
  | cons b r ih =>
    intro a
    obtain ⟨h1, h2, h3⟩ := ih (min a b)
    refine ⟨by rw [List.foldl_cons]; omega, fun y hy => ?_, ?_⟩
    · rw [List.foldl_cons]
      rcases List.mem_cons.mp hy with rfl | hy
      · omega
      · exact h2 y hy
    · rw [List.foldl_cons]
      rcases h3 with h3 | h3
      · by_cases c : b ≤ a
        · right; rw [h3, Int.min_eq_right c]; exact List.mem_cons_self
        · left; rw [h3]; omega
      · right; exact List.mem_cons_of_mem _ h3
theorem maxL_spec {ns : List Int} {m : Int} (h : maxL ns = some m) : m ∈ ns ∧ ∀ y ∈ ns, y ≤ m := by
  cases ns with
  | nil => cases h
  | cons a r =>
    cases h
    obtain ⟨h1, h2, h3⟩ := foldl_max r a
    refine ⟨?_, fun y hy => ?_⟩
    · rcases h3 with h3 | h3
      · rw [h3]; exact List.mem_cons_self
      · exact List.mem_cons_of_mem _ h3
    · rcases List.mem_cons.mp hy with rfl | hy
      · exact h1
      · exact h2 y hy
theorem minL_spec {ns : List Int} {m : Int} (h : minL ns = some m) : m ∈ ns ∧ ∀ y ∈ ns, m ≤ y := by
  cases ns with
  | nil => cases h
  | cons a r =>
    cases h
    obtain ⟨h1, h2, h3⟩ := foldl_min r a
    refine ⟨?_, fun y hy => ?_⟩
    · rcases h3 with h3 | h3
      · rw [h3]; exact List.mem_cons_self
      · exact List.mem_cons_of_mem _ h3
    · rcases List.mem_cons.mp hy with rfl | hy
      · exact h1
      · exact h2 y hy
def gMaxL : List D → Option D
  | [.lst xs] => (intsD xs).bind fun ns => (maxL ns).map .int
  | _ => none
def gMinL : List D → Option D
  | [.lst xs] => (intsD xs).bind fun ns => (minL ns).map .int
  | _ => none
theorem cd_maxL : CallD X cl (rMax X.K) gMaxL := fun O H vs ds z Q dm r e q => by
  unfold gMaxL at e
  split at e
  · rename_i xs
    obtain ⟨v, rfl, h1⟩ := drA1 r
    obtain ⟨a, ws, rfl, h2, h3⟩ := dr_lst h1
    cases e1 : intsD xs with
    | none => rw [e1] at e; cases e
    | some ns =>
      rw [e1] at e
      have := intsD_v h3 e1
      subst this
      replace e : (maxL ns).map D.int = some z := e
      cases e2 : maxL ns with
      | none => rw [e2] at e; cases e
      | some m =>
        rw [e2] at e; cases e
        have sp := maxL_spec e2
        refine ⟨a, ns, rfl, .inl (.inl (cut_le _ _ h2)), List.length_pos_iff.mpr (fun z => by subst z; cases sp.1), fun m' a1 a2 => ?_⟩
        have : m' = m := Int.le_antisymm (sp.2 m' a1) (a2 m sp.1)
        subst this
        exact q _ H (Same.refl H) (.int _)
  · cases e
theorem cd_minL : CallD X cl (rMin X.K) gMinL := fun O H vs ds z Q dm r e q => by
  unfold gMinL at e
  split at e
  · rename_i xs
    obtain ⟨v, rfl, h1⟩ := drA1 r
    obtain ⟨a, ws, rfl, h2, h3⟩ := dr_lst h1
    cases e1 : intsD xs with
    | none => rw [e1] at e; cases e
    | some ns =>
      rw [e1] at e
      have := intsD_v h3 e1
      subst this
      replace e : (minL ns).map D.int = some z := e
      cases e2 : minL ns with
      | none => rw [e2] at e; cases e
      | some m =>
        rw [e2] at e; cases e
        have sp := minL_spec e2
        refine ⟨a, ns, rfl, .inl (.inl (cut_le _ _ h2)), List.length_pos_iff.mpr (fun z => by subst z; cases sp.1), fun m' a1 a2 => ?_⟩
        have : m' = m := Int.le_antisymm (a2 m sp.1) (sp.2 m' a1)
        subst this
        exact q _ H (Same.refl H) (.int _)
  · cases e
theorem s_maxL {e : Expr} {es : List Expr} {f : AF} {p pos : Pos} (hc : X.calm = true) (hg : Gl X "max") (hm : X.mg "max" = none) (ha : SA X cl W (e :: es) f) (he : starEach (e :: es) X.env = (false, eval e X.env) :: starEach es X.env := by rfl) (hpl : (backTo pos (starEach es X.env)).any (·.1) = false := by rfl) : SE X cl W (.Call (.Name "max" p) (e :: es) [] pos) (dCB gMaxL f) :=
  s_callB (cr_max hc) cd_maxL hg hm (by decide +kernel) ha (by decide) (by decide) he hpl
theorem s_minL {e : Expr} {es : List Expr} {f : AF} {p pos : Pos} (hc : X.calm = true) (hg : Gl X "min") (hm : X.mg "min" = none) (ha : SA X cl W (e :: es) f) (he : starEach (e :: es) X.env = (false, eval e X.env) :: starEach es X.env := by rfl) (hpl : (backTo pos (starEach es X.env)).any (·.1) = false := by rfl) : SE X cl W (.Call (.Name "min" p) (e :: es) [] pos) (dCB gMinL f) :=
  s_callB (cr_min hc) cd_minL hg hm (by decide +kernel) ha (by decide) (by decide) he hpl
def blsD : List D → Option (List Bool)
  | [] => some []
  | .bl i :: ds => (blsD ds).map (i :: ·)
  | _ => none
theorem blsD_v {K : PySem.W.Frag} {H : Hp} : ∀ {vs : List V} {ds : List D} {ns : List Bool}, DrA cl K H vs ds → blsD ds = some ns → vs = ns.map V.bl
  | _, _, _, .nil, e => by cases e; rfl
  | _, .bl i :: ds, ns, .cons h r, e => by
    unfold blsD at e
    cases q : blsD ds with
    | none => rw [q] at e; cases e
    | some ms => rw [q] at e; cases e; rw [dr_bl h, blsD_v r q]; rfl
  | _, .non :: _, _, .cons _ _, e => by cases e
  | _, .int _ :: _, _, .cons _ _, e => by cases e
  | _, .str _ :: _, _, .cons _ _, e => by cases e
  | _, .lst _ :: _, _, .cons _ _, e => by cases e
  | _, .tup _ :: _, _, .cons _ _, e => by cases e
  | _, .obj _ _ :: _, _, .cons _ _, e => by cases e
  | _, .fz _ :: _, _, .cons _ _, e => by cases e
  | _, .dk _ _ :: _, _, .cons _ _, e => by cases e
def gAll : List D → Option D
  | [.lst xs] => (blsD xs).map fun ns => .bl (ns.all id)
  | _ => none
def gAny : List D → Option D
  | [.lst xs] => (blsD xs).map fun ns => .bl (ns.any id)
  | _ => none
theorem cd_all : CallD X cl (rAll X.K) gAll := fun O H vs ds z Q dm r e q => by
  unfold gAll at e
  split at e
  · rename_i xs
    obtain ⟨v, rfl, h1⟩ := drA1 r
    obtain ⟨a, ws, rfl, h2, h3⟩ := dr_lst h1
    cases e1 : blsD xs with
    | none => rw [e1] at e; cases e
    | some ns =>
      rw [e1] at e; cases e
      have := blsD_v h3 e1
      subst this
      exact ⟨a, ns, rfl, .inl (.inl (cut_le _ _ h2)), q _ H (Same.refl H) (.bl _)⟩
  · cases e
theorem cd_any : CallD X cl (rAny X.K) gAny := fun O H vs ds z Q dm r e q => by
  unfold gAny at e
  split at e
  · rename_i xs
    obtain ⟨v, rfl, h1⟩ := drA1 r
    obtain ⟨a, ws, rfl, h2, h3⟩ := dr_lst h1
    cases e1 : blsD xs with
    | none => rw [e1] at e; cases e
    | some ns =>
      rw [e1] at e; cases e
      have := blsD_v h3 e1
      subst this
      exact ⟨a, ns, rfl, .inl (.inl (cut_le _ _ h2)), q _ H (Same.refl H) (.bl _)⟩
  · cases e
theorem s_all {e : Expr} {es : List Expr} {f : AF} {p pos : Pos} (hc : X.calm = true) (hg : Gl X "all") (hm : X.mg "all" = none) (ha : SA X cl W (e :: es) f) (he : starEach (e :: es) X.env = (false, eval e X.env) :: starEach es X.env := by rfl) (hpl : (backTo pos (starEach es X.env)).any (·.1) = false := by rfl) : SE X cl W (.Call (.Name "all" p) (e :: es) [] pos) (dCB gAll f) :=
  s_callB (cr_all hc) cd_all hg hm (by decide +kernel) ha (by decide) (by decide) he hpl
theorem s_any {e : Expr} {es : List Expr} {f : AF} {p pos : Pos} (hc : X.calm = true) (hg : Gl X "any") (hm : X.mg "any" = none) (ha : SA X cl W (e :: es) f) (he : starEach (e :: es) X.env = (false, eval e X.env) :: starEach es X.env := by rfl) (hpl : (backTo pos (starEach es X.env)).any (·.1) = false := by rfl) : SE X cl W (.Call (.Name "any" p) (e :: es) [] pos) (dCB gAny f) :=
  s_callB (cr_any hc) cd_any hg hm (by decide +kernel) ha (by decide) (by decide) he hpl
end
end DL

end
section
/-! own exceptions over any built-in base: one field, or none -/
namespace PySem
namespace DLX
open PySem.W PySem.Calls PyProof.Rows PySem.HandSPX Builtin Builtin.ObjectAttr

section
variable {prog : Program} {w : World} {A : Around} {E : Value → Shared → Prop} {R : Result → Shared → Prop} {hp : Heap} {gn : Array GenState} {dr : Drawn} {tt : Nat} {os : OsState} {bmB : List Value} {B : String}
/-- self.name = v, the exception without a dict so far -/
theorem xstore {K : W.Frag} {name : Str} {tk : Tok} {v : Value} {x C : Addr} {fv : Array Value} {cd : ClassData} (pass : ∀ self : Value, refuseLoop self "__setattr__" bmB = pure ()) (hasO : bmB.contains (.type "object") = true) (neB : bmB.isEmpty = false)
    (X : K.In hp) (hx : hp.get? x = some { cls := .ref C, data := .fields fv }) (hcd : W.clsIn K C = some cd) (hm : W.excTail bmB cd.mro = true) (hh : cd.hasDict = true) (ha : W.findIn K (.ref C) name = some none)
    (fin : ∀ h2 tk2 dx, (∀ b o, b ≠ x → hp.get? b = some o → h2.get? b = some o) → hp.objs.size ≤ dx → dx ≠ x → h2.get? x = some { cls := .ref C, dict := some dx, data := .fields fv } →
      h2.Ns1 dx (fun y => if y = name then some v else none) → R (.ok (.ret .none)) ⟨h2, gn, dr, tk2, os⟩) :
    codeAny (model prog w) A (.call (.builtin "object.__setattr__") ⟨[.ref x, .str name tk, v], []⟩) R ⟨hp, gn, dr, tt, os⟩ := by
  have IA : W.InstAt hp x { cls := .ref C, data := .fields fv } C none := ⟨hx, rfl, rfl, trivial⟩
  have SO := F.store_object
  have nemp : cd.mro.isEmpty = false := by
    cases q : cd.mro with
    | nil => rw [q] at hm; rw [show [] = bmB from beq_iff_eq.mp hm] at q; rw [← beq_iff_eq.mp hm] at neB; cases neB
    | cons _ _ => rfl
  have isO : cd.mro.contains (.type "object") = true := (W.excTail_contains "object" _ hm).trans hasO
  have xne : x ≠ hp.objs.size := Nat.ne_of_lt (Heap.lt_size hx)
  have inst : W.Looks (model prog w) hp (isInstance (.ref x) (.type "object")) true :=
    IA.type.andThen (W.looks_mroIn X (by unfold W.mroIn; rw [hcd, Option.bind_some, if_neg (by rw [nemp]; decide), isO]))
  refine codeAny_call_builtin SO.slot.plain SO.entry (@W.check_slot (model prog w) _ _ ⟨hp, gn, dr, tt, os⟩ "object.__setattr__" "object" "__setattr__" (.ref x) [.str name tk, v] [] _ SO.kind SO.split inst (SO.args (.ref x) (.str name tk) v) ?_)
  have lk1 : W.Looks (model prog w) hp (mroOf (.ref C)) cd.mro := (W.looks_clsIn X hcd).andThen .now
  have lk2 : W.Looks (model prog w) hp (storeTaker? none) none := .now
  have lk3 : W.Looks (model prog w) hp (classData C) cd := W.looks_clsIn X hcd
  rw [W.osa_eq, refuse_eq]
  refine wpAny_bind (wpAny_bind (IA.type.at (wpAny_bind (lk1.at ?_))))
  rw [W.excTail_pass _ (pass _) _ hm]
  refine wpAny_pure (wpAny_bind (IA.type.at (wpAny_bind ((W.looks_findIn X ha).at (wpAny_bind (lk2.at ?_))))))
  show wpAny _ _ (storeInOwnDict (.ref x) (.ref C) (.str name tk) name v false) _ _ _
  obtain ⟨c1, c2, c3, c4, c5, c6, c7, c8, c9, c10, c11⟩ := cd
  dsimp only at hh
  subst hh
  unfold storeInOwnDict; unfold ownDictForStores
  repeat (first | with_reducible refine HandSPX.store_in_new ?_ ?_ | with_reducible refine wpAny_loadPart_at hx ?_ | with_reducible refine lk3.at ?_ | wp_step)
  · exact ⟨_, #[], _, (Heap.get?_update_ne _ _ _ _ xne.symm).trans (Heap.get?_push_at rfl rfl), rfl, fun e he => absurd he (by simp), fun _ => rfl⟩
  · intro h2 tk2 hn2 sb
    have hx1 : (hp.push { cls := .type "dict", data := .dict #[] }).get? x = some { cls := .ref C, data := .fields fv } := Heap.get?_push_of_some _ hx
    refine fin h2 tk2 hp.objs.size (fun b o hb ho => ?_) (Nat.le_refl _) xne.symm ?_ hn2
    · exact (sb.2 b (Nat.ne_of_lt (Heap.lt_size ho))).trans ((Heap.get?_update_ne _ _ _ _ hb).trans (Heap.get?_push_of_some _ ho))
    · exact (sb.2 x xne).trans (Heap.get?_update_self _ hx1 rfl)
end

/-! ### the text of __init__ -/
def xA (f : Str) (p1 p2 : Pos) : Arguments := { posonlyargs := [], args := [{ arg := "self", annotation := none, pos := p1 }, { arg := f, annotation := none, pos := p2 }], vararg := none, kwonlyargs := [], kw_defaults := [], kwarg := none, defaults := [] }
def xB (f : Str) (q1 q2 q3 q4 : Pos) : List Stmt := [.Assign [.Attribute (.Name "self" q1) f q2] (.Name f q3) q4]
def xS (f : Str) : Scope := { kind := .function, names := [(PySem.Str.ofString "self", .local), (f, .local)], isGenerator := false, isCoroutine := false, more := [] }
/-- what the written part says of such a class at C and of its __init__ at fI; B: its built-in base -/
structure XTxt (K : Frag) (bmB : List Value) (newId : String) (C : Addr) : Prop where
  cls : ∃ nm q N bs bm sn sub ab col dd k0 k1 k2 k3 k5, K.lookup C = some (excClassObj nm q C N bs bm true sn sub ab col dd k0 k1 k2 k3 k5 newId) ∧ excTail bmB bm = true
  sa : findIn K (.ref C) "__setattr__" = some (some (.builtin "object.__setattr__"))
  kC : keepIn K (.ref C) = true
  exC : subIn K (.ref C) (.type "BaseException") = some true
  tyC : typeIn K (.ref C) = some (.type "type")
structure XInit (K : Frag) (C fI : Addr) : Prop where
  iC : findIn K (.ref C) "__init__" = some (some (.ref fI))
  tI : typeIn K (.ref fI) = some (.type "function")
structure XOne (K : Frag) (C fI : Addr) (f qual : Str) : Prop extends XInit K C fI where
  noN : findIn K (.ref C) f = some none
  fn : ∃ (oc : Value) (od : Option Addr) (doc pm : Value) (an : Option Addr) (cdv ct : Value) (osl : Array (Option Value)) (p1 p2 q1 q2 q3 q4 : Pos),
    K.lookup fI = some ⟨oc, od, .func (fnOf "__init__" qual (xA f p1 p2) (xB f q1 q2 q3 q4) (xS f) .none .none doc pm an cdv ct), osl⟩ ∧ codeIn K cdv qual = true
/-- what a built-in base tells -/
structure XBase (bmB : List Value) (B newId initId : String) : Prop where
  fb : ExcBaseFacts B newId initId bmB
  pass : ∀ self : Value, refuseLoop self "__setattr__" bmB = pure ()
  hasO : bmB.contains (.type "object") = true
  ne : bmB.isEmpty = false
theorem xb_value : XBase [.type "ValueError", .type "Exception", .type "BaseException", .type "object"] "ValueError" "ValueError.__new__" "ValueError.__init__" := ⟨F.excBase_ValueError, F.store_ValueError.passes, by decide +kernel, rfl⟩
theorem xb_arith : XBase [.type "ArithmeticError", .type "Exception", .type "BaseException", .type "object"] "ArithmeticError" "ArithmeticError.__new__" "ArithmeticError.__init__" := ⟨F.excBase_ArithmeticError, F.store_ArithmeticError.passes, by decide +kernel, rfl⟩
theorem xb_lookup : XBase [.type "LookupError", .type "Exception", .type "BaseException", .type "object"] "LookupError" "LookupError.__new__" "LookupError.__init__" := ⟨F.excBase_LookupError, F.store_LookupError.passes, by decide +kernel, rfl⟩

theorem one_size (v : Value) : [v].length ≤ sizeLine := by
  rw [sizeLine_eq]
  exact (by decide : 1 ≤ 16777216)
theorem nil_size : ([] : List Value).length ≤ sizeLine := Nat.zero_le _
theorem ldL {M : Model} {s : Shared} {name : Str} {scope : Scope} {L a : Addr} {cd : Value} {m : Str → Option Value} {x : Str} {pos : Pos} {v : Value} {Q : Value → Shared → Prop} {A : Around} {E : Value → Shared → Prop} (hn : s.heap.Ns L m) (hv : m x = some v) (h : Q v s)
    (hk : scope.kind = .function) (hl : (envOfC name scope L a cd).kindOf x = some .local) (hd : (x == ("__debug__" : Str)) = false) :
    wpAny M A (eval (.Name x pos) (envOfC name scope L a cd)) Q E s := wpAny_Name (wpAny_loadName_local hk hl hn hv h) hd
theorem clsIn_of {K : Frag} {C : Addr} {newId : String} {nm q : Str} {N : Addr} {bs bm : List Value} {sn : List Str} {sub : List Value} {ab : Bool} {col : Option Bool} {dd : Option Addr} {k0 k1 k2 k3 k5 : Option Value} (hC : K.lookup C = some (excClassObj nm q C N bs bm true sn sub ab col dd k0 k1 k2 k3 k5 newId)) :
    clsIn K C = some { name := nm, bases := bs, mro := .ref C :: bm, ns := N, qualname := q, hasDict := true, slotNames := sn, subclasses := sub, abstract := ab, collection := col, hasDel := false } := by
  unfold clsIn; rw [hC] <;> rfl
/-- what __init__ leaves of a fresh exception at x -/
structure InitEnd (h h' : Heap) (x C dx t1 : Addr) (f : Str) (v : Value) : Prop where
  keep : ∀ b o, b ≠ x → h.get? b = some o → h'.get? b = some o
  obj : h'.get? x = some { cls := .ref C, dict := some dx, data := .fields #[.ref t1, .none, .none, .none, .bool false, .none] }
  dbig : h.objs.size ≤ dx
  dne : dx ≠ x
  ns : h'.Ns1 dx (fun y => if y = f then some v else none)
structure OwnMade (h h' : Heap) (e C d : Addr) (f : Str) (v : Value) : Prop where
  keep : ∀ b o, h.get? b = some o → h'.get? b = some o
  new : h.objs.size ≤ e
  obj : ∃ oe vs, h'.get? e = some oe ∧ oe.cls = .ref C ∧ oe.dict = some d ∧ oe.data = .fields vs ∧ vs[1]? = some .none
  dbig : h.objs.size ≤ d
  dne : d ≠ e
  ns : h'.Ns1 d (fun y => if y = f then some v else none)
section
variable {prog : Program} {w : World} {A : Around} {E : Value → Shared → Prop} {R : Result → Shared → Prop} {s : Shared} {K : Frag} {C fI : Addr} {bmB : List Value} {B newId initId : String} {qual : Str}
theorem init_given (XB : XBase bmB B newId initId) (T : XTxt K bmB newId C) (O : XOne K C fI "given" qual) {x t0 : Addr} {v : Value} (X : K.In s.heap) (hlim : s.heap.NoLimit) (hx : s.heap.get? x = some (excO C t0)) (hroom : A.depth < recursionLimit)
    (fin : ∀ h' tk dx, InitEnd s.heap h' x C dx t0 "given" v → R (.ok (.ret .none)) { s with heap := h', toks := tk }) :
    codeAny (model prog w) A (.call (.ref fI) ⟨[.ref x, v], []⟩) R s := by
  obtain ⟨oc, od, doc, pm, an, cdv, ct, osl, p1, p2, q1, q2, q3, q4, ho, hcd⟩ := O.fn
  obtain ⟨nm, q, N, bs, bm, sn, sub, ab, col, dd, k0, k1, k2, k3, k5, hC, hbm⟩ := T.cls
  have hcl := clsIn_of hC
  refine Att.call_fn (binds := [("self", .ref x), ("given", v)]) X hlim ho hcd hroom (BindsTo.of_eq (by first | rfl | with_unfolding_all rfl)) (by first | rfl | decide | with_unfolding_all rfl) (fun s₁ IC => ?_) rfl rfl rfl
  obtain ⟨h₁, tk₁, rfl⟩ := IC.toInCall.same
  have old : ∀ b o, s.heap.get? b = some o → h₁.get? b = some o := IC.toInCall.keep
  have hn := IC.toInCall.ns
  have hx₁ := old _ _ hx
  show wpAny _ _ (execs _ _) _ _ _
  refine wpAny_execs_cons (plainObj_wpAny_Assign_Attribute ?_)
  refine ldL (v := v) hn (by first | rfl | with_unfolding_all rfl | kernel_rfl) (ldL (v := .ref x) hn (by first | rfl | with_unfolding_all rfl | kernel_rfl) ?_ rfl rfl (by decide)) rfl rfl (by decide)
  refine set_plain (X.keeps old) (ox := excO C t0) (od := none) ⟨hx₁, rfl, rfl, trivial⟩ T.sa ?_
  refine xstore XB.pass XB.hasO XB.ne (X.keeps old) hx₁ hcl (show excTail bmB (.ref C :: bm) = true from hbm) rfl O.noN fun h₃ tk₃ dx k₃ dn dne hx₃ hn₃ => ?_
  show wpAny _ _ (execs _ _) _ _ _
  have z : s.heap.objs.size < h₁.objs.size := hn.lt
  exact wpAny_execs_nil (fin h₃ tk₃ dx ⟨fun b o hb e => k₃ b o hb (old b o e), hx₃, Nat.le_of_lt (Nat.lt_of_lt_of_le z dn), dne, hn₃⟩)
theorem made_given (XB : XBase bmB B newId initId) (T : XTxt K bmB newId C) (O : XOne K C fI "given" qual) {v : Value} (X : K.In s.heap) (hlim : s.heap.NoLimit) (hroom : A.depth + 1 < recursionLimit)
    (fin : ∀ h' tk e d, OwnMade s.heap h' e C d "given" v → R (.ok (.ret (.ref e))) { s with heap := h', toks := tk }) :
    codeAny (model prog w) A (.call (.ref C) ⟨[v], []⟩) R s := by
  obtain ⟨nm, q, N, bs, bm, sn, sub, ab, col, dd, k0, k1, k2, k3, k5, hC, hbm⟩ := T.cls
  obtain ⟨hp, g, dr, tk, os⟩ := s
  have k : ∀ b o, hp.get? b = some o → ((hp.push (kdv_tup [v])).push (excO C hp.objs.size)).get? b = some o := fun b o e => Heap.get?_push_of_some _ (Heap.get?_push_of_some _ e)
  have hget : ((hp.push (kdv_tup [v])).push (excO C hp.objs.size)).get? (hp.objs.size + 1) = some (excO C hp.objs.size) := by heap_get
  refine call_own XB.fb (fun X => excTail_contains X bm hbm) (X _ _ hC) (looks_findIn X O.iC) (fun self => bind_fn X self O.tI) (one_size v) ?_
  refine init_given (s := ⟨(hp.push (kdv_tup [v])).push (excO C hp.objs.size), g, dr, tk, os⟩) XB T O (X.keeps k) (hlim.keeps k) hget ?_ fun h' tk' dx ⟨k', hx, dn, dne, hns⟩ => ?_
  · show A.depth + 1 < recursionLimit
    exact hroom
  · have z : hp.objs.size + 1 + 1 ≤ dx := by
      first
        | exact dn
        | (simpa only [Heap.size_push] using dn)
    exact ⟨rfl, fin h' tk' (hp.objs.size + 1) dx ⟨fun b o e => k' b o (Nat.ne_of_lt (Nat.lt_succ_of_lt (Heap.lt_size e))) (k b o e), Nat.le_succ _, ⟨_, _, hx, rfl, rfl, rfl, rfl⟩, Nat.le_trans (Nat.le_trans (Nat.le_succ _) (Nat.le_succ _)) z, dne, hns⟩⟩
end
section
variable {prog : Program} {w : World} {A : Around} {E : Value → Shared → Prop} {R : Result → Shared → Prop} {s : Shared} {K : Frag} {C fI : Addr} {bmB : List Value} {B newId initId : String} {qual : Str}
theorem init_limit (XB : XBase bmB B newId initId) (T : XTxt K bmB newId C) (O : XOne K C fI "limit" qual) {x t0 : Addr} {v : Value} (X : K.In s.heap) (hlim : s.heap.NoLimit) (hx : s.heap.get? x = some (excO C t0)) (hroom : A.depth < recursionLimit)
    (fin : ∀ h' tk dx, InitEnd s.heap h' x C dx t0 "limit" v → R (.ok (.ret .none)) { s with heap := h', toks := tk }) :
    codeAny (model prog w) A (.call (.ref fI) ⟨[.ref x, v], []⟩) R s := by
  obtain ⟨oc, od, doc, pm, an, cdv, ct, osl, p1, p2, q1, q2, q3, q4, ho, hcd⟩ := O.fn
  obtain ⟨nm, q, N, bs, bm, sn, sub, ab, col, dd, k0, k1, k2, k3, k5, hC, hbm⟩ := T.cls
  have hcl := clsIn_of hC
  refine Att.call_fn (binds := [("self", .ref x), ("limit", v)]) X hlim ho hcd hroom (BindsTo.of_eq (by first | rfl | with_unfolding_all rfl)) (by first | rfl | decide | with_unfolding_all rfl) (fun s₁ IC => ?_) rfl rfl rfl
  obtain ⟨h₁, tk₁, rfl⟩ := IC.toInCall.same
  have old : ∀ b o, s.heap.get? b = some o → h₁.get? b = some o := IC.toInCall.keep
  have hn := IC.toInCall.ns
  have hx₁ := old _ _ hx
  show wpAny _ _ (execs _ _) _ _ _
  refine wpAny_execs_cons (plainObj_wpAny_Assign_Attribute ?_)
  refine ldL (v := v) hn (by first | rfl | with_unfolding_all rfl | kernel_rfl) (ldL (v := .ref x) hn (by first | rfl | with_unfolding_all rfl | kernel_rfl) ?_ rfl rfl (by decide)) rfl rfl (by decide)
  refine set_plain (X.keeps old) (ox := excO C t0) (od := none) ⟨hx₁, rfl, rfl, trivial⟩ T.sa ?_
  refine xstore XB.pass XB.hasO XB.ne (X.keeps old) hx₁ hcl (show excTail bmB (.ref C :: bm) = true from hbm) rfl O.noN fun h₃ tk₃ dx k₃ dn dne hx₃ hn₃ => ?_
  show wpAny _ _ (execs _ _) _ _ _
  have z : s.heap.objs.size < h₁.objs.size := hn.lt
  exact wpAny_execs_nil (fin h₃ tk₃ dx ⟨fun b o hb e => k₃ b o hb (old b o e), hx₃, Nat.le_of_lt (Nat.lt_of_lt_of_le z dn), dne, hn₃⟩)
theorem made_limit (XB : XBase bmB B newId initId) (T : XTxt K bmB newId C) (O : XOne K C fI "limit" qual) {v : Value} (X : K.In s.heap) (hlim : s.heap.NoLimit) (hroom : A.depth + 1 < recursionLimit)
    (fin : ∀ h' tk e d, OwnMade s.heap h' e C d "limit" v → R (.ok (.ret (.ref e))) { s with heap := h', toks := tk }) :
    codeAny (model prog w) A (.call (.ref C) ⟨[v], []⟩) R s := by
  obtain ⟨nm, q, N, bs, bm, sn, sub, ab, col, dd, k0, k1, k2, k3, k5, hC, hbm⟩ := T.cls
  obtain ⟨hp, g, dr, tk, os⟩ := s
  have k : ∀ b o, hp.get? b = some o → ((hp.push (kdv_tup [v])).push (excO C hp.objs.size)).get? b = some o := fun b o e => Heap.get?_push_of_some _ (Heap.get?_push_of_some _ e)
  have hget : ((hp.push (kdv_tup [v])).push (excO C hp.objs.size)).get? (hp.objs.size + 1) = some (excO C hp.objs.size) := by heap_get
  refine call_own XB.fb (fun X => excTail_contains X bm hbm) (X _ _ hC) (looks_findIn X O.iC) (fun self => bind_fn X self O.tI) (one_size v) ?_
  refine init_limit (s := ⟨(hp.push (kdv_tup [v])).push (excO C hp.objs.size), g, dr, tk, os⟩) XB T O (X.keeps k) (hlim.keeps k) hget ?_ fun h' tk' dx ⟨k', hx, dn, dne, hns⟩ => ?_
  · show A.depth + 1 < recursionLimit
    exact hroom
  · have z : hp.objs.size + 1 + 1 ≤ dx := by
      first
        | exact dn
        | (simpa only [Heap.size_push] using dn)
    exact ⟨rfl, fin h' tk' (hp.objs.size + 1) dx ⟨fun b o e => k' b o (Nat.ne_of_lt (Nat.lt_succ_of_lt (Heap.lt_size e))) (k b o e), Nat.le_succ _, ⟨_, _, hx, rfl, rfl, rfl, rfl⟩, Nat.le_trans (Nat.le_trans (Nat.le_succ _) (Nat.le_succ _)) z, dne, hns⟩⟩
end
section
variable {prog : Program} {w : World} {A : Around} {E : Value → Shared → Prop} {R : Result → Shared → Prop} {s : Shared} {K : Frag} {C fI : Addr} {bmB : List Value} {B newId initId : String} {qual : Str}
theorem init_index (XB : XBase bmB B newId initId) (T : XTxt K bmB newId C) (O : XOne K C fI "index" qual) {x t0 : Addr} {v : Value} (X : K.In s.heap) (hlim : s.heap.NoLimit) (hx : s.heap.get? x = some (excO C t0)) (hroom : A.depth < recursionLimit)
    (fin : ∀ h' tk dx, InitEnd s.heap h' x C dx t0 "index" v → R (.ok (.ret .none)) { s with heap := h', toks := tk }) :
    codeAny (model prog w) A (.call (.ref fI) ⟨[.ref x, v], []⟩) R s := by
  obtain ⟨oc, od, doc, pm, an, cdv, ct, osl, p1, p2, q1, q2, q3, q4, ho, hcd⟩ := O.fn
  obtain ⟨nm, q, N, bs, bm, sn, sub, ab, col, dd, k0, k1, k2, k3, k5, hC, hbm⟩ := T.cls
  have hcl := clsIn_of hC
  refine Att.call_fn (binds := [("self", .ref x), ("index", v)]) X hlim ho hcd hroom (BindsTo.of_eq (by first | rfl | with_unfolding_all rfl)) (by first | rfl | decide | with_unfolding_all rfl) (fun s₁ IC => ?_) rfl rfl rfl
  obtain ⟨h₁, tk₁, rfl⟩ := IC.toInCall.same
  have old : ∀ b o, s.heap.get? b = some o → h₁.get? b = some o := IC.toInCall.keep
  have hn := IC.toInCall.ns
  have hx₁ := old _ _ hx
  show wpAny _ _ (execs _ _) _ _ _
  refine wpAny_execs_cons (plainObj_wpAny_Assign_Attribute ?_)
  refine ldL (v := v) hn (by first | rfl | with_unfolding_all rfl | kernel_rfl) (ldL (v := .ref x) hn (by first | rfl | with_unfolding_all rfl | kernel_rfl) ?_ rfl rfl (by decide)) rfl rfl (by decide)
  refine set_plain (X.keeps old) (ox := excO C t0) (od := none) ⟨hx₁, rfl, rfl, trivial⟩ T.sa ?_
  refine xstore XB.pass XB.hasO XB.ne (X.keeps old) hx₁ hcl (show excTail bmB (.ref C :: bm) = true from hbm) rfl O.noN fun h₃ tk₃ dx k₃ dn dne hx₃ hn₃ => ?_
  show wpAny _ _ (execs _ _) _ _ _
  have z : s.heap.objs.size < h₁.objs.size := hn.lt
  exact wpAny_execs_nil (fin h₃ tk₃ dx ⟨fun b o hb e => k₃ b o hb (old b o e), hx₃, Nat.le_of_lt (Nat.lt_of_lt_of_le z dn), dne, hn₃⟩)
theorem made_index (XB : XBase bmB B newId initId) (T : XTxt K bmB newId C) (O : XOne K C fI "index" qual) {v : Value} (X : K.In s.heap) (hlim : s.heap.NoLimit) (hroom : A.depth + 1 < recursionLimit)
    (fin : ∀ h' tk e d, OwnMade s.heap h' e C d "index" v → R (.ok (.ret (.ref e))) { s with heap := h', toks := tk }) :
    codeAny (model prog w) A (.call (.ref C) ⟨[v], []⟩) R s := by
  obtain ⟨nm, q, N, bs, bm, sn, sub, ab, col, dd, k0, k1, k2, k3, k5, hC, hbm⟩ := T.cls
  obtain ⟨hp, g, dr, tk, os⟩ := s
  have k : ∀ b o, hp.get? b = some o → ((hp.push (kdv_tup [v])).push (excO C hp.objs.size)).get? b = some o := fun b o e => Heap.get?_push_of_some _ (Heap.get?_push_of_some _ e)
  have hget : ((hp.push (kdv_tup [v])).push (excO C hp.objs.size)).get? (hp.objs.size + 1) = some (excO C hp.objs.size) := by heap_get
  refine call_own XB.fb (fun X => excTail_contains X bm hbm) (X _ _ hC) (looks_findIn X O.iC) (fun self => bind_fn X self O.tI) (one_size v) ?_
  refine init_index (s := ⟨(hp.push (kdv_tup [v])).push (excO C hp.objs.size), g, dr, tk, os⟩) XB T O (X.keeps k) (hlim.keeps k) hget ?_ fun h' tk' dx ⟨k', hx, dn, dne, hns⟩ => ?_
  · show A.depth + 1 < recursionLimit
    exact hroom
  · have z : hp.objs.size + 1 + 1 ≤ dx := by
      first
        | exact dn
        | (simpa only [Heap.size_push] using dn)
    exact ⟨rfl, fin h' tk' (hp.objs.size + 1) dx ⟨fun b o e => k' b o (Nat.ne_of_lt (Nat.lt_succ_of_lt (Heap.lt_size e))) (k b o e), Nat.le_succ _, ⟨_, _, hx, rfl, rfl, rfl, rfl⟩, Nat.le_trans (Nat.le_trans (Nat.le_succ _) (Nat.le_succ _)) z, dne, hns⟩⟩
end
end DLX
end PySem

end
section
namespace DL
open PySem PySem.Spec L2 PySem.DLX PyProof.Rows

/-- a class of errors with one field, as it stands behind the top -/
structure Er1 (P : Program) (w : World) (K : PySem.W.Frag) (mg : Str → Option Value) (x : Str) (C : Addr) (f : Str) : Prop where
  gC : mg x = some (.ref C)
  kC : PySem.W.keepIn K (.ref C) = true
  exC : PySem.W.subIn K (.ref C) (.type "BaseException") = some true
  tyC : PySem.W.typeIn K (.ref C) = some (.type "type")
  made : ∀ (A : Around) (R : Result → Shared → Prop) (s : Shared) (v : Value), K.In s.heap → s.heap.NoLimit → A.depth + 1 < recursionLimit →
    (∀ h' tk e d, OwnMade s.heap h' e C d f v → R (.ok (.ret (.ref e))) { s with heap := h', toks := tk }) → codeAny (model P w) A (.call (.ref C) ⟨[v], []⟩) R s
section
variable {P : Program} {w : World} {K : PySem.W.Frag} {mg : Str → Option Value} {bmB : List Value} {B newId initId : String} {C fI : Addr} {x qual : Str}
theorem er_given (XB : XBase bmB B newId initId) (T : XTxt K bmB newId C) (O : XOne K C fI "given" qual) (g : mg x = some (.ref C)) : Er1 P w K mg x C "given" := ⟨g, T.kC, T.exC, T.tyC, fun A R s v X hl hr fin => made_given XB T O X hl hr fin⟩
theorem er_limit (XB : XBase bmB B newId initId) (T : XTxt K bmB newId C) (O : XOne K C fI "limit" qual) (g : mg x = some (.ref C)) : Er1 P w K mg x C "limit" := ⟨g, T.kC, T.exC, T.tyC, fun A R s v X hl hr fin => made_limit XB T O X hl hr fin⟩
theorem er_index (XB : XBase bmB B newId initId) (T : XTxt K bmB newId C) (O : XOne K C fI "index" qual) (g : mg x = some (.ref C)) : Er1 P w K mg x C "index" := ⟨g, T.kC, T.exC, T.tyC, fun A R s v X hl hr fin => made_index XB T O X hl hr fin⟩
end
theorem relO_one {f : Str} {v : V} {v' : Value} (r : RelV v v') (g : Str) : RelO (List.lookup g [(f, v)]) (if g = f then some v' else none) := by
  by_cases hw : g = f
  · subst hw
    rw [if_pos rfl]
    have q : List.lookup g [(g, v)] = some v := by simp [List.lookup]
    rw [q]
    exact r
  · rw [if_neg hw]
    have qw : (g == f) = false := by simpa using hw
    have q2 : List.lookup g [(f, v)] = none := by simp [List.lookup, qw]
    rw [q2]
    trivial
section
variable {X : Cx} {C : Addr} {x f : Str}
/-- X(e) on its way out -/
def tMk1 (C : Addr) (f : Str) (ta : TA) : L2.St → Hp → XK → Prop := fun σ H Q => ta σ H fun vs H1 => ∃ v, vs = [v] ∧ ∀ d, H1 d = none → Q (.ref C) (some d) (upd H1 d (.xd [(f, v)]))
theorem pmk_one {a : Expr} {ta : TA} {p pos : Pos} {k : Nat} (T : Er1 X.prog X.w X.K X.mg x C f) (hr : Room k X.A) (ha : PA X [a] ta) (hg : Gl X x) (hdb : (x == ("__debug__" : Str)) = false)
    (he : starEach (a :: []) X.env = (false, eval a X.env) :: starEach [] X.env) (hpl : (backTo pos (starEach [] X.env)).any (·.1) = false) :
    PMk X (.Call (.Name x p) [a] [] pos) (tMk1 C f ta) := by
  intro pins s σ H Q I h
  refine wpAny_Call_Name_kw (ld_glob I hg T.gC ?_ hdb)
  refine PySem.W.callWith_K (h₀ := X.base) I.ok.mod.kin T.kC (thn (ha.run pos pins s σ H _ I h) fun us s1 hh => ?_) he hpl
  obtain ⟨vs, H1, I1, r1, v, ev, q1⟩ := hh
  subst ev
  refine ⟨I1.kIn, ?_⟩
  cases r1 with
  | cons rv rn =>
    rename_i v' us'
    cases rn
    show wpAny _ _ (call (.ref C) [v']) _ _ _
    have hlim := I1.nolimit
    obtain ⟨hp, g, dr, tk, os⟩ := s1
    refine wpAny_call (T.made _ _ _ _ I1.kIn hlim (by have := hr.dp; omega) fun h' tk' e d M => ?_)
    show MkP X pins σ Q (.ref e) ⟨h', g, dr, tk', os⟩
    obtain ⟨oe, fv, hoe, hc, hd, hdat, h1⟩ := M.obj
    have hns := M.ns
    obtain ⟨G', g1, g2⟩ := restrict h' fun b => decide (b ≠ e)
    have gk : ∀ b, b ≠ e → G'.get? b = h'.get? b := fun b hb => g1 b (decide_eq_true hb)
    have ge : G'.get? e = none := g2 e (by simp)
    have old : ∀ b o, hp.get? b = some o → G'.get? b = some o := fun b o q => (gk b (Nat.ne_of_lt (Nat.lt_of_lt_of_le (Heap.lt_size q) M.new))).trans (M.keep b o q)
    have ob : ObjOk X.prog X.w (upd H1 d (.xd [(f, v)])) G' d (.xd [(f, v)]) := ⟨_, hns.at (fun o q => (gk d M.dne).trans q), fun y => relO_one rv y⟩
    have J : Inv X pins σ (upd H1 d (.xd [(f, v)])) ⟨G', g, dr, tk', os⟩ := I1.laid (t' := tk') old M.dbig ob
    refine ⟨e, oe, fv, ⟨G', g, dr, tk', os⟩, _, .ref C, some d, rfl, J, fun b o q => ?_, ge, hoe, ⟨hc, hd⟩, hdat, h1, ?_, rfl, I1.bare, raises_own T.exC T.tyC, q1 d (I1.hok.fresh M.dbig)⟩
    · by_cases hb : b = e
      · have q' : G'.get? b = some o := q
        rw [hb, ge] at q'; cases q'
      · exact (gk b hb).symm.trans q
    · rw [upd_ne (Ne.symm M.dne)]
      exact I1.hok.fresh M.new
end

/-- raise X(e) -/
def sRaise (c : Nat) (f : Str) (a : EF) : SF := fun env => match a env with
  | .ok d env1 => sErr c [(f, d)] env1
  | .err c' fs env1 => sErr c' fs env1
  | .bad => .bad
section
variable {X : Cx} {cl : Nat → Addr} {E : XK} {S : List Nat} {x f : Str}
theorem Same.rel {K : PySem.W.Frag} {O P R : Addr → Bool} {env : Slots} {σ : L2.St} {H : Hp} {d : Addr} {o : HO} (r : RelE cl K O P R env σ H) (hd : H d = none) : RelE cl K O P R env σ (upd H d o) := r.same (same_new hd)
theorem ss_raise {a : Expr} {fa : EF} {p pos pos2 : Pos} {k c : Nat} (hc : X.calm = true) (T : Er1 X.prog X.w X.K X.mg x (cl c) f) (hr : Room k X.A) (tk : Takes X (WE E)) (ha : SE X cl (WE E) a fa) (hg : Gl X x) (hdb : (x == ("__debug__" : Str)) = false := by decide)
    (he : starEach (a :: []) X.env = (false, eval a X.env) :: starEach [] X.env := by rfl) (hpl : (backTo pos (starEach [] X.env)).any (·.1) = false := by rfl) :
    SS X cl (WE E) S (.Raise (some (.Call (.Name x p) [a] [] pos)) none pos2) (sRaise c f fa) :=
  psImp (ps_raise hc tk (pmk_one T hr (pa_cons ha pa_nil he) hg hdb he hpl)) fun De σ H ⟨O, P, R, env, r, h⟩ => by
    show tMk1 (cl c) f (tCons (tD cl X.K (WE E) fa) tNil) σ H _
    refine PostS.bind (S := S) (f := fa) (k := fun d env1 => sErr c [(f, d)] env1) r h fun d env1 v H1 r1 d1 h1 => ⟨v, rfl, fun dd hd => ?_⟩
    have sm := same_new (o := HO.xd [(f, v)]) hd
    have m : Mv O P R H1 (upd H1 dd (.xd [(f, v)])) := Mv.same sm r1.dom
    refine h1 (some dd) σ _ (Fin.of (r1.same sm) m) ⟨dd, [(f, v)], rfl, ?_, ?_⟩
    · exact cut_sub (fun _ z => fgn_sub z) _ _ (cut_new r1.dom hd)
    · exact .cons (d1.mono (fun a o z => cut_sub (fun _ z => fgn_sub z) _ _ (cut_same sm a o z))) .nil
end
end DL

end
section
namespace PySem
namespace DLX
open PySem.W PySem.Calls PyProof.Rows PySem.HandSPX Builtin Builtin.ObjectAttr
/-! errors that take nothing: def __init__(self): pass, their own or a base's -/
def zA (p1 : Pos) : Arguments := { posonlyargs := [], args := [{ arg := "self", annotation := none, pos := p1 }], vararg := none, kwonlyargs := [], kw_defaults := [], kwarg := none, defaults := [] }
def zS : Scope := { kind := .function, names := [(PySem.Str.ofString "self", .local)], isGenerator := false, isCoroutine := false, more := [] }
structure XNil (K : Frag) (C fI : Addr) (qual : Str) : Prop extends XInit K C fI where
  fn : ∃ (oc : Value) (od : Option Addr) (kV doc pm : Value) (an : Option Addr) (cdv ct : Value) (osl : Array (Option Value)) (p1 q1 : Pos),
    K.lookup fI = some ⟨oc, od, .func (fnOf "__init__" qual (zA p1) [.Pass q1] zS .none kV doc pm an cdv ct), osl⟩ ∧ codeIn K cdv qual = true
structure NilMade (h h' : Heap) (e C : Addr) : Prop where
  keep : ∀ b o, h.get? b = some o → h'.get? b = some o
  new : h.objs.size ≤ e
  obj : ∃ oe vs, h'.get? e = some oe ∧ oe.cls = .ref C ∧ oe.dict = none ∧ oe.data = .fields vs ∧ vs[1]? = some .none
section
variable {prog : Program} {w : World} {A : Around} {E : Value → Shared → Prop} {R : Result → Shared → Prop} {s : Shared} {K : Frag} {C fI : Addr} {bmB : List Value} {B newId initId : String} {qual : Str}
theorem init_nil (O : XNil K C fI qual) {x : Addr} (X : K.In s.heap) (hlim : s.heap.NoLimit) (hroom : A.depth < recursionLimit)
    (fin : ∀ h' tk, (∀ b o, s.heap.get? b = some o → h'.get? b = some o) → R (.ok (.ret .none)) { s with heap := h', toks := tk }) :
    codeAny (model prog w) A (.call (.ref fI) ⟨[.ref x], []⟩) R s := by
  obtain ⟨oc, od, kV, doc, pm, an, cdv, ct, osl, p1, q1, ho, hcd⟩ := O.fn
  refine Att.call_fn (binds := [("self", .ref x)]) X hlim ho hcd hroom (BindsTo.of_eq (by first | rfl | with_unfolding_all rfl)) (by first | rfl | decide | with_unfolding_all rfl) (fun s₁ IC => ?_) rfl rfl rfl
  obtain ⟨h₁, tk₁, rfl⟩ := IC.toInCall.same
  show wpAny _ _ (execs _ _) _ _ _
  refine wpAny_execs_cons (wpAny_Pass ?_)
  exact wpAny_execs_nil (fin h₁ tk₁ IC.toInCall.keep)
theorem made_nil (XB : XBase bmB B newId initId) (T : XTxt K bmB newId C) (O : XNil K C fI qual) (X : K.In s.heap) (hlim : s.heap.NoLimit) (hroom : A.depth + 1 < recursionLimit)
    (fin : ∀ h' tk e, NilMade s.heap h' e C → R (.ok (.ret (.ref e))) { s with heap := h', toks := tk }) :
    codeAny (model prog w) A (.call (.ref C) ⟨[], []⟩) R s := by
  obtain ⟨nm, q, N, bs, bm, sn, sub, ab, col, dd, k0, k1, k2, k3, k5, hC, hbm⟩ := T.cls
  obtain ⟨hp, g, dr, tk, os⟩ := s
  have k : ∀ b o, hp.get? b = some o → ((hp.push (kdv_tup [])).push (excO C hp.objs.size)).get? b = some o := fun b o e => Heap.get?_push_of_some _ (Heap.get?_push_of_some _ e)
  have hget : ((hp.push (kdv_tup [])).push (excO C hp.objs.size)).get? (hp.objs.size + 1) = some (excO C hp.objs.size) := by heap_get
  refine call_own XB.fb (fun X => excTail_contains X bm hbm) (X _ _ hC) (looks_findIn X O.iC) (fun self => bind_fn X self O.tI) (Nat.zero_le _) ?_
  refine init_nil (s := ⟨(hp.push (kdv_tup [])).push (excO C hp.objs.size), g, dr, tk, os⟩) O (X.keeps k) (hlim.keeps k) ?_ fun h' tk' k' => ?_
  · show A.depth + 1 < recursionLimit
    exact hroom
  · exact ⟨rfl, fin h' tk' (hp.objs.size + 1) ⟨fun b o e => k' b o (k b o e), Nat.le_succ _, ⟨_, _, k' _ _ hget, rfl, rfl, rfl, rfl⟩⟩⟩
end
end DLX
end PySem
namespace DL
open PySem PySem.Spec L2 PySem.DLX PyProof.Rows
structure Er0 (P : Program) (w : World) (K : PySem.W.Frag) (mg : Str → Option Value) (x : Str) (C : Addr) : Prop where
  gC : mg x = some (.ref C)
  kC : PySem.W.keepIn K (.ref C) = true
  exC : PySem.W.subIn K (.ref C) (.type "BaseException") = some true
  tyC : PySem.W.typeIn K (.ref C) = some (.type "type")
  made : ∀ (A : Around) (R : Result → Shared → Prop) (s : Shared), K.In s.heap → s.heap.NoLimit → A.depth + 1 < recursionLimit →
    (∀ h' tk e, NilMade s.heap h' e C → R (.ok (.ret (.ref e))) { s with heap := h', toks := tk }) → codeAny (model P w) A (.call (.ref C) ⟨[], []⟩) R s
theorem er_nil {P : Program} {w : World} {K : PySem.W.Frag} {mg : Str → Option Value} {bmB : List Value} {B newId initId : String} {C fI : Addr} {x qual : Str} (XB : XBase bmB B newId initId) (T : XTxt K bmB newId C) (O : XNil K C fI qual) (g : mg x = some (.ref C)) : Er0 P w K mg x C :=
  ⟨g, T.kC, T.exC, T.tyC, fun A R s X hl hr fin => made_nil XB T O X hl hr fin⟩
section
variable {X : Cx} {C : Addr} {x : Str}
theorem pmk_nil {p pos : Pos} {k : Nat} (T : Er0 X.prog X.w X.K X.mg x C) (hr : Room k X.A) (hg : Gl X x) (hdb : (x == ("__debug__" : Str)) = false) :
    PMk X (.Call (.Name x p) [] [] pos) (fun _ H Q => Q (.ref C) none H) := by
  intro pins s σ H Q I h
  refine wpAny_Call_Name_kw (ld_glob I hg T.gC ?_ hdb)
  refine PySem.W.callWith_K0 I.kIn T.kC ?_
  show wpAny _ _ (call (.ref C) []) _ _ _
  have hlim := I.nolimit
  obtain ⟨hp, g, dr, tk, os⟩ := s
  refine wpAny_call (T.made _ _ _ I.kIn hlim (by have := hr.dp; omega) fun h' tk' e M => ?_)
  show MkP X pins σ Q (.ref e) ⟨h', g, dr, tk', os⟩
  obtain ⟨oe, fv, hoe, hc, hd, hdat, h1⟩ := M.obj
  obtain ⟨G', g1, g2⟩ := restrict h' fun b => decide (b ≠ e)
  have gk : ∀ b, b ≠ e → G'.get? b = h'.get? b := fun b hb => g1 b (decide_eq_true hb)
  have ge : G'.get? e = none := g2 e (by simp)
  have old : ∀ b o, hp.get? b = some o → G'.get? b = some o := fun b o q => (gk b (Nat.ne_of_lt (Nat.lt_of_lt_of_le (Heap.lt_size q) M.new))).trans (M.keep b o q)
  have J : Inv X pins σ H ⟨G', g, dr, tk', os⟩ := I.kept (t' := tk') old
  refine ⟨e, oe, fv, ⟨G', g, dr, tk', os⟩, _, .ref C, none, rfl, J, fun b o q => ?_, ge, hoe, ⟨hc, hd⟩, hdat, h1, ?_, rfl, I.bare, raises_own T.exC T.tyC, h⟩
  · by_cases hb : b = e
    · have q' : G'.get? b = some o := q
      rw [hb, ge] at q'; cases q'
    · exact (gk b hb).symm.trans q
  · exact I.hok.fresh M.new
end
/-- raise X() -/
def sRaise0 (c : Nat) : SF := fun env => sErr c [] env
theorem ss_raise0 {X : Cx} {cl : Nat → Addr} {E : XK} {S : List Nat} {x : Str} {p pos pos2 : Pos} {k c : Nat} (hc : X.calm = true) (T : Er0 X.prog X.w X.K X.mg x (cl c)) (hr : Room k X.A) (tk : Takes X (WE E)) (hg : Gl X x) (hdb : (x == ("__debug__" : Str)) = false := by decide) :
    SS X cl (WE E) S (.Raise (some (.Call (.Name x p) [] [] pos)) none pos2) (sRaise0 c) :=
  psImp (ps_raise hc tk (pmk_nil T hr hg hdb)) fun De σ H ⟨O, P, R, env, r, h⟩ => h none σ H (Fin.of r Mv.refl) rfl
end DL

end
section
namespace DL
open PySem PySem.Spec L2

/-! ### lists of one's own -/
section
variable {cl : Nat → Addr} {K : PySem.W.Frag} {O P R : Addr → Bool} {env : Slots} {σ : L2.St} {H : Hp}
theorem tab_upd {H : Hp} {p : Addr} {vs ws : List V} (h : H p = some (.lst vs)) {q : Addr} {n : Str} (t : LamX.TabS H q n) : LamX.TabS (upd H p (.lst ws)) q n := by
  obtain ⟨ps, t1, t2, t3⟩ := t
  have nl : ∀ {b : Addr} {o : HO}, H b = some o → (∀ xs, o ≠ .lst xs) → upd H p (.lst ws) b = some o := fun {b o} e ne => by
    rw [upd_ne (fun z => by rw [z, h] at e; exact ne vs (Option.some.inj e).symm)]; exact e
  refine ⟨ps, nl t1 (fun xs z => by cases z), t2, fun pos cv hc => ?_⟩
  obtain ⟨c, c1, c2⟩ := t3 pos cv hc
  exact ⟨c, c1, nl c2 (fun xs z => by unfold LamX.CodeO at z; cases z)⟩
theorem mv_upd {p : Addr} {vs ws : List V} (hO : O p = true) (hP : P p = true ∨ R p = true) (h : H p = some (.lst vs)) : Mv O P R H (upd H p (.lst ws)) :=
  ⟨fun a o h1 _ h2 => by rw [upd_ne (fun e => by rw [e, hO] at h1; cases h1)]; exact h2,
   fun a h1 => by
    by_cases e : a = p
    · subst e; rw [upd_same]; exact fun z => nomatch z
    · rw [upd_ne e]; exact h1,
   fun a h1 h2 h3 => upd_ne (fun e => by
    subst e
    rcases hP with z | z
    · rw [z] at h2; cases h2
    · rw [z] at h3; cases h3),
   fun q n t => tab_upd h t⟩
/-- the place of an own list, as data -/
def ownL (env : Slots) (i : Nat) : Option (List D) := match env[i]? with
  | some (.ow xs) => some xs
  | some (.io xs) => some xs
  | _ => none
def setOwn (env : Slots) (i : Nat) (xs : List D) : Slots := match env[i]? with
  | some (.ow _) => env.set i (.ow xs)
  | some (.io _) => env.set i (.io xs)
  | _ => env
theorem ownL_at (r : RelE cl K O P R env σ H) {i : Nat} {xs : List D} (h : ownL env i = some xs) : ∃ p vs, σ[i]? = some (some (V.ref p)) ∧ O p = true ∧ (P p = true ∨ R p = true) ∧ H p = some (.lst vs) ∧ DrA cl K (cut H O) vs xs := by
  unfold ownL at h
  split at h
  · rename_i ys e
    cases h
    obtain ⟨p, vs, e1, e2, e3, e4⟩ := r.ow i _ e
    exact ⟨p, vs, e1, r.subP p e2, .inl e2, e3, e4⟩
  · rename_i ys e
    cases h
    obtain ⟨p, vs, e1, e2, e3, e4⟩ := r.io i _ e
    exact ⟨p, vs, e1, r.subR p e2, .inr e2, e3, e4⟩
  · cases h
theorem ownL_owned {i : Nat} {xs : List D} (h : ownL env i = some xs) : owned env i = true := by
  unfold ownL at h
  unfold owned
  split at h
  · rename_i e; first | rw [e] | rfl
  · rename_i e; first | rw [e] | rfl
  · cases h
theorem get_set {env : Slots} {i j : Nat} {s s' : Sl} (h : (env.set i s)[j]? = some s') : (j = i ∧ s = s') ∨ (j ≠ i ∧ env[j]? = some s') := get_set_pu h
theorem RelE.mut (r : RelE cl K O P R env σ H) {i : Nat} {xs ys : List D} {p : Addr} {vs ws : List V} (h : ownL env i = some xs) (hs : σ[i]? = some (some (V.ref p))) (hH : H p = some (.lst vs)) (hw : DrA cl K (cut H O) ws ys) (hO : O p = true) :
    RelE cl K O P R (setOwn env i ys) σ (upd H p (.lst ws)) := by
  have c : Same (cut H O) (cut (upd H p (.lst ws)) O) := cut_of fun a o h1 _ h2 => ⟨h1, by rw [upd_ne (fun e => by rw [e, hO] at h1; cases h1)]; exact h2⟩
  have oi := ownL_owned h
  have ne : ∀ {j : Nat} {q : Addr}, j ≠ i → owned env j = true → σ[j]? = some (some (V.ref q)) → q ≠ p := fun {j q} hj oj e z => hj (r.inj j i p oj oi (by rw [← z]; exact e) hs)
  have dom' : ∀ a, O a = true → ∃ us, upd H p (.lst ws) a = some (.lst us) := fun a ha => by
    by_cases e : a = p
    · subst e; exact ⟨ws, upd_same⟩
    · obtain ⟨us, q⟩ := r.dom a ha; exact ⟨us, by rw [upd_ne e]; exact q⟩
  have own_ow : ∀ {j : Nat} {zs : List D}, env[j]? = some (.ow zs) → owned env j = true := fun {j zs} e => by unfold owned; rw [e]
  have own_io : ∀ {j : Nat} {zs : List D}, env[j]? = some (.io zs) → owned env j = true := fun {j zs} e => by unfold owned; rw [e]
  unfold ownL at h
  split at h
  · rename_i zs e
    cases h
    have es : setOwn env i ys = env.set i (.ow ys) := by unfold setOwn; rw [e]
    rw [es]
    have ow' : ∀ {j : Nat}, owned (env.set i (.ow ys)) j = true → owned env j = true := fun {j} q => by
      unfold owned at q
      cases q2 : (env.set i (.ow ys))[j]? with
      | none => rw [q2] at q; cases q
      | some s =>
        rcases get_set q2 with ⟨z, _⟩ | ⟨_, z⟩
        · rw [z]; exact own_ow e
        · rw [q2] at q; unfold owned; rw [z]; exact q
    refine ⟨by rw [List.length_set]; exact r.len, fun j d q => ?_, fun j us q => ?_, fun j us q => ?_, fun j k q h1 h2 e1 e2 => r.inj j k q (ow' h1) (ow' h2) e1 e2, dom', r.subP, r.subR, r.apart⟩
    · rcases get_set q with ⟨_, z⟩ | ⟨_, z⟩
      · cases z
      · obtain ⟨v, e1, e2⟩ := r.pu j d z; exact ⟨v, e1, e2.mono c⟩
    · rcases get_set q with ⟨z, z2⟩ | ⟨z1, z⟩
      · cases z2; subst z
        obtain ⟨p', vs', e1, e2, e3, e4⟩ := r.ow j _ e
        rw [hs] at e1; cases e1
        exact ⟨p, ws, hs, e2, upd_same, hw.mono c⟩
      · obtain ⟨p', vs', e1, e2, e3, e4⟩ := r.ow j _ z
        exact ⟨p', vs', e1, e2, by rw [upd_ne (ne z1 (own_ow z) e1)]; exact e3, e4.mono c⟩
    · rcases get_set q with ⟨z, z2⟩ | ⟨z1, z⟩
      · cases z2
      · obtain ⟨p', vs', e1, e2, e3, e4⟩ := r.io j _ z
        exact ⟨p', vs', e1, e2, by rw [upd_ne (ne z1 (own_io z) e1)]; exact e3, e4.mono c⟩
  · rename_i zs e
    cases h
    have es : setOwn env i ys = env.set i (.io ys) := by unfold setOwn; rw [e]
    rw [es]
    have ow' : ∀ {j : Nat}, owned (env.set i (.io ys)) j = true → owned env j = true := fun {j} q => by
      unfold owned at q
      cases q2 : (env.set i (.io ys))[j]? with
      | none => rw [q2] at q; cases q
      | some s =>
        rcases get_set q2 with ⟨z, _⟩ | ⟨_, z⟩
        · rw [z]; exact own_io e
        · rw [q2] at q; unfold owned; rw [z]; exact q
    refine ⟨by rw [List.length_set]; exact r.len, fun j d q => ?_, fun j us q => ?_, fun j us q => ?_, fun j k q h1 h2 e1 e2 => r.inj j k q (ow' h1) (ow' h2) e1 e2, dom', r.subP, r.subR, r.apart⟩
    · rcases get_set q with ⟨_, z⟩ | ⟨_, z⟩
      · cases z
      · obtain ⟨v, e1, e2⟩ := r.pu j d z; exact ⟨v, e1, e2.mono c⟩
    · rcases get_set q with ⟨z, z2⟩ | ⟨z1, z⟩
      · cases z2
      · obtain ⟨p', vs', e1, e2, e3, e4⟩ := r.ow j _ z
        exact ⟨p', vs', e1, e2, by rw [upd_ne (ne z1 (own_ow z) e1)]; exact e3, e4.mono c⟩
    · rcases get_set q with ⟨z, z2⟩ | ⟨z1, z⟩
      · cases z2; subst z
        obtain ⟨p', vs', e1, e2, e3, e4⟩ := r.io j _ e
        rw [hs] at e1; cases e1
        exact ⟨p, ws, hs, e2, upd_same, hw.mono c⟩
      · obtain ⟨p', vs', e1, e2, e3, e4⟩ := r.io j _ z
        exact ⟨p', vs', e1, e2, by rw [upd_ne (ne z1 (own_io z) e1)]; exact e3, e4.mono c⟩
  · cases h
end

/-- xs.append(e), xs an own list -/
def dApp (i : Nat) (f : EF) : EF := fun env => if owned env i = true then (f env).bind fun d env1 => match ownL env1 i with
  | some xs => if xs.length < sizeLine then .ok .non (setOwn env1 i (xs ++ [d])) else .bad
  | none => .bad else .bad
/-- xs[k] = e, xs an own list: e first -/
def sSetIx (i : Nat) (k f : EF) : SF := fun env => match f env with
  | .ok d env1 => if owned env1 i = true then (match k env1 with
    | .ok (.int n) env2 => (match ownL env2 i with
      | some xs => (match ixN xs.length n with
        | some j => .nx (setOwn env2 i (xs.set j d))
        | none => .bad)
      | none => .bad)
    | .err c fs env2 => sErr c fs env2
    | _ => .bad) else .bad
  | .err c fs env1 => sErr c fs env1
  | .bad => .bad
theorem owned_some {env : Slots} {i : Nat} (h : owned env i = true) : ∃ xs, ownL env i = some xs := by
  unfold owned at h
  split at h
  · rename_i xs e; exact ⟨xs, by unfold ownL; rw [e]⟩
  · rename_i xs e; exact ⟨xs, by unfold ownL; rw [e]⟩
  · cases h
section
variable {X : Cx} {cl : Nat → Addr} {W : WX} {S : List Nat}
theorem s_app (i : Nat) {x : Str} {e : Expr} {f : EF} {p1 p2 p3 : Pos} (hp : PE X (.Call (.Attribute (.Name x p1) "append" p2) [e] [] p3) (tBM X.K "list" rAppend (tVar i) (tCons (tD cl X.K W f) tNil))) :
    SE X cl W (.Call (.Attribute (.Name x p1) "append" p2) [e] [] p3) (dApp i f) := by
  refine eImp hp fun σ H Q ⟨O, P, R, env, r, q⟩ => ?_
  unfold dApp at q
  by_cases ho : owned env i = true
  · rw [if_pos ho] at q
    obtain ⟨xs0, hx0⟩ := owned_some ho
    obtain ⟨p0, vs0, s0, _, _, hH0, _⟩ := ownL_at r hx0
    refine ⟨.ref p0, s0, .inl ⟨rfl, _, .inl (.inl hH0)⟩, ?_⟩
    show tCons (tD cl X.K W f) tNil σ H _
    refine Post.bind (f := f) r q fun d env1 v H1 r1 d1 q1 => ?_
    cases h3 : ownL env1 i with
    | none => rw [h3] at q1; exact q1.elim
    | some xs =>
      rw [h3] at q1
      replace q1 : Post cl X.K W O P R σ H1 Q (if xs.length < sizeLine then .ok .non (setOwn env1 i (xs ++ [d])) else .bad) := q1
      by_cases hl : xs.length < sizeLine
      · rw [if_pos hl] at q1
        obtain ⟨p, vs, s1, hO, hP, hH, hA⟩ := ownL_at r1 h3
        rw [s0] at s1; cases s1
        exact ⟨p0, vs, v, rfl, rfl, hH, by rw [hA.length]; exact hl, q1 _ _ (mv_upd hO hP hH) (r1.mut h3 s0 hH (hA.append (.cons d1 .nil)) hO) .non⟩
      · rw [if_neg hl] at q1; exact q1.elim
  · rw [if_neg ho] at q; exact q.elim
theorem ss_setIx (i : Nat) {x : Str} {e k : Expr} {f g : EF} {p1 p2 pos : Pos} (hp : PS X (.Assign [.Subscript (.Name x p1) k p2] e pos) (tAsg (tD cl X.K W f) (L2.gSub (tVar i) (tD cl X.K W g) rSetL))) :
    SS X cl W S (.Assign [.Subscript (.Name x p1) k p2] e pos) (sSetIx i g f) := by
  refine psImp hp fun De σ H ⟨O, P, R, env, r, h⟩ => ?_
  refine PostS.bind (S := S) (f := f) (k := fun d env1 => if owned env1 i = true then (match g env1 with
    | .ok (.int n) env2 => (match ownL env2 i with
      | some xs => (match ixN xs.length n with
        | some j => .nx (setOwn env2 i (xs.set j d))
        | none => .bad)
      | none => .bad)
    | .err c fs env2 => sErr c fs env2
    | _ => .bad) else .bad) r h fun d env1 v H1 r1 d1 h1 => ?_
  by_cases ho : owned env1 i = true
  · rw [if_pos ho] at h1
    obtain ⟨xs0, hx0⟩ := owned_some ho
    obtain ⟨p0, vs0, s0, _, _, hH0, _⟩ := ownL_at r1 hx0
    refine ⟨.ref p0, s0, ⟨O, P, R, env1, r1, ?_⟩⟩
    cases eg : g env1 with
    | ok n env2 =>
      rw [eg] at h1
      cases n with
      | int n =>
        intro u H2 m2 r2 d2
        have h2 := PostS.of_go r1 (Go.of_mv r2 m2) h1
        cases h3 : ownL env2 i with
        | none => simp only [h3] at h2; exact h2.elim
        | some xs =>
          simp only [h3] at h2
          obtain ⟨p, vs, s1, hO, hP, hH, hA⟩ := ownL_at r2 h3
          rw [s0] at s1; cases s1
          cases h4 : ixN xs.length n with
          | none => simp only [h4] at h2; exact h2.elim
          | some j =>
            simp only [h4] at h2
            rw [dr_int d2]
            refine ⟨p0, vs, n, j, rfl, rfl, hH, by rw [hA.length]; exact h4, ?_⟩
            have hw := hA.set j (d1.mono m2.cut)
            exact h2 O P σ _ (Go.of_mv (r2.mut h3 s0 hH hw hO) (mv_upd hO hP hH))
      | _ => exact h1.elim
    | err c fs env2 => rw [eg] at h1; exact err_out r1.dom h1
    | bad => rw [eg] at h1; exact h1.elim
  · rw [if_neg ho] at h1; exact h1.elim

/-! ### a list made as one's own -/
def PostN (cl : Nat → Addr) (K : PySem.W.Frag) (W : WX) (O P R : Addr → Bool) (σ : L2.St) (H : Hp) (Q : VK) : Res (List D) → Prop
  | .ok ds env' => ∀ p vs H', H p = none → H' p = some (.lst vs) → Mv O P R H H' → RelE cl K (or1 O p) P R env' σ H' → DrA cl K (cut H' (or1 O p)) vs ds → Q (.ref p) H'
  | .err c fs env' => dF W cl K O P R σ H c fs env'
  | .bad => False
def tN (cl : Nat → Addr) (K : PySem.W.Frag) (W : WX) (f : AF) : TE := fun σ H Q => ∃ O P R env, RelE cl K O P R env σ H ∧ PostN cl K W O P R σ H Q (f env)
abbrev SN (X : Cx) (cl : Nat → Addr) (W : WX) (e : Expr) (f : AF) : Prop := PE X e (tN cl X.K W f)
def nLst (f : AF) : AF := fun env => (f env).bind fun ds env1 => if ds.length ≤ sizeLine then .ok ds env1 else .bad
theorem cut_laid {H : Hp} {O : Addr → Bool} {p : Addr} {vs : List V} (hp : H p = none) : Same (cut H O) (cut (upd H p (.lst vs)) (or1 O p)) := cut_of fun a o h _ z => ⟨by
  unfold or1
  simp [h, ne_of_none z hp], same_new hp a o z⟩
theorem fresh_before {H H1 : Hp} {p : Addr} (al : ∀ a, H a ≠ none → H1 a ≠ none) (h : H1 p = none) : H p = none := by
  cases q : H p with
  | none => rfl
  | some o => exact absurd h (al p (by rw [q]; exact fun z => nomatch z))
theorem n_lst {es : List Expr} {f : AF} {pos : Pos} (h : SA X cl W es f) : SN X cl W (.List es pos) (nLst f) :=
  eImp (pe_lst h) fun σ H Q ⟨O, P, R, env, rel, q⟩ => ⟨O, P, R, env, rel, by
    unfold nLst at q
    cases e : f env with
    | ok ds env1 =>
      rw [e, Res.bind_ok] at q
      intro vs H1 m r1 d1
      by_cases hl : ds.length ≤ sizeLine
      · rw [if_pos hl] at q
        exact ⟨by rw [d1.length]; exact hl, fun p hp => q p vs _ (fresh_before m.al hp) upd_same (m.trans (Mv.same (same_new hp) r1.dom)) (r1.laidL hp) (d1.mono (cut_laid hp))⟩
      · rw [if_neg hl] at q; exact q.elim
    | err c fs env1 => rw [e] at q; exact q
    | bad => rw [e] at q; exact q⟩
/-- x = a list of one's own -/
def sOwn (i : Nat) (f : AF) : SF := fun env => match f env with
  | .ok ds env1 => if i < env1.length then .nx (env1.set i (.ow ds)) else .bad
  | .err c fs env1 => sErr c fs env1
  | .bad => .bad
theorem own_of {K : PySem.W.Frag} {O P R : Addr → Bool} {env : Slots} {σ : L2.St} {H H' : Hp} {p : Addr} {vs : List V} {ds : List D} (r0 : ∃ e0, RelE cl K O P R e0 σ H) (r : RelE cl K (or1 O p) P R env σ H') (hn : H p = none) (hH : H' p = some (.lst vs)) (hA : DrA cl K (cut H' (or1 O p)) vs ds) {i : Nat} (hi : i < env.length) :
    RelE cl K (or1 O p) (or1 P p) R (env.set i (.ow ds)) (σ.set i (some (.ref p))) H' := by
  obtain ⟨e0, r0⟩ := r0
  have oD : O p = false := r0.fresh hn
  have rD : R p = false := by cases q : R p with | false => rfl | true => rw [r0.subR _ q] at oD; cases oD
  have pD : P p = false := by cases q : P p with | false => rfl | true => rw [r0.subP _ q] at oD; cases oD
  have up : or1 P p p = true := by unfold or1; simp
  have ow' : ∀ {j : Nat}, j ≠ i → owned (env.set i (.ow ds)) j = true → owned env j = true := fun {j} hj q => by
    unfold owned at q ⊢
    rw [List.getElem?_set_ne (Ne.symm hj)] at q
    exact q
  have at_ : ∀ {j : Nat} {q : Addr}, owned env j = true → σ[j]? = some (some (V.ref q)) → q ≠ p := fun {j q} oj e z => by
    subst z
    obtain ⟨xs, hx⟩ := owned_some oj
    unfold ownL at hx
    split at hx
    · rename_i ys e1
      obtain ⟨p', vs', e2, e3, _⟩ := r.ow j _ e1
      rw [e] at e2; cases e2; rw [pD] at e3; cases e3
    · rename_i ys e1
      obtain ⟨p', vs', e2, e3, _⟩ := r.io j _ e1
      rw [e] at e2; cases e2; rw [rD] at e3; cases e3
    · cases hx
  refine ⟨by rw [List.length_set, List.length_set]; exact r.len, fun j d q => ?_, fun j us q => ?_, fun j us q => ?_, fun j k q h1 h2 e1 e2 => ?_, r.dom, fun a h => ?_, r.subR, fun a h => ?_⟩
  · rcases get_set q with ⟨_, z⟩ | ⟨z1, z⟩
    · cases z
    · obtain ⟨v, e1, e2⟩ := r.pu j d z; exact ⟨v, by rw [List.getElem?_set_ne (Ne.symm z1)]; exact e1, e2⟩
  · rcases get_set q with ⟨z, z2⟩ | ⟨z1, z⟩
    · cases z2; subst z
      exact ⟨p, vs, by rw [List.getElem?_set_self (by rw [r.len]; exact hi)], up, hH, hA⟩
    · obtain ⟨p', vs', e1, e2, e3⟩ := r.ow j us z
      exact ⟨p', vs', by rw [List.getElem?_set_ne (Ne.symm z1)]; exact e1, or1_sub _ e2, e3⟩
  · rcases get_set q with ⟨z, z2⟩ | ⟨z1, z⟩
    · cases z2
    · obtain ⟨p', vs', e1, e2, e3⟩ := r.io j us z
      exact ⟨p', vs', by rw [List.getElem?_set_ne (Ne.symm z1)]; exact e1, e2, e3⟩
  · by_cases hj : j = i
    · by_cases hk : k = i
      · rw [hj, hk]
      · exfalso
        subst hj
        rw [List.getElem?_set_self (by rw [r.len]; exact hi)] at e1
        cases e1
        rw [List.getElem?_set_ne (Ne.symm hk)] at e2
        exact at_ (ow' hk h2) e2 rfl
    · by_cases hk : k = i
      · exfalso
        subst hk
        rw [List.getElem?_set_self (by rw [r.len]; exact hi)] at e2
        cases e2
        rw [List.getElem?_set_ne (Ne.symm hj)] at e1
        exact at_ (ow' hj h1) e1 rfl
      · rw [List.getElem?_set_ne (Ne.symm hj)] at e1
        rw [List.getElem?_set_ne (Ne.symm hk)] at e2
        exact r.inj j k q (ow' hj h1) (ow' hk h2) e1 e2
  · unfold or1 at h ⊢
    simp only [Bool.or_eq_true, beq_iff_eq] at h ⊢
    rcases h with h | h
    · exact .inl (r0.subP a h)
    · exact .inr h
  · unfold or1 at h
    simp only [Bool.or_eq_true, beq_iff_eq] at h
    rcases h with h | h
    · exact r.apart a h
    · rw [h]; exact rD
theorem ss_own (i : Nat) {x : Str} {e : Expr} {f : AF} {pos pos' : Pos} (hp : PS X (.Assign [.Name x pos'] e pos) (tAsg (tN cl X.K W f) (gName i))) (hd : S.contains i = false := by rfl) : SS X cl W S (.Assign [.Name x pos'] e pos) (sOwn i f) := by
  refine psImp hp fun De σ H ⟨O, P, R, env, r, h⟩ => ⟨O, P, R, env, r, ?_⟩
  unfold sOwn at h
  cases ef : f env with
  | ok ds env1 =>
    rw [ef] at h
    intro p vs H' hn hH m r1 hA
    by_cases hi : i < env1.length
    · simp only [hi, if_true] at h
      have oD : O p = false := r.fresh hn
      have pD : P p = false := by cases q : P p with | false => rfl | true => rw [r.subP _ q] at oD; cases oD
      refine h _ _ _ H' ⟨own_of ⟨env, r⟩ r1 hn hH hA hi, or1_sub, or1_sub, ?_, fun a z => ?_, m.keep, m.al, m.frn, m.tab, IoK.set hd⟩
      · funext a
        unfold fgn or1
        by_cases e : a = p
        · subst e; simp [oD]
        · have : (a == p) = false := by simpa using e
          simp [this]
      · unfold or1 at z
        simp only [Bool.or_eq_true, beq_iff_eq] at z
        rcases z with z | z
        · exact .inl z
        · exact .inr (by rw [z]; exact hn)
    · simp only [hi, if_false] at h; exact h.elim
  | err c fs env1 => rw [ef] at h; exact err_out r.dom h
  | bad => rw [ef] at h; exact h
end
end DL

end
section
namespace DL
open PySem PySem.Spec L2

/-! ### lists of one's own, read -/
mutual
def noL : D → Bool
  | .lst _ => false
  | .fz _ => false
  | .tup xs => noLs xs
  | .dk _ xs => noLs xs
  | .obj _ fs => noLf fs
  | .non => true
  | .bl _ => true
  | .int _ => true
  | .str _ => true
def noLs : List D → Bool
  | [] => true
  | d :: ds => noL d && noLs ds
def noLf : List (Str × D) → Bool
  | [] => true
  | (_, d) :: ds => noL d && noLf ds
end
section
variable {cl : Nat → Addr} {K : PySem.W.Frag} {H : Hp} {O O' : Addr → Bool}
theorem cut_other (dm : Dom O H) {a : Addr} {o : HO} (h : cut H O' a = some o) (ne : ∀ xs, o ≠ .lst xs) : cut H O a = some o := by
  obtain ⟨_, h2, h3⟩ := cut_inv h
  refine cut_ge h2 ?_ h3
  cases q : O a with
  | false => rfl
  | true =>
    obtain ⟨vs, e⟩ := dm a q
    rw [h2] at e; cases e; exact absurd rfl (ne vs)
theorem sqT_other (dm : Dom O H) {a : Addr} {xs : List V} (h : SqT K (cut H O') a xs) : SqT K (cut H O) a xs := by
  rcases h with h | h
  · rcases h with h | ⟨o, h⟩
    · exact .inl (.inl (cut_other dm h (fun _ z => nomatch z)))
    · exact .inl (.inr ⟨o, cut_other dm h (fun _ z => nomatch z)⟩)
  · exact .inr h
mutual
theorem Dr.other (dm : Dom O H) : ∀ {v : V} {d : D}, noL d = true → Dr cl K (cut H O') v d → Dr cl K (cut H O) v d
  | _, _, _, .non => .non
  | _, _, _, .bl b => .bl b
  | _, _, _, .int i => .int i
  | _, _, _, .str x => .str x
  | _, _, n, .lst h r => nomatch n
  | _, _, n, .fz h r => nomatch n
  | _, _, n, .dk h l r => .dk (cut_other dm h (fun _ z => nomatch z)) l (DrA.other dm n r)
  | _, _, n, .tup h r => .tup (sqT_other dm h) (DrA.other dm n r)
  | _, _, n, .obj h r => .obj (cut_other dm h (fun _ z => nomatch z)) (DrF.other dm n r)
  | _, _, _, .ex0 h => .ex0 (cut_other dm h (fun _ z => by unfold excH at z; cases z))
  | _, _, n, .ex1 h g r => .ex1 (cut_other dm h (fun _ z => by unfold excH at z; cases z)) (cut_other dm g (fun _ z => nomatch z)) (DrF.other dm n r)
theorem DrA.other (dm : Dom O H) : ∀ {vs : List V} {ds : List D}, noLs ds = true → DrA cl K (cut H O') vs ds → DrA cl K (cut H O) vs ds
  | [], [], _, .nil => .nil
  | _ :: _, d :: ds, n, .cons h r => by
    have n' : (noL d && noLs ds) = true := n
    rw [Bool.and_eq_true] at n'
    exact .cons (Dr.other dm n'.1 h) (DrA.other dm n'.2 r)
theorem DrF.other (dm : Dom O H) : ∀ {vs : List (Str × V)} {ds : List (Str × D)}, noLf ds = true → DrF cl K (cut H O') vs ds → DrF cl K (cut H O) vs ds
  | [], [], _, .nil => .nil
  | _ :: _, (_, d) :: ds, n, .cons h r => by
    have n' : (noL d && noLf ds) = true := n
    rw [Bool.and_eq_true] at n'
    exact .cons (Dr.other dm n'.1 h) (DrF.other dm n'.2 r)
end
end
def slNoL : Sl → Bool
  | .ow xs => noLs xs
  | .io xs => noLs xs
  | _ => true
/-- what changes no list -/
structure Rds (f : EF) : Prop where
  ok : ∀ env d env1, f env = .ok d env1 → env1 = env
structure RdsA (f : AF) : Prop where
  ok : ∀ env d env1, f env = .ok d env1 → env1 = env
theorem rds_var (i : Nat) : Rds (dVar i) := ⟨fun env d env1 h => by
  unfold dVar at h
  split at h
  · cases h; rfl
  · cases h⟩
theorem rds_c (d : D) : Rds (dC d) := ⟨fun env d env1 h => by cases h; rfl⟩
theorem rds_op {g : D → D → Option D} {a b : EF} (ha : Rds a) (hb : Rds b) : Rds (dOp g a b) := ⟨fun env d env1 h => by
  unfold dOp at h
  cases e1 : a env with
  | ok x env2 =>
    rw [e1, Res.bind_ok] at h
    cases e2 : b env2 with
    | ok y env3 =>
      rw [e2, Res.bind_ok] at h
      cases e3 : g x y with
      | some z => rw [e3] at h; cases h; rw [hb.ok _ _ _ e2, ha.ok _ _ _ e1]
      | none => rw [e3] at h; cases h
    | err => rw [e2] at h; cases h
    | bad => rw [e2] at h; cases h
  | err => rw [e1] at h; cases h
  | bad => rw [e1] at h; cases h⟩
theorem rds_nil : RdsA dNil := ⟨fun env d env1 h => by cases h; rfl⟩
theorem rds_cons {a : EF} {b : AF} (ha : Rds a) (hb : RdsA b) : RdsA (dCons a b) := ⟨fun env d env1 h => by
  unfold dCons at h
  cases e1 : a env with
  | ok x env2 =>
    rw [e1, Res.bind_ok] at h
    cases e2 : b env2 with
    | ok y env3 => rw [e2, Res.bind_ok] at h; cases h; rw [hb.ok _ _ _ e2, ha.ok _ _ _ e1]
    | err => rw [e2] at h; cases h
    | bad => rw [e2] at h; cases h
  | err => rw [e1] at h; cases h
  | bad => rw [e1] at h; cases h⟩
theorem rds_cb {g : List D → Option D} {a : AF} (ha : RdsA a) : Rds (dCB g a) := ⟨fun env d env1 h => by
  unfold dCB at h
  cases e1 : a env with
  | ok x env2 =>
    rw [e1, Res.bind_ok] at h
    cases e3 : g x with
    | some z => rw [e3] at h; cases h; rw [ha.ok _ _ _ e1]
    | none => rw [e3] at h; cases h
  | err => rw [e1] at h; cases h
  | bad => rw [e1] at h; cases h⟩

/-- the list at i taken for data as long as f is read -/
def dFrz (i : Nat) (f : EF) : EF := fun env => match ownL env i with
  | none => f env
  | some xs => if env.all slNoL = true then (match f (env.set i (.pu (.lst xs))) with
    | .ok d _ => if noL d = true then .ok d env else .bad
    | _ => .bad) else .bad
section
variable {X : Cx} {cl : Nat → Addr} {W : WX}
theorem all_at {env : Slots} (h : env.all slNoL = true) {i : Nat} {s : Sl} (e : env[i]? = some s) : slNoL s = true := List.all_eq_true.mp h s (List.mem_of_getElem? e)
theorem frz_rel {K : PySem.W.Frag} {O P R : Addr → Bool} {env : Slots} {σ : L2.St} {H : Hp} (r : RelE cl K O P R env σ H) {i : Nat} {xs : List D} (h : ownL env i = some xs) :
    ∃ p, (P p = true ∨ R p = true) ∧ O p = true ∧ RelE cl K (fun a => O a && !(a == p)) (fun a => P a && !(a == p)) (fun a => R a && !(a == p)) (env.set i (.pu (.lst xs))) σ H ∧
      ∀ H1, Mv (fun a => O a && !(a == p)) (fun a => P a && !(a == p)) (fun a => R a && !(a == p)) H H1 → RelE cl K (fun a => O a && !(a == p)) (fun a => P a && !(a == p)) (fun a => R a && !(a == p)) (env.set i (.pu (.lst xs))) σ H1 → env.all slNoL = true →
        Mv O P R H H1 ∧ RelE cl K O P R env σ H1 := by
  obtain ⟨p, vs, hs, hO, hP, hH, hA⟩ := ownL_at r h
  have oi := ownL_owned h
  have sb : ∀ {F : Addr → Bool} {a : Addr}, (F a && !(a == p)) = true → F a = true := fun {F a} z => (Bool.and_eq_true _ _ ▸ z).1
  have c : Same (cut H O) (cut H fun a => O a && !(a == p)) := cut_sub fun a z => sb (F := O) z
  have ne : ∀ {j : Nat} {q : Addr}, j ≠ i → owned env j = true → σ[j]? = some (some (V.ref q)) → q ≠ p := fun {j q} hj oj e z => hj (r.inj j i p oj oi (by rw [← z]; exact e) hs)
  have own_ow : ∀ {j : Nat} {zs : List D}, env[j]? = some (.ow zs) → owned env j = true := fun {j zs} e => by unfold owned; rw [e]
  have own_io : ∀ {j : Nat} {zs : List D}, env[j]? = some (.io zs) → owned env j = true := fun {j zs} e => by unfold owned; rw [e]
  have mk : ∀ {F : Addr → Bool} {a : Addr}, F a = true → a ≠ p → (F a && !(a == p)) = true := fun {F a} z n => by rw [z]; simp [n]
  have ow' : ∀ {j : Nat}, owned (env.set i (.pu (.lst xs))) j = true → owned env j = true := fun {j} q => by
    unfold owned at q
    cases q2 : (env.set i (.pu (.lst xs)))[j]? with
    | none => rw [q2] at q; cases q
    | some s =>
      rcases get_set q2 with ⟨_, z⟩ | ⟨_, z⟩
      · rw [q2, ← z] at q; cases q
      · rw [q2] at q; unfold owned; rw [z]; exact q
  refine ⟨p, hP, hO, ⟨by rw [List.length_set]; exact r.len, fun j d q => ?_, fun j us q => ?_, fun j us q => ?_, fun j k q h1 h2 e1 e2 => r.inj j k q (ow' h1) (ow' h2) e1 e2, fun a z => r.dom a (sb (F := O) z), fun a z => ?_, fun a z => ?_, fun a z => ?_⟩, fun H1 m r1 al => ?_⟩
  · rcases get_set q with ⟨z, z2⟩ | ⟨_, z⟩
    · cases z2; subst z
      exact ⟨.ref p, hs, .lst (cut_ge hH (by simp)) (hA.mono c)⟩
    · obtain ⟨v, e1, e2⟩ := r.pu j d z; exact ⟨v, e1, e2.mono c⟩
  · rcases get_set q with ⟨_, z⟩ | ⟨z1, z⟩
    · cases z
    · obtain ⟨p', vs', e1, e2, e3, e4⟩ := r.ow j us z; exact ⟨p', vs', e1, mk (F := P) e2 (ne z1 (own_ow z) e1), e3, e4.mono c⟩
  · rcases get_set q with ⟨_, z⟩ | ⟨z1, z⟩
    · cases z
    · obtain ⟨p', vs', e1, e2, e3, e4⟩ := r.io j us z; exact ⟨p', vs', e1, mk (F := R) e2 (ne z1 (own_io z) e1), e3, e4.mono c⟩
  · rw [Bool.and_eq_true] at z ⊢; exact ⟨r.subP a z.1, z.2⟩
  · rw [Bool.and_eq_true] at z ⊢; exact ⟨r.subR a z.1, z.2⟩
  · have := r.apart a (sb (F := P) z); rw [this]; rfl
  · have mv : Mv O P R H H1 := ⟨fun a o h1 n h2 => m.keep a o (by rw [h1]; rfl) n h2, m.al, fun a h1 h2 h3 => m.frn a (mk (F := O) h1 (fun z => by
        subst z
        rcases hP with y | y
        · rw [y] at h2; cases h2
        · rw [y] at h3; cases h3)) (by rw [h2]; rfl) (by rw [h3]; rfl), m.tab⟩
    have hp1 : H1 p = some (.lst vs) := m.keep p _ (by simp) rfl hH
    have dm : Dom O H1 := fun a z => by
      by_cases e : a = p
      · subst e; exact ⟨vs, hp1⟩
      · exact r1.dom a (mk (F := O) z e)
    refine ⟨mv, ⟨r.len, fun j d q => ?_, fun j us q => ?_, fun j us q => ?_, r.inj, dm, r.subP, r.subR, r.apart⟩⟩
    · obtain ⟨v, e1, e2⟩ := r.pu j d q; exact ⟨v, e1, e2.mono mv.cut⟩
    · by_cases e : j = i
      · obtain ⟨p', vs', e1, e2, e3, e4⟩ := r.ow j us q
        subst e
        rw [hs] at e1; cases e1
        rw [hH] at e3; cases e3
        exact ⟨p, vs, hs, e2, hp1, e4.mono mv.cut⟩
      · obtain ⟨p', vs', e1, e2, e3, e4⟩ := r1.ow j us (by rw [List.getElem?_set_ne (Ne.symm e)]; exact q)
        exact ⟨p', vs', e1, sb (F := P) e2, e3, e4.other dm (all_at al q)⟩
    · by_cases e : j = i
      · obtain ⟨p', vs', e1, e2, e3, e4⟩ := r.io j us q
        subst e
        rw [hs] at e1; cases e1
        rw [hH] at e3; cases e3
        exact ⟨p, vs, hs, e2, hp1, e4.mono mv.cut⟩
      · obtain ⟨p', vs', e1, e2, e3, e4⟩ := r1.io j us (by rw [List.getElem?_set_ne (Ne.symm e)]; exact q)
        exact ⟨p', vs', e1, sb (F := R) e2, e3, e4.other dm (all_at al q)⟩
theorem s_frz (i : Nat) {e : Expr} {f : EF} (rd : Rds f) (h : SE X cl W e f) : SE X cl W e (dFrz i f) :=
  eImp h fun σ H Q ⟨O, P, R, env, r, q⟩ => by
    unfold dFrz at q
    cases eo : ownL env i with
    | none => rw [eo] at q; exact ⟨O, P, R, env, r, q⟩
    | some xs =>
      rw [eo] at q
      by_cases al : env.all slNoL = true
      · simp only [al, if_true] at q
        obtain ⟨p, hP, hO, r', back⟩ := frz_rel r eo
        refine ⟨_, _, _, _, r', ?_⟩
        cases ef : f (env.set i (.pu (.lst xs))) with
        | ok d env1 =>
          rw [ef] at q
          obtain rfl := rd.ok _ _ _ ef
          by_cases nd : noL d = true
          · simp only [nd, if_true] at q
            intro v H1 m r1 d1
            obtain ⟨mv, rr⟩ := back H1 m r1 al
            exact q v H1 mv rr (d1.other rr.dom nd)
          · simp only [nd] at q; exact q.elim
        | err c fs env1 => rw [ef] at q; exact q.elim
        | bad => rw [ef] at q; exact q.elim
      · simp only [al] at q; exact q.elim
/-- a test upon it -/
theorem b_frz (i : Nat) {e : Expr} {f : EF} (rd : Rds f) (h : SB X cl W e f) : SB X cl W e (dFrz i f) :=
  tImp h fun σ H Q ⟨O, P, R, env, r, q⟩ => by
    unfold dFrz at q
    cases eo : ownL env i with
    | none => rw [eo] at q; exact ⟨O, P, R, env, r, q⟩
    | some xs =>
      rw [eo] at q
      by_cases al : env.all slNoL = true
      · simp only [al, if_true] at q
        obtain ⟨p, hP, hO, r', back⟩ := frz_rel r eo
        refine ⟨_, _, _, _, r', ?_⟩
        cases ef : f (env.set i (.pu (.lst xs))) with
        | ok d env1 =>
          rw [ef] at q
          obtain rfl := rd.ok _ _ _ ef
          by_cases nd : noL d = true
          · simp only [nd, if_true] at q
            cases d with
            | bl b =>
              intro H1 m r1
              obtain ⟨mv, rr⟩ := back H1 m r1 al
              exact q H1 mv rr
            | _ => exact q.elim
          · simp only [nd] at q; exact q.elim
        | err c fs env1 => rw [ef] at q; exact q.elim
        | bad => rw [ef] at q; exact q.elim
      · simp only [al] at q; exact q.elim

/-! ### fresh lists -/
def nComp (w : AF) (g : Tg) (t e : EF) (vs : List Nat) : AF := fun env => (w env).bind fun items env1 => if vs.all (isUn env1) = true then compGo g t e vs items [] env1 else .bad
theorem compN_post {K : PySem.W.Frag} {w : AF} {g : Tg} {g' : TG} {t e : EF} {vs T : List Nat} (hT : ∀ i ∈ T, i ∈ vs) (ok : TgOk cl K T g g') (σ : L2.St) (H : Hp) (Q : VK) :
    tN cl K W (nComp w g t e vs) σ H Q → tLc (tWk cl K W w) g' (tDT cl K W0 t) (tD cl K W0 e) vs σ H Q := fun ⟨O, P, R, env, rel, q⟩ => by
  refine ⟨O, P, R, env, rel, ?_⟩
  unfold nComp at q
  cases ew : w env with
  | ok items env1 =>
    rw [ew, Res.bind_ok] at q
    intro J H1 m r1 wk Da hD
    by_cases hu : vs.all (isUn env1) = true
    · rw [if_pos hu] at q
      refine comp_turns hT ok wk r1 (fun v hv => List.all_eq_true.mp hu v hv) hD ?_
      cases ec : compGo g t e vs items [] env1 with
      | ok acc env2 =>
        rw [ec] at q
        intro H2 ws r2 m2 hd ha
        exact q Da ws H2 (fresh_before m.al hD) hd (m.trans m2) r2 ha
      | err c fs env2 => exact absurd ec (compGo_noerr _ _ _)
      | bad => rw [ec] at q; exact q.elim
    · rw [if_neg hu] at q; exact q.elim
  | err c fs env1 => rw [ew] at q; exact q
  | bad => rw [ew] at q; exact q
theorem n_comp (own : List (Str × Nat)) {T : List Nat} {elt tg iter : Expr} {ifs : List Expr} {scope : Scope} {pos : Pos} {w : AF} {g : Tg} {g' : TG} {t e : EF} (hc : X.calm = true) (hN : X.N.Nodup) (hi : SI X cl W tg iter w) (ok : blkC X.N X.env.scope scope own = true)
    (gk : TgOk cl X.K T g g') (hg : ∀ (s : Shared) (H : Hp) (C : Addr) (c2 : List (Str × Addr)) (fp : List Addr), PG (Blk X scope s H C c2 fp) tg g')
    (ht : ∀ (s : Shared) (H : Hp) (C : Addr) (c2 : List (Str × Addr)) (fp : List Addr), PTs (Blk X scope s H C c2 fp) ifs (tDT cl X.K W0 t))
    (he : ∀ (s : Shared) (H : Hp) (C : Addr) (c2 : List (Str × Addr)) (fp : List Addr), SE (Blk X scope s H C c2 fp) cl W0 elt e) (hT : ∀ i ∈ T, i ∈ own.map (·.2) := by decide) (hs : ∀ x, foldedSetIterable iter X.env x = pure x := by intro _; rfl) :
    SN X cl W (.ListComp elt [⟨tg, iter, ifs, 0⟩] scope pos) (nComp w g t e (own.map (·.2))) :=
  eImp (pe_lc hc hN hi (blkOk_by ok) hg ht he hs) (compN_post hT gk)
def nCat (a b : EF) : AF := fun env => (a env).bind fun x env1 => (b env1).bind fun y env2 => match x, y with
  | .lst xs, .lst ys => if xs.length + ys.length ≤ sizeLine then .ok (xs ++ ys) env2 else .bad
  | _, _ => .bad
theorem n_cat {a b : Expr} {fa fb : EF} {pos : Pos} (ha : SE X cl W a fa) (hb : SE X cl W b fb) : SN X cl W (.BinOp a .Add b pos) (nCat fa fb) :=
  eImp (pe_op op_cat ha hb) fun σ H Q ⟨O, P, R, env, rel, q⟩ => by
    unfold nCat at q
    refine ⟨O, P, R, env, rel, ?_⟩
    cases e1 : fa env with
    | ok dx env1 =>
      rw [e1, Res.bind_ok] at q
      intro x H1 m1 r1 d1
      refine ⟨O, P, R, env1, r1, ?_⟩
      cases e2 : fb env1 with
      | ok dy env2 =>
        rw [e2, Res.bind_ok] at q
        intro y H2 m2 r2 d2
        have d1' := d1.mono m2.cut
        cases dx with
        | lst xs =>
          cases dy with
          | lst ys =>
            obtain ⟨a, vs, rfl, hs, a1⟩ := dr_lst d1'
            obtain ⟨b, ws, rfl, ht, a2⟩ := dr_lst d2
            have l1 := a1.length
            have l2 := a2.length
            replace q : PostN cl X.K W O P R σ H Q (if xs.length + ys.length ≤ sizeLine then .ok (xs ++ ys) env2 else .bad) := q
            by_cases hl : xs.length + ys.length ≤ sizeLine
            · rw [if_pos hl] at q
              exact ⟨a, b, vs, ws, rfl, rfl, cut_le _ _ hs, cut_le _ _ ht, by omega, fun p hp => q p _ _ (fresh_before m1.al (fresh_before m2.al hp)) upd_same ((m1.trans m2).trans (Mv.same (same_new hp) r2.dom)) (r2.laidL hp) ((a1.append a2).mono (cut_laid hp))⟩
            · rw [if_neg hl] at q; exact q.elim
          | _ => exact q.elim
        | _ => exact q.elim
      | err c fs env2 => rw [e2] at q; exact fun od H' m' => q od H' (m1.trans m')
      | bad => rw [e2] at q; exact q.elim
    | err c fs env1 => rw [e1] at q; exact q
    | bad => rw [e1] at q; exact q.elim
end
end DL

end
section
/-! own errors made by keyword: X(given=v) -/
namespace PySem
namespace DLX
open PySem.W PySem.Calls PyProof.Rows PySem.HandSPX Builtin
section
variable {M : Model} {A : Around} {E : Value → Shared → Prop} {hp : Heap} {gn : Array GenState} {dr : Drawn} {tt : Nat} {os : OsState}
variable {nm qn : Str} {C N : Addr} {bs bt bmB : List Value} {hd : Bool} {sn : List Str} {sb : List Value} {ab : Bool} {cl : Option Bool} {dd : Option Addr} {k0 k1 k2 k3 k5 : Option Value} {B nI iI : String}
theorem kw_check (XF : ExcBaseFacts B nI iI bmB) (tl : ∀ Z : String, bt.contains (.type Z) = bmB.contains (.type Z)) {kws : List (Str × Value)} {Q : Unit → Shared → Prop}
    (oC : hp.get? C = some (excClassObj nm qn C N bs bt hd sn sb ab cl dd k0 k1 k2 k3 k5 nI)) (q : Q () ⟨hp, gn, dr, tt, os⟩) : wpAny M A (checkBuiltinCall nI ⟨[.ref C], kws⟩) Q E ⟨hp, gn, dr, tt, os⟩ := by
  have c1 : (Value.ref C :: bt).contains (.type B) = true := by rw [List.contains_cons, tl, XF.hasB, Bool.or_true]
  have c2 := XF.noStar
  simp only [checkBuiltinCall, XF.newKind, XF.newSplit, XF.newRow]
  repeat (first | refine wpAny_loadPart_at oC ?_ | (refine wpAny_isSubtype_exc oC ?_; rw [c1]) | refine wpAny_staticBase_exc oC ?_ | refine wpAny_madeBy_exc oC ?_ | simp only [bne_self_eq_false, Bool.false_eq_true, if_false] | wp_step)
  exact q
end
section
variable {prog : Program} {w : World} {A : Around} {E : Value → Shared → Prop} {R : Result → Shared → Prop} {hp : Heap} {gn : Array GenState} {dr : Drawn} {tt : Nat} {os : OsState}
variable {nm qn : Str} {C N : Addr} {bs bt bmB : List Value} {hd : Bool} {sn : List Str} {sb : List Value} {ab : Bool} {cl : Option Bool} {dd : Option Addr} {k0 k1 k2 k3 k5 : Option Value} {B nI iI : String}
theorem kw_new (XF : ExcBaseFacts B nI iI bmB) (tl : ∀ Z : String, bt.contains (.type Z) = bmB.contains (.type Z)) {kws : List (Str × Value)}
    (oC : hp.get? C = some (excClassObj nm qn C N bs bt hd sn sb ab cl dd k0 k1 k2 k3 k5 nI))
    (q : R (.ok (.ret (.ref (hp.objs.size + 1)))) ⟨(hp.push (kdv_tup [])).push (excO C hp.objs.size), gn, dr, tt, os⟩) :
    codeAny (model prog w) A (.builtin nI ⟨[.ref C], kws⟩) R ⟨hp, gn, dr, tt, os⟩ := by
  have c0 := XF.ends
  have c1 : (Value.ref C :: bt).contains (.type B) = true := by rw [List.contains_cons, tl, XF.hasB, Bool.or_true]
  have c2 : (Value.ref C :: bt).contains (.type "AttributeError") = false := by rw [List.contains_cons, tl, XF.noAttr]; rfl
  have c3 : (Value.ref C :: bt).contains (.type "NameError") = false := by rw [List.contains_cons, tl, XF.noName]; rfl
  refine codeAny_builtinAt XF.entry ?_
  unfold Builtin.«BaseException.__new__»
  refine wpAt_bind ?_
  show wpAt _ _ _ (stack >>= _) _ _ _
  refine wpAt_bind (wpAt_stack fun _ _ => wpAt_of_wpAny ?_)
  wp_walk
  refine wpAt_of_wpAny ?_
  rw [XF.owner]
  repeat (first | with_reducible refine wpAny_madeHere_exc XF.canon oC ?_ | with_reducible refine wpAny_loadPart_at oC ?_ | (with_reducible refine wpAny_isSubtype_exc oC ?_; first | rw [c1] | rw [c2] | rw [c3]) | wp_step)
  show R _ _
  rw [Heap.size_push]
  exact q
theorem kw_type (XF : ExcBaseFacts B nI iI bmB) (tl : ∀ Z : String, bt.contains (.type Z) = bmB.contains (.type Z)) {kws : List (Str × Value)} {fI : Addr} {Q : Fin → Shared → Prop}
    (oC : hp.get? C = some (excClassObj nm qn C N bs bt hd sn sb ab cl dd k0 k1 k2 k3 k5 nI))
    (li : Looks (model prog w) hp (typeLookup (.ref C) "__init__") (some (.ref fI))) (bi : ∀ x, Looks (model prog w) hp (bindSpecial (.ref fI) x) (.ref fI, [x]))
    (q : codeAny (model prog w) A (.call (.ref fI) ⟨[.ref (hp.objs.size + 1)], kws⟩)
      (fun r u => match r with | .ok (.ret v) => v = .none ∧ Q (.done (.ret (.ref (hp.objs.size + 1)))) u | .ok _ => False | .error z => E z u)
      ⟨(hp.push (kdv_tup [])).push (excO C hp.objs.size), gn, dr, tt, os⟩) :
    wpAny (model prog w) A (Builtin.«type.__call__» ⟨[.ref C], kws⟩) Q E ⟨hp, gn, dr, tt, os⟩ := by
  repeat (first | with_reducible refine wpAny_loadPart_at oC ?_ | with_reducible refine wpAny_madeBy_exc oC ?_ | wp_step)
  refine codeAny_call_builtin_code (Code.quiet_builtin _ XF.quiet) (kw_check XF tl oC ?_)
  refine kw_new XF tl oC ?_
  show wpAny _ _ _ _ _ _
  have kp : ∀ b o, hp.get? b = some o → ((hp.push (kdv_tup [])).push (excO C hp.objs.size)).get? b = some o := fun b o z => Heap.get?_push_of_some _ (Heap.get?_push_of_some _ z)
  have oC1 := kp _ _ oC
  have gx : ((hp.push (kdv_tup [])).push (excO C hp.objs.size)).get? (hp.objs.size + 1) = some (excO C hp.objs.size) := by heap_get
  have cC : (Value.ref C :: bt).contains (.ref C) = true := by simp
  have l1 := li.keeps kp
  have l2 := (bi (.ref (hp.objs.size + 1))).keeps kp
  unfold isInstance
  repeat (first | with_reducible refine wpAny_loadPart_at gx ?_ | (with_reducible refine wpAny_isSubtype_exc oC1 ?_; rw [cC]) | wp_step)
  show wpAny _ _ (typeLookup (.ref C) _) _ _ _
  refine l1.at (wpAny_holding (wpAny_bind (l2.at (wpAny_bind (wpAny_call (codeAny_mono q fun r u z => ?_))))))
  rcases r with _ | (_ | _ | _ | _) <;> first | exact z | exact z.elim | skip
  obtain ⟨rfl, z⟩ := z
  first
    | exact wpAny_pure (wpAny_pure z)
    | (wp_walk; exact z)
theorem kw_call (XF : ExcBaseFacts B nI iI bmB) (tl : ∀ Z : String, bt.contains (.type Z) = bmB.contains (.type Z)) {kws : List (Str × Value)} {fI : Addr}
    (oC : hp.get? C = some (excClassObj nm qn C N bs bt hd sn sb ab cl dd k0 k1 k2 k3 k5 nI))
    (li : Looks (model prog w) hp (typeLookup (.ref C) "__init__") (some (.ref fI))) (bi : ∀ x, Looks (model prog w) hp (bindSpecial (.ref fI) x) (.ref fI, [x]))
    (q : codeAny (model prog w) (A.under (.builtin "type.__call__" ⟨[.ref C], kws⟩)) (.call (.ref fI) ⟨[.ref (hp.objs.size + 1)], kws⟩) (InitBack (hp.objs.size + 1) R)
      ⟨(hp.push (kdv_tup [])).push (excO C hp.objs.size), gn, dr, tt, os⟩) :
    codeAny (model prog w) A (.call (.ref C) ⟨[], kws⟩) R ⟨hp, gn, dr, tt, os⟩ := by
  have t1 := tc_lookup
  have t2 := tc_bind (.ref C)
  have t3 : (⟨hp, gn, dr, tt, os⟩ : Shared).TypeIs (.ref C) "type" := ⟨_, oC, rfl⟩
  refine codeAny_of_tree ?_
  show wpAny _ _ (callAny (.ref C) _) _ _ _
  repeat (any_goals (first | assumption | with_reducible refine wpAny_loadPart_at oC ?_ | wp_step))
  refine ⟨rfl, ?_⟩
  refine codeAny_call_builtin_at (Code.quiet_builtin _ (by decide +kernel)) entry_typeCall (wpAny_check_type_call_sub oC (kw_type XF tl oC li bi ?_))
  refine codeAny_mono q fun r u z => ?_
  rcases r with _ | (_ | _ | _ | _) <;> exact z
end
end DLX
end PySem

end
section
namespace PySem
namespace DLX
open PySem.W PySem.Calls PyProof.Rows PySem.HandSPX Builtin Builtin.ObjectAttr
section
variable {prog : Program} {w : World} {A : Around} {E : Value → Shared → Prop} {R : Result → Shared → Prop} {s : Shared} {K : Frag} {C fI : Addr} {bmB : List Value} {B newId initId : String} {qual : Str}
theorem initK_given (XB : XBase bmB B newId initId) (T : XTxt K bmB newId C) (O : XOne K C fI "given" qual) {x t0 : Addr} {v : Value} (X : K.In s.heap) (hlim : s.heap.NoLimit) (hx : s.heap.get? x = some (excO C t0)) (hroom : A.depth < recursionLimit)
    (fin : ∀ h' tk dx, InitEnd s.heap h' x C dx t0 "given" v → R (.ok (.ret .none)) { s with heap := h', toks := tk }) :
    codeAny (model prog w) A (.call (.ref fI) ⟨[.ref x], [("given", v)]⟩) R s := by
  obtain ⟨oc, od, doc, pm, an, cdv, ct, osl, p1, p2, q1, q2, q3, q4, ho, hcd⟩ := O.fn
  obtain ⟨nm, q, N, bs, bm, sn, sub, ab, col, dd, k0, k1, k2, k3, k5, hC, hbm⟩ := T.cls
  have hcl := clsIn_of hC
  refine Att.call_fn (binds := [("self", .ref x), ("given", v)]) X hlim ho hcd hroom (BindsTo.of_eq (by first | rfl | with_unfolding_all rfl)) (by first | rfl | decide | with_unfolding_all rfl) (fun s₁ IC => ?_) rfl rfl rfl
  obtain ⟨h₁, tk₁, rfl⟩ := IC.toInCall.same
  have old : ∀ b o, s.heap.get? b = some o → h₁.get? b = some o := IC.toInCall.keep
  have hn := IC.toInCall.ns
  have hx₁ := old _ _ hx
  show wpAny _ _ (execs _ _) _ _ _
  refine wpAny_execs_cons (plainObj_wpAny_Assign_Attribute ?_)
  refine ldL (v := v) hn (by first | rfl | with_unfolding_all rfl | kernel_rfl) (ldL (v := .ref x) hn (by first | rfl | with_unfolding_all rfl | kernel_rfl) ?_ rfl rfl (by decide)) rfl rfl (by decide)
  refine set_plain (X.keeps old) (ox := excO C t0) (od := none) ⟨hx₁, rfl, rfl, trivial⟩ T.sa ?_
  refine xstore XB.pass XB.hasO XB.ne (X.keeps old) hx₁ hcl (show excTail bmB (.ref C :: bm) = true from hbm) rfl O.noN fun h₃ tk₃ dx k₃ dn dne hx₃ hn₃ => ?_
  show wpAny _ _ (execs _ _) _ _ _
  have z : s.heap.objs.size < h₁.objs.size := hn.lt
  exact wpAny_execs_nil (fin h₃ tk₃ dx ⟨fun b o hb e => k₃ b o hb (old b o e), hx₃, Nat.le_of_lt (Nat.lt_of_lt_of_le z dn), dne, hn₃⟩)
theorem madeK_given (XB : XBase bmB B newId initId) (T : XTxt K bmB newId C) (O : XOne K C fI "given" qual) {v : Value} (X : K.In s.heap) (hlim : s.heap.NoLimit) (hroom : A.depth + 1 < recursionLimit)
    (fin : ∀ h' tk e d, OwnMade s.heap h' e C d "given" v → R (.ok (.ret (.ref e))) { s with heap := h', toks := tk }) :
    codeAny (model prog w) A (.call (.ref C) ⟨[], [("given", v)]⟩) R s := by
  obtain ⟨nm, q, N, bs, bm, sn, sub, ab, col, dd, k0, k1, k2, k3, k5, hC, hbm⟩ := T.cls
  obtain ⟨hp, g, dr, tk, os⟩ := s
  have k : ∀ b o, hp.get? b = some o → ((hp.push (kdv_tup [])).push (excO C hp.objs.size)).get? b = some o := fun b o e => Heap.get?_push_of_some _ (Heap.get?_push_of_some _ e)
  have hget : ((hp.push (kdv_tup [])).push (excO C hp.objs.size)).get? (hp.objs.size + 1) = some (excO C hp.objs.size) := by heap_get
  refine kw_call XB.fb (fun X => excTail_contains X bm hbm) (X _ _ hC) (looks_findIn X O.iC) (fun self => bind_fn X self O.tI) ?_
  refine initK_given (s := ⟨(hp.push (kdv_tup [])).push (excO C hp.objs.size), g, dr, tk, os⟩) XB T O (X.keeps k) (hlim.keeps k) hget ?_ fun h' tk' dx ⟨k', hx, dn, dne, hns⟩ => ?_
  · show A.depth + 1 < recursionLimit
    exact hroom
  · have z : hp.objs.size + 1 + 1 ≤ dx := by
      first
        | exact dn
        | (simpa only [Heap.size_push] using dn)
    exact ⟨rfl, fin h' tk' (hp.objs.size + 1) dx ⟨fun b o e => k' b o (Nat.ne_of_lt (Nat.lt_succ_of_lt (Heap.lt_size e))) (k b o e), Nat.le_succ _, ⟨_, _, hx, rfl, rfl, rfl, rfl⟩, Nat.le_trans (Nat.le_trans (Nat.le_succ _) (Nat.le_succ _)) z, dne, hns⟩⟩
theorem initK_limit (XB : XBase bmB B newId initId) (T : XTxt K bmB newId C) (O : XOne K C fI "limit" qual) {x t0 : Addr} {v : Value} (X : K.In s.heap) (hlim : s.heap.NoLimit) (hx : s.heap.get? x = some (excO C t0)) (hroom : A.depth < recursionLimit)
    (fin : ∀ h' tk dx, InitEnd s.heap h' x C dx t0 "limit" v → R (.ok (.ret .none)) { s with heap := h', toks := tk }) :
    codeAny (model prog w) A (.call (.ref fI) ⟨[.ref x], [("limit", v)]⟩) R s := by
  obtain ⟨oc, od, doc, pm, an, cdv, ct, osl, p1, p2, q1, q2, q3, q4, ho, hcd⟩ := O.fn
  obtain ⟨nm, q, N, bs, bm, sn, sub, ab, col, dd, k0, k1, k2, k3, k5, hC, hbm⟩ := T.cls
  have hcl := clsIn_of hC
  refine Att.call_fn (binds := [("self", .ref x), ("limit", v)]) X hlim ho hcd hroom (BindsTo.of_eq (by first | rfl | with_unfolding_all rfl)) (by first | rfl | decide | with_unfolding_all rfl) (fun s₁ IC => ?_) rfl rfl rfl
  obtain ⟨h₁, tk₁, rfl⟩ := IC.toInCall.same
  have old : ∀ b o, s.heap.get? b = some o → h₁.get? b = some o := IC.toInCall.keep
  have hn := IC.toInCall.ns
  have hx₁ := old _ _ hx
  show wpAny _ _ (execs _ _) _ _ _
  refine wpAny_execs_cons (plainObj_wpAny_Assign_Attribute ?_)
  refine ldL (v := v) hn (by first | rfl | with_unfolding_all rfl | kernel_rfl) (ldL (v := .ref x) hn (by first | rfl | with_unfolding_all rfl | kernel_rfl) ?_ rfl rfl (by decide)) rfl rfl (by decide)
  refine set_plain (X.keeps old) (ox := excO C t0) (od := none) ⟨hx₁, rfl, rfl, trivial⟩ T.sa ?_
  refine xstore XB.pass XB.hasO XB.ne (X.keeps old) hx₁ hcl (show excTail bmB (.ref C :: bm) = true from hbm) rfl O.noN fun h₃ tk₃ dx k₃ dn dne hx₃ hn₃ => ?_
  show wpAny _ _ (execs _ _) _ _ _
  have z : s.heap.objs.size < h₁.objs.size := hn.lt
  exact wpAny_execs_nil (fin h₃ tk₃ dx ⟨fun b o hb e => k₃ b o hb (old b o e), hx₃, Nat.le_of_lt (Nat.lt_of_lt_of_le z dn), dne, hn₃⟩)
theorem madeK_limit (XB : XBase bmB B newId initId) (T : XTxt K bmB newId C) (O : XOne K C fI "limit" qual) {v : Value} (X : K.In s.heap) (hlim : s.heap.NoLimit) (hroom : A.depth + 1 < recursionLimit)
    (fin : ∀ h' tk e d, OwnMade s.heap h' e C d "limit" v → R (.ok (.ret (.ref e))) { s with heap := h', toks := tk }) :
    codeAny (model prog w) A (.call (.ref C) ⟨[], [("limit", v)]⟩) R s := by
  obtain ⟨nm, q, N, bs, bm, sn, sub, ab, col, dd, k0, k1, k2, k3, k5, hC, hbm⟩ := T.cls
  obtain ⟨hp, g, dr, tk, os⟩ := s
  have k : ∀ b o, hp.get? b = some o → ((hp.push (kdv_tup [])).push (excO C hp.objs.size)).get? b = some o := fun b o e => Heap.get?_push_of_some _ (Heap.get?_push_of_some _ e)
  have hget : ((hp.push (kdv_tup [])).push (excO C hp.objs.size)).get? (hp.objs.size + 1) = some (excO C hp.objs.size) := by heap_get
  refine kw_call XB.fb (fun X => excTail_contains X bm hbm) (X _ _ hC) (looks_findIn X O.iC) (fun self => bind_fn X self O.tI) ?_
  refine initK_limit (s := ⟨(hp.push (kdv_tup [])).push (excO C hp.objs.size), g, dr, tk, os⟩) XB T O (X.keeps k) (hlim.keeps k) hget ?_ fun h' tk' dx ⟨k', hx, dn, dne, hns⟩ => ?_
  · show A.depth + 1 < recursionLimit
    exact hroom
  · have z : hp.objs.size + 1 + 1 ≤ dx := by
      first
        | exact dn
        | (simpa only [Heap.size_push] using dn)
    exact ⟨rfl, fin h' tk' (hp.objs.size + 1) dx ⟨fun b o e => k' b o (Nat.ne_of_lt (Nat.lt_succ_of_lt (Heap.lt_size e))) (k b o e), Nat.le_succ _, ⟨_, _, hx, rfl, rfl, rfl, rfl⟩, Nat.le_trans (Nat.le_trans (Nat.le_succ _) (Nat.le_succ _)) z, dne, hns⟩⟩
theorem initK_index (XB : XBase bmB B newId initId) (T : XTxt K bmB newId C) (O : XOne K C fI "index" qual) {x t0 : Addr} {v : Value} (X : K.In s.heap) (hlim : s.heap.NoLimit) (hx : s.heap.get? x = some (excO C t0)) (hroom : A.depth < recursionLimit)
    (fin : ∀ h' tk dx, InitEnd s.heap h' x C dx t0 "index" v → R (.ok (.ret .none)) { s with heap := h', toks := tk }) :
    codeAny (model prog w) A (.call (.ref fI) ⟨[.ref x], [("index", v)]⟩) R s := by
  obtain ⟨oc, od, doc, pm, an, cdv, ct, osl, p1, p2, q1, q2, q3, q4, ho, hcd⟩ := O.fn
  obtain ⟨nm, q, N, bs, bm, sn, sub, ab, col, dd, k0, k1, k2, k3, k5, hC, hbm⟩ := T.cls
  have hcl := clsIn_of hC
  refine Att.call_fn (binds := [("self", .ref x), ("index", v)]) X hlim ho hcd hroom (BindsTo.of_eq (by first | rfl | with_unfolding_all rfl)) (by first | rfl | decide | with_unfolding_all rfl) (fun s₁ IC => ?_) rfl rfl rfl
  obtain ⟨h₁, tk₁, rfl⟩ := IC.toInCall.same
  have old : ∀ b o, s.heap.get? b = some o → h₁.get? b = some o := IC.toInCall.keep
  have hn := IC.toInCall.ns
  have hx₁ := old _ _ hx
  show wpAny _ _ (execs _ _) _ _ _
  refine wpAny_execs_cons (plainObj_wpAny_Assign_Attribute ?_)
  refine ldL (v := v) hn (by first | rfl | with_unfolding_all rfl | kernel_rfl) (ldL (v := .ref x) hn (by first | rfl | with_unfolding_all rfl | kernel_rfl) ?_ rfl rfl (by decide)) rfl rfl (by decide)
  refine set_plain (X.keeps old) (ox := excO C t0) (od := none) ⟨hx₁, rfl, rfl, trivial⟩ T.sa ?_
  refine xstore XB.pass XB.hasO XB.ne (X.keeps old) hx₁ hcl (show excTail bmB (.ref C :: bm) = true from hbm) rfl O.noN fun h₃ tk₃ dx k₃ dn dne hx₃ hn₃ => ?_
  show wpAny _ _ (execs _ _) _ _ _
  have z : s.heap.objs.size < h₁.objs.size := hn.lt
  exact wpAny_execs_nil (fin h₃ tk₃ dx ⟨fun b o hb e => k₃ b o hb (old b o e), hx₃, Nat.le_of_lt (Nat.lt_of_lt_of_le z dn), dne, hn₃⟩)
theorem madeK_index (XB : XBase bmB B newId initId) (T : XTxt K bmB newId C) (O : XOne K C fI "index" qual) {v : Value} (X : K.In s.heap) (hlim : s.heap.NoLimit) (hroom : A.depth + 1 < recursionLimit)
    (fin : ∀ h' tk e d, OwnMade s.heap h' e C d "index" v → R (.ok (.ret (.ref e))) { s with heap := h', toks := tk }) :
    codeAny (model prog w) A (.call (.ref C) ⟨[], [("index", v)]⟩) R s := by
  obtain ⟨nm, q, N, bs, bm, sn, sub, ab, col, dd, k0, k1, k2, k3, k5, hC, hbm⟩ := T.cls
  obtain ⟨hp, g, dr, tk, os⟩ := s
  have k : ∀ b o, hp.get? b = some o → ((hp.push (kdv_tup [])).push (excO C hp.objs.size)).get? b = some o := fun b o e => Heap.get?_push_of_some _ (Heap.get?_push_of_some _ e)
  have hget : ((hp.push (kdv_tup [])).push (excO C hp.objs.size)).get? (hp.objs.size + 1) = some (excO C hp.objs.size) := by heap_get
  refine kw_call XB.fb (fun X => excTail_contains X bm hbm) (X _ _ hC) (looks_findIn X O.iC) (fun self => bind_fn X self O.tI) ?_
  refine initK_index (s := ⟨(hp.push (kdv_tup [])).push (excO C hp.objs.size), g, dr, tk, os⟩) XB T O (X.keeps k) (hlim.keeps k) hget ?_ fun h' tk' dx ⟨k', hx, dn, dne, hns⟩ => ?_
  · show A.depth + 1 < recursionLimit
    exact hroom
  · have z : hp.objs.size + 1 + 1 ≤ dx := by
      first
        | exact dn
        | (simpa only [Heap.size_push] using dn)
    exact ⟨rfl, fin h' tk' (hp.objs.size + 1) dx ⟨fun b o e => k' b o (Nat.ne_of_lt (Nat.lt_succ_of_lt (Heap.lt_size e))) (k b o e), Nat.le_succ _, ⟨_, _, hx, rfl, rfl, rfl, rfl⟩, Nat.le_trans (Nat.le_trans (Nat.le_succ _) (Nat.le_succ _)) z, dne, hns⟩⟩
end
end DLX
end PySem

end
section
namespace DL
open PySem PySem.Spec L2 PySem.DLX PyProof.Rows

/-! ### errors as values -/
/-- .. made by keyword, too -/
structure Er1K (P : Program) (w : World) (K : PySem.W.Frag) (mg : Str → Option Value) (x : Str) (C : Addr) (f : Str) : Prop extends Er1 P w K mg x C f where
  madeK : ∀ (A : Around) (R : Result → Shared → Prop) (s : Shared) (v : Value), K.In s.heap → s.heap.NoLimit → A.depth + 1 < recursionLimit →
    (∀ h' tk e d, OwnMade s.heap h' e C d f v → R (.ok (.ret (.ref e))) { s with heap := h', toks := tk }) → codeAny (model P w) A (.call (.ref C) ⟨[], [(f, v)]⟩) R s
section
variable {P : Program} {w : World} {K : PySem.W.Frag} {mg : Str → Option Value} {bmB : List Value} {B newId initId : String} {C fI : Addr} {x qual : Str}
theorem erk_given (XB : XBase bmB B newId initId) (T : XTxt K bmB newId C) (O : XOne K C fI "given" qual) (g : mg x = some (.ref C)) : Er1K P w K mg x C "given" := ⟨er_given XB T O g, fun A R s v X hl hr fin => madeK_given XB T O X hl hr fin⟩
theorem erk_limit (XB : XBase bmB B newId initId) (T : XTxt K bmB newId C) (O : XOne K C fI "limit" qual) (g : mg x = some (.ref C)) : Er1K P w K mg x C "limit" := ⟨er_limit XB T O g, fun A R s v X hl hr fin => madeK_limit XB T O X hl hr fin⟩
theorem erk_index (XB : XBase bmB B newId initId) (T : XTxt K bmB newId C) (O : XOne K C fI "index" qual) (g : mg x = some (.ref C)) : Er1K P w K mg x C "index" := ⟨er_index XB T O g, fun A R s v X hl hr fin => madeK_index XB T O X hl hr fin⟩
end
theorem excH_ok {P : Program} {w : World} {H : Hp} {h : Heap} {a C : Addr} {od : Option Addr} {oe : Obj} {vs : Array Value} (e : h.get? a = some oe) (hc : oe.cls = .ref C) (hd : oe.dict = od) (hf : oe.data = .fields vs) : ObjOk P w H h a (excH a C od) :=
  ⟨⟨oe, vs, e, hc, hd, hf⟩, ⟨oe, e⟩, fun h1 h2 ⟨o, us, e1, e2⟩ k => ⟨o, us, k _ e1, e2⟩⟩
section
variable {X : Cx} {C : Addr} {x f : Str}
theorem made_val {pins : List (Addr × Obj)} {σ : L2.St} {H : Hp} {hp : Heap} {g : Array GenState} {dr : Drawn} {tk tk' : Nat} {os : OsState} {v : V} {v' : Value} {h' : Heap} {e d : Addr} {Q : VK} (I : Inv X pins σ H ⟨hp, g, dr, tk, os⟩) (rv : RelV v v') (M : OwnMade hp h' e C d f v')
    (q : ∀ d e, H d = none → H e = none → d ≠ e → Q (.ref e) (upd (upd H d (.xd [(f, v)])) e (excH e C (some d)))) : EP X pins σ Q (.ref e) ⟨h', g, dr, tk', os⟩ := by
  obtain ⟨oe, fv, hoe, hc, hd, hdat, h1⟩ := M.obj
  have hns := M.ns
  obtain ⟨G', g1, g2⟩ := restrict h' fun b => decide (b ≠ e)
  have gk : ∀ b, b ≠ e → G'.get? b = h'.get? b := fun b hb => g1 b (decide_eq_true hb)
  have ge : G'.get? e = none := g2 e (by simp)
  have old : ∀ b o, hp.get? b = some o → G'.get? b = some o := fun b o q => (gk b (Nat.ne_of_lt (Nat.lt_of_lt_of_le (Heap.lt_size q) M.new))).trans (M.keep b o q)
  have ob : ObjOk X.prog X.w (upd H d (.xd [(f, v)])) G' d (.xd [(f, v)]) := ⟨_, hns.at (fun o q => (gk d M.dne).trans q), fun y => relO_one rv y⟩
  have J : Inv X pins σ (upd H d (.xd [(f, v)])) ⟨G', g, dr, tk', os⟩ := I.laid (t' := tk') old M.dbig ob
  have ne : H e = none := I.hok.fresh M.new
  have J2 : Inv X pins σ (upd (upd H d (.xd [(f, v)])) e (excH e C (some d))) ⟨h', g, dr, tk', os⟩ := J.laidN (t' := tk') (fun b o z => by
    by_cases hb : b = e
    · have z' : G'.get? b = some o := z
      rw [hb, ge] at z'; cases z'
    · exact (gk b hb).symm.trans z) ge (by rw [upd_ne (Ne.symm M.dne)]; exact ne) (excH_ok hoe hc hd hdat)
  exact ⟨.ref e, _, J2, rfl, q d e (I.hok.fresh M.dbig) ne M.dne⟩
theorem pe_exc1 {a : Expr} {ta : TA} {p pos : Pos} {k : Nat} (T : Er1 X.prog X.w X.K X.mg x C f) (hr : Room k X.A) (ha : PA X [a] ta) (hg : Gl X x) (hdb : (x == ("__debug__" : Str)) = false)
    (he : starEach (a :: []) X.env = (false, eval a X.env) :: starEach [] X.env) (hpl : (backTo pos (starEach [] X.env)).any (·.1) = false) :
    PE X (.Call (.Name x p) [a] [] pos) (fun σ H Q => ta σ H fun vs H1 => ∃ v, vs = [v] ∧ ∀ d e, H1 d = none → H1 e = none → d ≠ e → Q (.ref e) (upd (upd H1 d (.xd [(f, v)])) e (excH e C (some d)))) := by
  refine ⟨fun pins s σ H Q I h => ?_⟩
  refine wpAny_Call_Name_kw (ld_glob I hg T.gC ?_ hdb)
  refine PySem.W.callWith_K (h₀ := X.base) I.ok.mod.kin T.kC (thn (ha.run pos pins s σ H _ I h) fun us s1 hh => ?_) he hpl
  obtain ⟨vs, H1, I1, r1, v, ev, q1⟩ := hh
  subst ev
  refine ⟨I1.kIn, ?_⟩
  cases r1 with
  | cons rv rn =>
    rename_i v' us'
    cases rn
    show wpAny _ _ (call (.ref C) [v']) _ _ _
    have hlim := I1.nolimit
    obtain ⟨hp, g, dr, tk, os⟩ := s1
    exact wpAny_call (T.made _ _ _ _ I1.kIn hlim (by have := hr.dp; omega) fun h' tk' e d M => made_val I1 rv M q1)
theorem pe_exc1K {kws : List Keyword} {tk : TA} {p pos : Pos} {k : Nat} (T : Er1K X.prog X.w X.K X.mg x C f) (hr : Room k X.A) (ha : PK X kws tk) (hg : Gl X x) (hdb : (x == ("__debug__" : Str)) = false)
    (hall : (backToKw pos (keywordEach kws X.env)).all (·.1.isSome) = true) (hks : (backToKw pos (keywordEach kws X.env)).filterMap (·.1) = [f])
    (hpl : ((backTo pos (starEach [] X.env)).any (·.1) || (backToKw pos (keywordEach kws X.env)).any (·.1.isNone)) = false) :
    PE X (.Call (.Name x p) [] kws pos) (fun σ H Q => tk σ H fun vs H1 => ∃ v, vs = [v] ∧ ∀ d e, H1 d = none → H1 e = none → d ≠ e → Q (.ref e) (upd (upd H1 d (.xd [(f, v)])) e (excH e C (some d)))) := by
  refine ⟨fun pins s σ H Q I h => ?_⟩
  refine wpAny_Call_Name_kw (ld_glob I hg T.gC ?_ hdb)
  refine PySem.W.callWith_KW0 (h₀ := X.base) I.ok.mod.kin T.kC hall (thn (ha.run pos pins s σ H _ I h) fun us s1 hh => ?_) hpl
  obtain ⟨vs, H1, I1, r1, v, ev, q1⟩ := hh
  subst ev
  refine ⟨I1.kIn, ?_⟩
  rw [hks]
  cases r1 with
  | cons rv rn =>
    rename_i v' us'
    cases rn
    show wpAny _ _ (call (.ref C) [] [(f, v')]) _ _ _
    have hlim := I1.nolimit
    obtain ⟨hp, g, dr, tk', os⟩ := s1
    exact wpAny_call (T.madeK _ _ _ _ I1.kIn hlim (by have := hr.dp; omega) fun h' tk' e d M => made_val I1 rv M q1)
theorem pe_exc0 {p pos : Pos} {k : Nat} (T : Er0 X.prog X.w X.K X.mg x C) (hr : Room k X.A) (hg : Gl X x) (hdb : (x == ("__debug__" : Str)) = false) :
    PE X (.Call (.Name x p) [] [] pos) (fun _ H Q => ∀ e, H e = none → Q (.ref e) (upd H e (excH e C none))) := by
  refine ⟨fun pins s σ H Q I h => ?_⟩
  refine wpAny_Call_Name_kw (ld_glob I hg T.gC ?_ hdb)
  refine PySem.W.callWith_K0 I.kIn T.kC ?_
  show wpAny _ _ (call (.ref C) []) _ _ _
  have hlim := I.nolimit
  obtain ⟨hp, g, dr, tk, os⟩ := s
  refine wpAny_call (T.made _ _ _ I.kIn hlim (by have := hr.dp; omega) fun h' tk' e M => ?_)
  obtain ⟨oe, fv, hoe, hc, hd, hdat, h1⟩ := M.obj
  exact ⟨.ref e, _, I.laid (t' := tk') M.keep M.new (excH_ok hoe hc hd hdat), rfl, h e (I.hok.fresh M.new)⟩
end
def dMk1 (c : Nat) (f : Str) (a : EF) : EF := fun env => (a env).bind fun d env1 => .ok (.obj c [(f, d)]) env1
def dMk0 (c : Nat) : EF := fun env => .ok (.obj c []) env
section
variable {X : Cx} {cl : Nat → Addr} {W : WX} {x f : Str}
theorem mk1_of {K : PySem.W.Frag} {c : Nat} {fa : EF} {σ : L2.St} {H : Hp} {Q : VK} : tD cl K W (dMk1 c f fa) σ H Q →
    tCons (tD cl K W fa) tNil σ H fun vs H1 => ∃ v, vs = [v] ∧ ∀ d e, H1 d = none → H1 e = none → d ≠ e → Q (.ref e) (upd (upd H1 d (.xd [(f, v)])) e (excH e (cl c) (some d))) := fun ⟨O, P, R, env, r, q⟩ => by
  refine Post.bind (f := fa) r q fun d env1 v H1 r1 d1 q1 => ⟨v, rfl, fun dx e hd he ne => ?_⟩
  have s1 : Same H1 (upd H1 dx (.xd [(f, v)])) := same_new hd
  have he' : upd H1 dx (.xd [(f, v)]) e = none := by rw [upd_ne (Ne.symm ne)]; exact he
  have s2 : Same H1 (upd (upd H1 dx (.xd [(f, v)])) e (excH e (cl c) (some dx))) := s1.trans (same_new he')
  refine q1 (.ref e) _ (Mv.same s2 r1.dom) (r1.same s2) (.ex1 (dx := dx) (vs := [(f, v)]) ?_ ?_ (.cons (d1.mono (cut_same s2)) .nil))
  · exact cut_ge upd_same (r1.fresh he)
  · exact cut_ge (by rw [upd_ne ne]; exact upd_same) (r1.fresh hd)
theorem s_exc1 {a : Expr} {fa : EF} {p pos : Pos} {k c : Nat} (T : Er1 X.prog X.w X.K X.mg x (cl c) f) (hr : Room k X.A) (ha : SE X cl W a fa) (hg : Gl X x) (hdb : (x == ("__debug__" : Str)) = false := by decide)
    (he : starEach (a :: []) X.env = (false, eval a X.env) :: starEach [] X.env := by rfl) (hpl : (backTo pos (starEach [] X.env)).any (·.1) = false := by rfl) : SE X cl W (.Call (.Name x p) [a] [] pos) (dMk1 c f fa) :=
  eImp (pe_exc1 T hr (pa_cons ha pa_nil he) hg hdb he hpl) fun _ _ _ => mk1_of
theorem s_exc1K {a : Expr} {nm : Option Str} {kp : Pos} {fa : EF} {p pos : Pos} {k c : Nat} (T : Er1K X.prog X.w X.K X.mg x (cl c) f) (hr : Room k X.A) (ha : SE X cl W a fa) (hg : Gl X x) (hdb : (x == ("__debug__" : Str)) = false := by decide)
    (hall : (backToKw pos (keywordEach [⟨nm, a, kp⟩] X.env)).all (·.1.isSome) = true := by rfl) (hks : (backToKw pos (keywordEach [⟨nm, a, kp⟩] X.env)).filterMap (·.1) = [f] := by rfl)
    (hpl : ((backTo pos (starEach [] X.env)).any (·.1) || (backToKw pos (keywordEach [⟨nm, a, kp⟩] X.env)).any (·.1.isNone)) = false := by rfl) : SE X cl W (.Call (.Name x p) [] [⟨nm, a, kp⟩] pos) (dMk1 c f fa) :=
  eImp (pe_exc1K T hr (pk_cons ha pk_nil) hg hdb hall hks hpl) fun _ _ _ => mk1_of
theorem s_exc0 {p pos : Pos} {k c : Nat} (T : Er0 X.prog X.w X.K X.mg x (cl c)) (hr : Room k X.A) (hg : Gl X x) (hdb : (x == ("__debug__" : Str)) = false := by decide) : SE X cl W (.Call (.Name x p) [] [] pos) (dMk0 c) :=
  eImp (pe_exc0 T hr hg hdb) fun σ H Q ⟨O, P, R, env, r, q⟩ e he => q (.ref e) _ (Mv.same (same_new he) r.dom) (r.same (same_new he)) (.ex0 (cut_ge upd_same (r.fresh he)))
end

/-! ### isinstance of such, its attributes -/
/-- an object of the class C -/
def InH (H : Hp) (a C : Addr) : Prop := (∃ od, H a = some (excH a C od) ∧ ∀ dx, od = some dx → ∃ vs, H dx = some (.xd vs)) ∨ ∃ dx fs, H a = some (.ins C dx fs)
theorem inH_of {cl : Nat → Addr} {K : PySem.W.Frag} {H : Hp} {v : V} {c : Nat} {fs : List (Str × D)} (h : Dr cl K H v (.obj c fs)) : ∃ a, v = .ref a ∧ InH H a (cl c) := by
  cases h with
  | obj h r => exact ⟨_, rfl, .inr ⟨_, _, h⟩⟩
  | ex0 h => exact ⟨_, rfl, .inl ⟨none, h, fun _ z => nomatch z⟩⟩
  | ex1 h g r => exact ⟨_, rfl, .inl ⟨some _, h, fun _ z => by cases z; exact ⟨_, g⟩⟩⟩
theorem inH_mono {H H' : Hp} {a C : Addr} (e : Same H H') (h : InH H a C) : InH H' a C := by
  rcases h with ⟨od, h1, h2⟩ | ⟨dx, fs, h⟩
  · exact .inl ⟨od, e _ _ h1, fun dx z => by obtain ⟨vs, q⟩ := h2 dx z; exact ⟨vs, e _ _ q⟩⟩
  · exact .inr ⟨dx, fs, e _ _ h⟩
theorem inH_at {X : Cx} {pins : List (Addr × Obj)} {σ : L2.St} {H : Hp} {s : Shared} (I : Inv X pins σ H s) {a C : Addr} (h : InH H a C) : ∃ ox od, PySem.W.InstAt s.heap a ox C od := by
  rcases h with ⟨od, h1, h2⟩ | ⟨dx, fs, h⟩
  rotate_left
  · obtain ⟨mA, O, _⟩ := ins_get I.hok h
    obtain ⟨od, J, _⟩ := O.look
    exact ⟨_, _, J⟩
  obtain ⟨⟨oe, vs, e, ec, ed, ef⟩, _⟩ := I.hok a _ h1
  cases od with
  | none => exact ⟨oe, none, e, ec, by unfold PySem.W.notCls; rw [ef], by rw [ed]; trivial⟩
  | some dx =>
    obtain ⟨ws, h3⟩ := h2 dx rfl
    obtain ⟨mA, hns, _⟩ := (show ObjOk X.prog X.w H s.heap dx (.xd ws) from I.hok dx _ h3)
    obtain ⟨o2, ho2, _⟩ := lookIn_ns hns
    exact ⟨oe, some o2, e, ec, by unfold PySem.W.notCls; rw [ef], by rw [ed]; exact ho2⟩
def rIsX (K : PySem.W.Frag) : List V → Hp → VK → Prop := fun xs H Q => ∃ (a C : Addr) (c : V) (cv : Value) (b : Bool), xs = [.ref a, c] ∧ ClsV c cv ∧ InH H a C ∧ ExcC K C ∧ PySem.W.kitOne K (.ref C) cv = some b ∧ Q (.bl b) H
theorem call_isX {X : Cx} : CallR X (.builtin "isinstance") (rIsX X.K) := by
  intro pins s σ H xs us Q I r h
  obtain ⟨a, C, c, cv, b, rfl, k, ih, ex, e, q⟩ := h
  obtain ⟨u1, u2, rfl, r1, r2⟩ := vals2 r
  have e2 := k.eq r2
  subst e2
  cases (show u1 = Value.ref a from r1)
  obtain ⟨ox, od, J⟩ := inH_at I ih
  have hcl : (PySem.W.clsIn X.K C).isSome = true := by
    obtain ⟨cd, hc, _⟩ := PySem.W.any_some ex.hd
    rw [hc]; rfl
  exact PySem.W.kia_one (PySem.W.kitx_exc hcl ex.hg ex.hk ex.hs ex.ha ex.hn ex.ht ex.hm) I.kIn J e (fun z => nomatch z) fun tk => ⟨.bl b, H, I.tok tk, rfl, q⟩
/-- g tells of each class of errors whether it is under the asked one -/
def dIsX (g : Nat → Option Bool) (a : EF) : EF := fun env => (a env).bind fun d env1 => match d with
  | .obj c _ => match g c with
    | some b => .ok (.bl b) env1
    | none => .bad
  | _ => .bad
/-- what the classes tell: g for the class cv -/
def TellsX (K : PySem.W.Frag) (cl : Nat → Addr) (cv : Value) (g : Nat → Option Bool) : Prop := ∀ c b, g c = some b → ExcC K (cl c) ∧ PySem.W.kitOne K (.ref (cl c)) cv = some b
section
variable {X : Cx} {cl : Nat → Addr} {W : WX} {x : Str}
theorem isX_of {K : PySem.W.Frag} {fa : EF} {g : Nat → Option Bool} {c : V} {cv : Value} (k : ClsV c cv) (ct : TellsX K cl cv g) {σ : L2.St} {H : Hp} {Q : VK} : tD cl K W (dIsX g fa) σ H Q →
    tCB (rIsX K) (tCons (tD cl K W fa) (tCons (tC c) tNil)) σ H Q := fun ⟨O, P, R, env, r, q⟩ =>
  Post.bind (f := fa) r q fun d env1 v H1 r1 d1 q1 => by
    cases d with
    | obj cn fs =>
      obtain ⟨a, rfl, ih⟩ := inH_of d1
      cases e : g cn with
      | none => simp only [e] at q1; exact q1.elim
      | some b =>
        simp only [e] at q1
        obtain ⟨t1, t2⟩ := ct cn b e
        exact ⟨a, cl cn, c, cv, b, rfl, k, inH_mono cut_le ih, t1, t2, q1 _ H1 Mv.refl r1 (.bl b)⟩
    | _ => exact q1.elim
/-- isinstance(e, X), X a class of one's own -/
theorem s_isX {a : Expr} {C : Addr} {g : Nat → Option Bool} {f : EF} {p p2 pos : Pos} (ct : TellsX X.K cl (.ref C) g) (ha : SE X cl W a f) (hx : X.mg x = some (.ref C)) (hg : Gl X "isinstance") (hm : X.mg "isinstance" = none) (hg2 : Gl X x)
    (hdb : (x == ("__debug__" : Str)) = false := by decide) (hs0 : starEach [a, .Name x p2] X.env = (false, eval a X.env) :: starEach [.Name x p2] X.env := by rfl) (hs1 : starEach [.Name x p2] X.env = (false, eval (.Name x p2) X.env) :: starEach [] X.env := by rfl)
    (hpl : (backTo pos (starEach [.Name x p2] X.env)).any (·.1) = false := by rfl) : SE X cl W (.Call (.Name "isinstance" p) [a, .Name x p2] [] pos) (dIsX g f) :=
  eImp (pe_callB call_isX hg hm (by decide +kernel) (pa_cons ha (pa_cons (pe_glob (v := .ref C) hg2 hx rfl hdb) pa_nil hs1) hs0) (by decide) (by decide) hs0 hpl) fun _ _ _ => isX_of (.own C) ct
/-- .., T a built-in class -/
theorem s_isXB {a : Expr} {T : String} {g : Nat → Option Bool} {f : EF} {p p2 pos : Pos} (ct : TellsX X.K cl (.type T) g) (ha : SE X cl W a f) (hx : bootBuiltins x = some (.type T)) (hg : Gl X "isinstance") (hm : X.mg "isinstance" = none) (hg2 : Gl X x) (hm2 : X.mg x = none)
    (hn : x ≠ "__name__" := by decide) (hdb : (x == ("__debug__" : Str)) = false := by decide) (hs0 : starEach [a, .Name x p2] X.env = (false, eval a X.env) :: starEach [.Name x p2] X.env := by rfl) (hs1 : starEach [.Name x p2] X.env = (false, eval (.Name x p2) X.env) :: starEach [] X.env := by rfl)
    (hpl : (backTo pos (starEach [.Name x p2] X.env)).any (·.1) = false := by rfl) : SE X cl W (.Call (.Name "isinstance" p) [a, .Name x p2] [] pos) (dIsX g f) :=
  eImp (pe_callB call_isX hg hm (by decide +kernel) (pa_cons ha (pa_cons (pe_bltn (v := .ty T) hg2 hm2 hx rfl hn hdb) pa_nil hs1) hs0) (by decide) (by decide) hs0 hpl) fun _ _ _ => isX_of (.ty T) ct
end

/-- e.f of an error -/
def dXf (ok : Nat → Bool) (f : Str) (a : EF) : EF := fun env => (a env).bind fun d env1 => match d with
  | .obj c fs => if ok c = true then (match fs.lookup f with
    | some z => .ok z env1
    | none => .bad) else .bad
  | _ => .bad
theorem DrF.look {cl : Nat → Addr} {K : PySem.W.Frag} {H : Hp} {f : Str} {d : D} : ∀ {vs : List (Str × V)} {fs : List (Str × D)}, DrF cl K H vs fs → fs.lookup f = some d → ∃ v, vs.lookup f = some v ∧ Dr cl K H v d
  | [], [], .nil, e => nomatch e
  | (n, v) :: vs, (_, e) :: fs, .cons h r, q => by
    by_cases z : f = n
    · subst z
      have q1 : List.lookup f ((f, e) :: fs) = some e := by simp [List.lookup]
      rw [q1] at q; cases q
      exact ⟨v, by simp [List.lookup], h⟩
    · have z' : (f == n) = false := by simpa using z
      have q1 : List.lookup f ((n, e) :: fs) = List.lookup f fs := by simp [List.lookup, z']
      rw [q1] at q
      obtain ⟨w, w1, w2⟩ := DrF.look r q
      exact ⟨w, by simp [List.lookup, z', w1], w2⟩
def FldH (H : Hp) (a C : Addr) (fs : List (Str × V)) : Prop := (∃ dx, H a = some (excH a C (some dx)) ∧ H dx = some (.xd fs)) ∨ ∃ dx, H a = some (.ins C dx fs)
theorem fldH_at {X : Cx} {pins : List (Addr × Obj)} {σ : L2.St} {H : Hp} {s : Shared} (I : Inv X pins σ H s) {a C : Addr} {fs : List (Str × V)} (h : FldH H a C fs) :
    ∃ (ox od : Obj) (mA : Str → Option Value), PySem.W.InstAt s.heap a ox C (some od) ∧ (∀ name, PySem.W.lookIn name od = some (mA name)) ∧ ∀ f, RelO (fs.lookup f) (mA f) := by
  rcases h with ⟨dx, h1, h2⟩ | ⟨dx, h⟩
  · obtain ⟨⟨oe, vs, e1, ec, ed, ef⟩, _⟩ := I.hok a _ h1
    obtain ⟨mA, hns, hr⟩ := (show ObjOk X.prog X.w H s.heap dx (.xd fs) from I.hok dx _ h2)
    obtain ⟨od, ho, hl⟩ := lookIn_ns hns
    exact ⟨oe, od, mA, ⟨e1, ec, by unfold PySem.W.notCls; rw [ef], by rw [ed]; exact ho⟩, hl, hr⟩
  · obtain ⟨mA, O, hr, _⟩ := ins_get I.hok h
    obtain ⟨od, J, hl⟩ := O.look
    exact ⟨_, od, mA, J, hl, hr⟩
section
variable {X : Cx} {cl : Nat → Addr} {W : WX}
theorem pe_xfd {e : Expr} {te : TE} {pos : Pos} {n : Str} (he : PE X e te) (hb : attributeBase e n X.env (eval e X.env) = eval e X.env) :
    PE X (.Attribute e n pos) (fun σ H Q => te σ H fun x H1 => ∃ a C fs v, x = .ref a ∧ XfC X.K C ∧ PySem.W.findIn X.K (.ref C) n = some none ∧ FldH H1 a C fs ∧ fs.lookup n = some v ∧ Q v H1) := by
  refine ⟨fun pins s σ H Q I h => ?_⟩
  refine attr_of hb (thn (he.run pins s σ H _ I h) fun u s1 hh => ?_)
  obtain ⟨x, H1, I1, rx, a, C, fs, v, ex, T, hno, hf, l, q⟩ := hh
  subst ex
  obtain rfl : u = Value.ref a := rx
  obtain ⟨ox, od, mA, J, hl, hr⟩ := fldH_at I1 hf
  obtain ⟨w, hw, rw'⟩ := RelO.some_of (v := v) (o := mA n) (by rw [← l]; exact hr n)
  exact HandSPX.exc_get I1.kIn J T.ga T.gg T.exC (PySem.W.findObj_own T.hdC hno rfl (by rw [hl, hw])) (handed_of rw') ⟨v, H1, I1.tok _, rw', q⟩
/-- e.f, f a field of errors -/
theorem s_xf {a : Expr} {ok : Nat → Bool} {f : EF} {n : Str} {pos : Pos} (tx : ∀ c, ok c = true → XfC X.K (cl c) ∧ PySem.W.findIn X.K (.ref (cl c)) n = some none) (ha : SE X cl W a f)
    (hb : attributeBase a n X.env (eval a X.env) = eval a X.env := by rfl) : SE X cl W (.Attribute a n pos) (dXf ok n f) :=
  eImp (pe_xfd ha hb) fun σ H Q ⟨O, P, R, env, r, q⟩ => Post.bind (f := f) r q fun d env1 v H1 r1 d1 q1 => by
    cases d with
    | obj c fs =>
      by_cases hc : ok c = true
      · simp only [hc, if_true] at q1
        cases e : fs.lookup n with
        | none => simp only [e] at q1; exact q1.elim
        | some z =>
          simp only [e] at q1
          obtain ⟨t1, t2⟩ := tx c hc
          cases d1 with
          | obj h rr =>
            obtain ⟨w, w1, w2⟩ := rr.look e
            exact ⟨_, _, _, w, rfl, t1, t2, .inr ⟨_, cut_le _ _ h⟩, w1, q1 w H1 Mv.refl r1 w2⟩
          | ex0 h => cases e
          | ex1 h g rr =>
            obtain ⟨w, w1, w2⟩ := rr.look e
            exact ⟨_, _, _, w, rfl, t1, t2, .inl ⟨_, cut_le _ _ h, cut_le _ _ g⟩, w1, q1 w H1 Mv.refl r1 w2⟩
      · simp only [hc] at q1; exact q1.elim
    | _ => exact q1.elim
end
end DL

end
section
namespace DL
open PySem PySem.Spec L2 PyProof.Rows

/-! ### defs of the law: no repr is under way where they are called -/
/-- a def that keeps its promise wherever no repr is under way -/
structure FnD (P : Program) (w : World) (K : PySem.W.Frag) (mg : Str → Option Value) (base : Heap) (CX : CXT) (k : Nat) (f : Addr) (fd : FuncData) (ps : List Str) (sp : Sp) : Prop where
  len : ∀ vs H Q E, sp vs H Q E → vs.length = ps.length
  run : ∀ (A : Around) (outer : List Env) (s : Shared) (H : Hp) (args : Args) (us : List Value) (vs : List V) (Q : VK) (E : XK), A.guards = some [] → Room k A → Env0 P w K mg base A outer s H → BindsTo s fd args (ps.zip us) → Vals vs us → sp vs H Q E →
    codeAny (model P w) A (.call (.ref f) args) (CR CX outer P w H s Q E) s
section
variable {P : Program} {w : World} {K : PySem.W.Frag} {mg : Str → Option Value} {base : Heap} {CX : CXT} {k : Nat} {f : Addr} {fd : FuncData} {ps : List Str} {sp : Sp}
theorem FnD.of (F : FnOk P w K mg base CX k f fd ps sp) : FnD P w K mg base CX k f fd ps sp := ⟨F.len, fun A outer s H args us vs Q E _ => F.run A outer s H args us vs Q E⟩
theorem fnd_of {x qual : Str} {st : Stmt} {N : List Str} (F : L2.Fun K x qual st f fd) (S : FnScope N ps (defScope st)) (len : ∀ vs H Q E, sp vs H Q E → vs.length = ps.length)
    (body : ∀ (cdv : Value) (A : Around) (outer : List Env) (s : Shared) (H : Hp) (vs : List V) (Q : VK) (E : XK), (A.deeper (envOfC qual (defScope st) s.heap.objs.size f cdv)).guards = some [] → Room k (A.deeper (envOfC qual (defScope st) s.heap.objs.size f cdv)) → sp vs H Q E →
      ∃ t, PSs (cxOf CX P w K mg base N qual (defScope st) f cdv A outer s H E) (defBody st) t ∧ t { nx := fun _ H' => Q .non H', rt := Q } (L2.start N vs) H) : FnD P w K mg base CX (k + 1) f fd ps sp := by
  obtain ⟨oc, od, kV, doc, pm, an, cdv, ct, osl, rfl, lk, cc⟩ := F.ex
  exact ⟨len, fun A outer s H args us vs Q E hG hr e0 hb r q => LamX.run_ofS lk cc S hr e0 hb r (len vs H Q E q) fun hr' => body cdv A outer s H vs Q E hG hr' q⟩
end
section
variable {X : Cx} {CX : CXT} {k : Nat} {f : Addr} {fd : FuncData} {ps : List Str} {sp : Sp} {dvs : List V} {ds : List Value} {E : XK} {x : Str} {p pos : Pos} {e : Expr} {es : List Expr} {t : TA}
theorem end_of {pins : List (Addr × Obj)} {σ : L2.St} {H : Hp} {s : Shared} {Q : VK} (px : Passes CX X E) (I : Inv X pins σ H s) {r : Result} {u : Shared} (h : CR CX X.stack X.prog X.w H s Q E r u) :
    (match r with | .ok (.ret v) => EP X pins σ Q v u | .ok _ => False | .error z => X.xe z u) := by
  cases r with
  | error z => exact px pins σ H s z u I h
  | ok fl => cases fl with
    | ret v => exact I.after h
    | _ => exact h.elim
theorem run_fnd {pins : List (Addr × Obj)} {σ : L2.St} {H : Hp} {s : Shared} {Q : VK} {us : List Value} {vs : List V} (F : FnD X.prog X.w X.K X.mg X.base CX k f fd ps sp) (hG : X.A.guards = some []) (hr : Room k X.A) (hb : Binds X.K fd ps ds) (hd : Vals dvs ds) (px : Passes CX X E)
    (I : Inv X pins σ H s) (r : Vals vs us) (q : sp (vs ++ dvs) H Q E) : wpAny (model X.prog X.w) X.A (call (.ref f) us) (EP X pins σ Q) X.xe s := by
  have r2 : Vals (vs ++ dvs) (us ++ ds) := r.append hd
  have l2 : (us ++ ds).length = ps.length := r2.length.symm.trans (F.len _ _ _ _ q)
  refine wpAny_call (codeAny_mono (F.run _ X.stack s H ⟨us, []⟩ (us ++ ds) _ Q E hG hr I.env0 (hb s us I.kIn l2) r2 q) fun r u h => ?_)
  have z := end_of px I h
  cases r with
  | error => exact z
  | ok fl => cases fl <;> exact z
theorem pe_calld (F : FnD X.prog X.w X.K X.mg X.base CX k f fd ps sp) (hG : X.A.guards = some []) (hr : Room k X.A) (hg : Gl X x) (hm : X.mg x = some (.ref f)) (kp : PySem.W.keepIn X.K (.ref f) = true) (hb : Binds X.K fd ps ds) (hd : Vals dvs ds) (px : Passes CX X E)
    (ha : PA X (e :: es) t) (hdb : (x == ("__debug__" : Str)) = false) (he : starEach (e :: es) X.env = (false, eval e X.env) :: starEach es X.env) (hpl : (backTo pos (starEach es X.env)).any (·.1) = false) :
    PE X (.Call (.Name x p) (e :: es) [] pos) (tCall sp dvs E t) :=
  ⟨fun pins s σ H Q I h => wpAny_Call_Name_kw (ld_glob I hg hm (PySem.W.callWith_K (h₀ := X.base) I.ok.mod.kin kp (thn (ha.run pos pins s σ H _ I h) fun us s1 ⟨vs, H1, I1, r, q⟩ => ⟨I1.kIn, run_fnd F hG hr hb hd px I1 r q⟩) he hpl) hdb)⟩
theorem pe_calld0 (F : FnD X.prog X.w X.K X.mg X.base CX k f fd ps sp) (hG : X.A.guards = some []) (hr : Room k X.A) (hg : Gl X x) (hm : X.mg x = some (.ref f)) (kp : PySem.W.keepIn X.K (.ref f) = true) (hb : Binds X.K fd ps ds) (hd : Vals dvs ds) (px : Passes CX X E)
    (hdb : (x == ("__debug__" : Str)) = false) : PE X (.Call (.Name x p) [] [] pos) (tCall sp dvs E tNil) :=
  ⟨fun pins s σ H Q I h => wpAny_Call_Name_kw (ld_glob I hg hm (PySem.W.callWith_K0 I.kIn kp (run_fnd (us := []) F hG hr hb hd px I .nil h)) hdb)⟩
end
section
variable {Pg : Program} {w : World} {K : PySem.W.Frag} {mg : Str → Option Value} {base : Heap} {cl : Nat → Addr}
theorem fnd_pure {x qual : Str} {st : Stmt} {fa : Addr} {fd : FuncData} {N ps : List Str} {k n : Nat} {b : SF} {m : PM} (F : L2.Fun K x qual st fa fd) (S : FnScope N ps (defScope st)) (hn : n = ps.length) (hN : n ≤ N.length)
    (hm : ∀ ds, ds.length = n → m ds = .bad ∨ m ds = runP N.length b ds)
    (hbody : ∀ (cdv : Value) (A : Around) (outer : List Env) (s : Shared) (H : Hp) (E : XK), (A.deeper (envOfC qual (defScope st) s.heap.objs.size fa cdv)).guards = some [] → Room k (A.deeper (envOfC qual (defScope st) s.heap.objs.size fa cdv)) →
      SSs (cxOf (L2.CX Pg w) Pg w K mg base N qual (defScope st) fa cdv A outer s H E) cl (WE E) [] (defBody st) b) : FnD Pg w K mg base (L2.CX Pg w) (k + 1) fa fd ps (spP cl K n m) :=
  fnd_of F S (fun vs H Q E h => by rw [← hn]; exact h.1) fun cdv A outer s H vs Q E hG hr h => by
    obtain ⟨hl, O, ds, dm, r, q⟩ := h
    refine ⟨_, hbody cdv A outer s H E hG hr, body_pure dm r (by rw [hl]; exact hN) ?_⟩
    rcases hm ds (by rw [← r.length]; exact hl) with z | z
    · rw [z] at q; exact q.elim
    · rw [← z]; exact q
end
section
variable {X : Cx} {cl : Nat → Addr} {E : XK} {k n : Nat} {fa : Addr} {fd : FuncData} {ps : List Str} {m : PM} {x : Str} {p pos : Pos} {dvs : List V} {dus : List Value} {dd : List D}
theorem s_calld {e : Expr} {es : List Expr} {f : AF} (F : FnD X.prog X.w X.K X.mg X.base (L2.CX X.prog X.w) k fa fd ps (spP cl X.K n m)) (hG : X.A.guards = some []) (tk : Takes X (WE E)) (hr : Room k X.A) (hg : Gl X x) (hm : X.mg x = some (.ref fa))
    (hk : PySem.W.keepIn X.K (.ref fa) = true) (hb : Binds X.K fd ps dus) (hd : Vals dvs dus) (hdd : ∀ H, DrA cl X.K H dvs dd) (ha : SA X cl (WE E) (e :: es) f) (hdb : (x == ("__debug__" : Str)) = false := by decide) (he : starEach (e :: es) X.env = (false, eval e X.env) :: starEach es X.env := by rfl)
    (hpl : (backTo pos (starEach es X.env)).any (·.1) = false := by rfl) : SE X cl (WE E) (.Call (.Name x p) (e :: es) [] pos) (dCallD n dd m f) :=
  eImp (pe_calld F hG hr hg hm hk hb hd (passes_call tk fun _ _ _ _ h => h) ha hdb he hpl) fun σ H Q ⟨O, P, R, env, rel, q⟩ => Post.bindA (f := f) rel q fun ds env1 vs H1 r1 d1 h1 => by
    split at h1
    · rename_i hl
      exact sp_of hl r1 (d1.append (hdd _)) h1
    · exact h1.elim
/-- f() -/
def dCall0 (n : Nat) (dd : List D) (m : PM) : EF := dCallD n dd m dNil
theorem s_calld0 (F : FnD X.prog X.w X.K X.mg X.base (L2.CX X.prog X.w) k fa fd ps (spP cl X.K n m)) (hG : X.A.guards = some []) (tk : Takes X (WE E)) (hr : Room k X.A) (hg : Gl X x) (hm : X.mg x = some (.ref fa))
    (hk : PySem.W.keepIn X.K (.ref fa) = true) (hb : Binds X.K fd ps dus) (hd : Vals dvs dus) (hdd : ∀ H, DrA cl X.K H dvs dd) (hdb : (x == ("__debug__" : Str)) = false := by decide) : SE X cl (WE E) (.Call (.Name x p) [] [] pos) (dCall0 n dd m) :=
  eImp (pe_calld0 F hG hr hg hm hk hb hd (passes_call tk fun _ _ _ _ h => h) hdb) fun σ H Q ⟨O, P, R, env, rel, q⟩ => by
    unfold dCall0 dCallD dNil at q
    simp only [Res.bind_ok] at q
    split at q
    · rename_i hl
      exact sp_of (ds := [] ++ dd) hl rel ((DrA.nil (cl := cl) (K := X.K)).append (hdd _)) q
    · exact q.elim
end
end DL

end
section
namespace DL
open PySem PySem.Spec L2 PyProof.Rows

/-! ### repr -/
def okR (p : PyData) : Bool := p.showable && !p.hasDict && decide (p.shown.length ≤ sizeLine) && decide (p.depth ≤ 60)
def gRepr : List D → Option D
  | [d] => match toPy d with
    | some p => if okR p = true then some (.str p.shown) else none
    | none => match d with
      | .dk [] [] => some (.str "{}")
      | _ => none
  | _ => none
def rRepr (K : PySem.W.Frag) : List V → Hp → VK → Prop := fun xs H Q => (∃ v p, xs = [v] ∧ Dp K H v p ∧ okR p = true ∧ Q (.str p.shown) H) ∨ ∃ a, xs = [.ref a] ∧ H a = some (.dK []) ∧ Q (.str "{}") H
theorem okR_at {p : PyData} (h : okR p = true) : p.showable = true ∧ p.hasDict = false ∧ p.shown.length ≤ sizeLine ∧ p.depth ≤ 60 := by
  unfold okR at h
  simp only [Bool.and_eq_true, decide_eq_true_eq, Bool.not_eq_true'] at h
  exact ⟨h.1.1.1, h.1.1.2, h.1.2, h.2⟩
section
variable {X : Cx}
theorem call_reprD (hG : X.A.guards = some []) (hu : X.A.units + 64 < cLine) : CallR X (.builtin "repr") (rRepr X.K) := by
  intro pins s σ H xs us Q I r h
  rcases h with ⟨v, p, rfl, hp, ok, q⟩ | ⟨a, rfl, ha, q⟩
  · obtain ⟨u, rfl, rv⟩ := vals1 r
    obtain ⟨o1, o2, o3, o4⟩ := okR_at ok
    obtain ⟨as, rd⟩ := Dp.reads I p v u hp rv
    cases rd with
    | none => exact P.repr_of_none ⟨.str "None", H, I.tok _, ⟨_, rfl⟩, q⟩
    | bool b => exact P.repr_of_bool ⟨.str _, H, I.tok _, ⟨_, rfl⟩, q⟩
    | int i t => exact P.repr_of_int (of_decide_eq_true o1) ⟨.str _, H, I.tok _, ⟨_, rfl⟩, q⟩
    | str x t => exact P.repr_of_str ⟨.str _, H, I.tok _, ⟨_, rfl⟩, q⟩ o3
    | list h1 h2 h3 h4 => exact repr_of_reads' (Reads.list h1 h2 h3 h4) o1 (PyData.noDict_hsm o2) hG (by omega) (fun _ _ z => z) (fun h' u tk k => ⟨.str _, H, I.kept (t' := tk) k, ⟨_, rfl⟩, q⟩) o3
    | tuple h1 h2 h3 h4 => exact repr_of_reads' (Reads.tuple h1 h2 h3 h4) o1 (PyData.noDict_hsm o2) hG (by omega) (fun _ _ z => z) (fun h' u tk k => ⟨.str _, H, I.kept (t' := tk) k, ⟨_, rfl⟩, q⟩) o3
    | dict h1 h2 h3 h4 h5 => cases o2
  · obtain ⟨u, rfl, rv⟩ := vals1 r
    cases (show u = Value.ref a from rv)
    obtain ⟨_, ns, vs, kv, o, es, ep, h1, h2, h3, h4, h5, _⟩ := I.hok a _ ha
    cases kv
    have ee : es.toList = [] := by
      cases q2 : es.toList with
      | nil => rfl
      | cons _ _ => rw [q2] at h5; cases h5
    have ne : sysModules ∉ [a] := fun z => by
      rw [List.mem_singleton] at z
      rw [z] at ns
      simp at ns
    have rd : Reads s.heap (.ref a) (.dict []) [a] := Reads.dict (as := []) (bs := []) h1 h2.1 h3 (by rw [ee]; exact .nil) (by rw [ee]; exact .nil)
    exact repr_of_reads' rd rfl (fun _ => ne) hG (by show X.A.units + (PyData.depth (.dict []) + 1) < cLine; simp only [PyData.depth, PyData.depthKv]; omega) (fun _ _ z => z) (fun h' u tk k => ⟨.str _, H, I.kept (t' := tk) k, ⟨_, rfl⟩, q⟩) (by decide +kernel)
variable {cl : Nat → Addr} {W : WX}
theorem cd_repr : CallD X cl (rRepr X.K) gRepr := fun O H vs ds z Q dm r e q => by
  cases r with
  | nil => cases e
  | cons h hr =>
    cases hr with
    | cons _ _ => cases e
    | nil =>
      rename_i v d
      unfold gRepr at e
      cases ep : toPy d with
      | some p =>
        simp only [ep] at e
        split at e
        · rename_i ok
          cases e
          exact .inl ⟨v, p, rfl, dp_of (h.mono cut_le) ep, ok, q _ H (Same.refl H) (.str _)⟩
        · cases e
      | none =>
        simp only [ep] at e
        cases d with
        | dk ks es => ?_
        | _ => cases e
        cases h with
        | dk h1 h2 h3 => ?_
        split at e
        · rename_i eq
          cases eq
          cases e
          exact .inr ⟨_, rfl, cut_le _ _ h1, q _ H (Same.refl H) (.str _)⟩
        · cases e
theorem s_repr {e : Expr} {f : EF} {p pos : Pos} (hG : X.A.guards = some []) (hu : X.A.units + 64 < cLine) (hg : Gl X "repr") (hm : X.mg "repr" = none) (ha : SE X cl W e f)
    (he : starEach (e :: []) X.env = (false, eval e X.env) :: starEach [] X.env := by rfl) (hpl : (backTo pos (starEach [] X.env)).any (·.1) = false := by rfl) : SE X cl W (.Call (.Name "repr" p) [e] [] pos) (dCB gRepr (dCons f dNil)) :=
  s_callB (call_reprD hG hu) cd_repr hg hm (by decide +kernel) (a_cons ha a_nil he) (by decide) (by decide) he hpl
end
end DL

end
section
namespace DL
open PySem PySem.Spec L2 PyProof.Rows

/-! ### the end: the law is called upon the script -/
abbrev tabO : Obj := { cls := .none, data := .fields #[] }
abbrev scrO (vs : List Value) : Obj := { cls := .type "list", data := .seq vs.toArray }
/-- what is tracked then: the tables of code; the script, unless the text holds it -/
def hE (T : List Addr) (a : Addr) (o : Obj) (xs : List V) (tr : Bool) : Hp := fun b => if T.contains b = true then some (.tbl #[]) else if (tr && b == a) = true then some (.frz o (.lst xs)) else none
theorem hE_inv {T : List Addr} {a b : Addr} {o : Obj} {xs : List V} {tr : Bool} {u : HO} (h : hE T a o xs tr b = some u) : (b ∈ T ∧ u = .tbl #[]) ∨ (tr = true ∧ b = a ∧ u = .frz o (.lst xs)) := by
  unfold hE at h
  split at h
  · rename_i c
    cases h
    exact .inl ⟨List.contains_iff_mem.mp c, rfl⟩
  · split at h
    · rename_i c
      rw [Bool.and_eq_true, beq_iff_eq] at c
      cases h
      exact .inr ⟨c.1, c.2, rfl⟩
    · cases h
theorem hE_tab {T : List Addr} {a b : Addr} {o : Obj} {xs : List V} {tr : Bool} (h : b ∈ T) : hE T a o xs tr b = some (.tbl #[]) := by
  unfold hE
  rw [if_pos (List.contains_iff_mem.mpr h)]
theorem hE_scr {T : List Addr} {a : Addr} {o : Obj} {xs : List V} (h : a ∉ T) : hE T a o xs true a = some (.frz o (.lst xs)) := by
  unfold hE
  rw [if_neg (fun z => h (List.contains_iff_mem.mp z)), if_pos (by simp)]
structure Start (K : PySem.W.Frag) (mg mb : Str → Option Value) (cs : List (Addr × Addr)) (s : Shared) (a : Addr) (vs : List Value) (ns : List Int) : Prop where
  kin : K.In s.heap
  top : s.heap.Ns mainGlobals mg
  blt : s.heap.Ns builtinsNs mb
  boot : ∀ x : Str, x ≠ "__name__" → mb x = bootBuiltins x
  lim : s.heap.NoLimit
  gens : s.gens = #[]
  tab : ∀ p ∈ cs, s.heap.get? p.2 = some tabO
  out : ∀ p ∈ cs, K.lookup p.2 = none
  code : ∀ p ∈ cs, PySem.W.CodeHd s.heap p.1 p.2
  bmod : ∃ (b : Addr) (o : Obj), mg "__builtins__" = some (.ref b) ∧ b ≠ builtinsNs ∧ s.heap.get? b = some o ∧ o.cls = .type "module" ∧ o.dict = some builtinsNs ∧ o.data = .plain
  scr : s.heap.get? a = some (scrO vs)
  nums : IntsAre vs ns
  fits : ns.length ≤ sizeLine
section
variable {P : Program} {w : World} {K : PySem.W.Frag} {mg mb : Str → Option Value} {cs : List (Addr × Addr)} {s : Shared} {a fa : Addr} {vs : List Value} {ns : List Int} {CX : CXT}
theorem Start.isT (S : Start K mg mb cs s a vs ns) {b : Addr} (h : b ∈ cs.map (·.2)) : s.heap.get? b = some tabO := by
  obtain ⟨p, m, rfl⟩ := List.mem_map.mp h
  exact S.tab p m
theorem Start.scrT (S : Start K mg mb cs s a vs ns) : a ∉ cs.map (·.2) := fun h => by
  have z := (S.isT h).symm.trans S.scr
  cases z
abbrev hS (K : PySem.W.Frag) (cs : List (Addr × Addr)) (a : Addr) (vs : List Value) (ns : List Int) : Hp := hE (cs.map (·.2)) a (scrO vs) (ns.map V.int) (K.lookup a).isNone
theorem Start.free (S : Start K mg mb cs s a vs ns) {b : Addr} {o : Obj} (h : s.heap.get? b = some o) (n1 : o.data ≠ .fields #[]) (n2 : ∀ us n, o.data ≠ .seq us n) : hS K cs a vs ns b = none := by
  cases q : hS K cs a vs ns b with
  | none => rfl
  | some u =>
    rcases hE_inv q with ⟨m, _⟩ | ⟨_, e, _⟩
    · rw [S.isT m] at h; cases h; exact absurd rfl n1
    · rw [e, S.scr] at h; cases h; exact absurd rfl (n2 _ _)
theorem Start.freeK (S : Start K mg mb cs s a vs ns) {b : Addr} {o : Obj} (h : K.lookup b = some o) : hS K cs a vs ns b = none := by
  cases q : hS K cs a vs ns b with
  | none => rfl
  | some u =>
    rcases hE_inv q with ⟨m, _⟩ | ⟨t, e, _⟩
    · obtain ⟨p, pm, rfl⟩ := List.mem_map.mp m
      rw [S.out p pm] at h; cases h
    · rw [← e, h] at t; cases t
theorem Start.hok (S : Start K mg mb cs s a vs ns) : HOk P w (hS K cs a vs ns) s.heap := fun b u z => by
  rcases hE_inv z with ⟨m, rfl⟩ | ⟨_, rfl, rfl⟩
  · exact S.isT m
  · exact ⟨S.scr, by rw [List.length_map]; exact S.fits, vs, _, vals_ints S.nums, S.scr⟩
theorem Start.nsB (S : Start K mg mb cs s a vs ns) {b : Addr} {m : Str → Option Value} (h : s.heap.Ns b m) : (hidT s.heap (hS K cs a vs ns)).Ns b m := by
  obtain ⟨o, es, n, e, d, r⟩ := h
  exact ⟨o, es, n, hidT_get e (S.free e (by rw [d]; exact fun z => nomatch z) (by rw [d]; exact fun _ _ z => nomatch z)), d, r⟩
theorem Start.mod (S : Start K mg mb cs s a vs ns) : L2.Mod K mg (hidT s.heap (hS K cs a vs ns)) where
  kin := fun b o e => hidT_get (S.kin b o e) (S.freeK e)
  glob := S.nsB S.top
  blt := ⟨mb, S.nsB S.blt, S.boot⟩
  nolimit := by
    obtain ⟨m, h1, h2⟩ := S.lim
    exact ⟨m, S.nsB h1, h2⟩
theorem Start.tabB (S : Start K mg mb cs s a vs ns) (p : Addr × Addr) (hp : p ∈ cs) : LamX.TabB (hidT s.heap (hS K cs a vs ns)) mg p.1 p.2 := by
  have tp := S.tab p hp
  obtain ⟨og, eg, ng, g1, g2, _⟩ := S.top
  refine ⟨?_, ?_, fun z => ?_⟩
  · obtain ⟨o, us, f1, f2, f3, f4, f5, f6, f7, e, c1, c2, c3, cr⟩ := S.code p hp
    refine ⟨o, us, f1, f2, f3, f4, f5, f6, f7, hidT_get e (S.free e (fun z => ?_) (by rw [c2]; exact fun _ _ z => nomatch z)), c1, c2, c3, cr⟩
    rw [c2] at z
    cases z
    simp at c3
  · obtain ⟨b, o, b1, b2, b3, b4, b5, b6⟩ := S.bmod
    refine ⟨b, o, b1, b2, fun z => ?_, fun z => ?_, hidT_get b3 (S.free b3 (by rw [b6]; exact fun z => nomatch z) (by rw [b6]; exact fun _ _ z => nomatch z)), b4, b5, b6⟩
    · rw [z, g1] at b3; cases b3; rw [g2] at b6; cases b6
    · rw [z, tp] at b3; cases b3; cases b6
  · rw [z, tp] at g1; cases g1; cases g2
theorem Start.sql (S : Start K mg mb cs s a vs ns) : SqL K (hS K cs a vs ns) a (ns.map V.int) := by
  cases q : K.lookup a with
  | none =>
    have z : hS K cs a vs ns a = some (.frz (scrO vs) (.lst (ns.map V.int))) := by
      unfold hS
      rw [q]
      exact hE_scr S.scrT
    exact .inl (.inr ⟨_, z⟩)
  | some o =>
    have e := S.kin a o q
    rw [S.scr] at e
    cases e
    exact .inr ⟨_, vs.toArray, _, q, rfl, rfl, rfl, by rw [List.size_toArray, S.nums.length]; exact S.fits, vals_ints S.nums⟩
/-- THE END -/
theorem Start.ends (S : Start K mg mb cs s a vs ns)
    (go : ∀ (base : Heap) (H : Hp), L2.Mod K mg base → (∀ p ∈ cs, LamX.TabB base mg p.1 p.2) → (∀ p ∈ cs, H p.2 = some (.tbl #[])) → (∀ b u, H b = some u → (b ∈ cs.map (·.2)) ∨ b = a) → SqL K H a (ns.map V.int) → Env0 P w K mg base callerA [] s H →
      codeAny (model P w) callerA (.call (.ref fa) ⟨[.ref a], []⟩) (CR CX [] P w H s (fun v _ => v = .bl true) fun _ _ _ => False) s)
    (calm : ∀ H e u, CX [] H s (fun _ _ _ => False) e u → False) :
    codeAny (model P w) callerA (.call (.ref fa) ⟨[.ref a], []⟩) (fun r u => r = .ok (.ret (.bool true)) ∧ OldK s.heap u.heap ∧ u.os = s.os ∧ AllBare u.gens) s := by
  have env0 : Env0 P w K mg (hidT s.heap (hS K cs a vs ns)) callerA [] s (hS K cs a vs ns) :=
    ⟨rfl, S.mod, fun b o e => of_hidT e, Nat.le_of_eq (hidT_size _ _), trivial, fun b hb => absurd (show b ∈ ([] : List Addr) from hb) (by simp), S.hok, .of_eq S.gens⟩
  refine codeAny_mono (go _ _ S.mod S.tabB (fun p hp => hE_tab (List.mem_map.mpr ⟨p, hp, rfl⟩)) (fun b u z => (hE_inv z).elim (fun m => .inl m.1) fun m => .inr m.2.1) S.sql env0) fun r u h => ?_
  cases r with
  | error e => exact (calm _ e u h).elim
  | ok fl => cases fl with
    | ret x =>
      obtain ⟨v, H', os, bare, un, ok', rv, rfl⟩ := h
      obtain rfl : x = Value.bool true := rv
      have rest : ∀ b o, b ∉ cs.map (·.2) → s.heap.get? b = some o → u.heap.get? b = some o := fun b o nb e => by
        cases q : hS K cs a vs ns b with
        | none => exact un.keep b o e q (fun z => absurd (show b ∈ ([] : List Addr) from z) (by simp)) (by simp)
        | some y =>
          rcases hE_inv q with ⟨m, _⟩ | ⟨_, rfl, rfl⟩
          · exact absurd m nb
          · obtain ⟨e2, _⟩ := ok' _ _ (un.frzs _ _ _ q)
            rw [S.scr] at e
            cases e
            exact e2
      have more : ∀ p ∈ cs, ∃ m : Array Value, u.heap.get? p.2 = some { cls := .none, data := .fields m } := fun p hp => by
        obtain ⟨m, z⟩ := un.tbls p.2 #[] (hE_tab (List.mem_map.mpr ⟨p, hp, rfl⟩))
        exact ⟨_, ok' p.2 _ z⟩
      refine ⟨rfl, ⟨fun b o e => ?_, fun b o e => ?_⟩, os, bare⟩
      · by_cases m : b ∈ cs.map (·.2)
        · obtain ⟨p, hp, rfl⟩ := List.mem_map.mp m
          obtain ⟨w', hw⟩ := more p hp
          rw [S.tab p hp] at e
          cases e
          exact .inr (.inl ⟨((S.code p hp).tab (S.tab p hp)).isCodeTable, rfl, #[], w', rfl, by rw [Array.empty_append]; exact hw⟩)
        · exact .inl (rest b o m e)
      · by_cases m : b ∈ cs.map (·.2)
        · obtain ⟨p, hp, rfl⟩ := List.mem_map.mp m
          obtain ⟨w', hw⟩ := more p hp
          exact ⟨_, hw⟩
        · exact ⟨o, rest b o m e⟩
    | _ => exact h.elim
end
end DL

end
section
namespace DL
open PySem PySem.Spec L2 PyProof.Rows

/-- what is known of the law's def, where the head's heap is h -/
def LawD (l : PySem.W.OpenLaw) (w : World) (K : PySem.W.Frag) (k n : Nat) (x : Str) (mg : Str → Option Value) (fa : Addr) (h : Heap) : Prop :=
  ∃ (fd : FuncData) (cs : List (Addr × Addr)) (cl : Nat → Addr) (m : PM), (∀ p ∈ cs, h.get? p.2 = some tabO) ∧ (∀ p ∈ cs, K.lookup p.2 = none) ∧ (∀ p ∈ cs, PySem.W.CodeHd h p.1 p.2) ∧ (∀ (s : Shared) (u : Value), BindsTo s fd ⟨[u], []⟩ [(x, u)]) ∧
    (∀ ns : List Int, ns.length ≤ n → (∀ z ∈ ns, Builtin.Int.intBits z ≤ 1048576) → m [.fz (ns.map .int)] = .ok (.bl true)) ∧
    ∀ base : Heap, K.In base → base.Ns mainGlobals mg → (∀ p ∈ cs, LamX.TabB base mg p.1 p.2) → FnD l.prog w K mg base (L2.CX l.prog w) k fa fd [x] (spP cl K 1 m)
theorem none0_cut {H : Hp} {a : Addr} {K : PySem.W.Frag} {xs : List V} (h : SqL K H a xs) : SqL K (cut H none0) a xs := by
  rcases h with (h | ⟨o, h⟩) | h
  · exact .inl (.inl (cut_ge h rfl))
  · exact .inl (.inr ⟨o, cut_ge h rfl⟩)
  · exact .inr h
theorem ints_dr {cl : Nat → Addr} {K : PySem.W.Frag} {H : Hp} : ∀ ns : List Int, DrA cl K H (ns.map V.int) (ns.map D.int)
  | [] => .nil
  | z :: ns => .cons (.int z) (ints_dr ns)
theorem walk_d {l : PySem.W.OpenLaw} {n k : Nat} {q : Program} {loose : List Str} {XP : (Str → Option Value) → Heap → Prop} {YP : World → Heap → Prop} {d : DefRec} {K : Params → PySem.W.Frag} {x : Str}
    (hn : l.most = some n) (hn2 : n ≤ sizeLine) (hdf : d.params.defaults = []) (hr : Room k callerA) (hY : ∀ (w : World) (h : Heap), YP w h → (K w.params).In h)
    (F : ∀ (w : World) (mg : Str → Option Value) (fa : Addr) (h : Heap), YP w h → (K w.params).In h → h.Ns mainGlobals mg → mg d.name = some (.ref fa) → LawD l w (K w.params) k n x mg fa h) :
    PySem.W.WalkO q loose XP YP l.row.toRowW d [] (fun f vs => PySem.call f vs) := by
  refine Att.attach_callB hn hdf fun w s₀ s₁ mg mb fa o pm cd doc a vs ns G Y ho hd hcd hmg hobj hints hlen hbits hg => ?_
  have KX := hY w _ Y
  obtain ⟨fd, cs, cl, m, hT, nT, C, hb, hm, hF⟩ := F w mg fa _ Y KX G.T.g hmg
  have S : Start (K w.params) mg mb cs s₁ a vs ns := ⟨KX, G.T.g, G.T.b, G.T.builtins, G.T.nolimit, hg, hT, nT, C, G.T.bmain, hobj, hints, Nat.le_trans hlen hn2⟩
  refine S.ends (CX := L2.CX l.prog w) (fun base H M TB tabs only sq e0 => ?_) fun H e u h => ?_
  · refine (hF base M.kin M.glob TB).run callerA [] s₁ H ⟨[.ref a], []⟩ [.ref a] [.ref a] _ _ rfl hr e0 (hb s₁ (.ref a)) (.cons rfl .nil) ⟨rfl, none0, [.fz (ns.map .int)], (fun _ z => by cases z), .cons (.fz (none0_cut sq) (ints_dr ns)) .nil, ?_⟩
    rw [hm ns hlen hbits]
    intro v H' _ dv
    exact dr_bl dv
  · obtain ⟨_, _, _, _, _, _, _, _, _, _, _, _, z⟩ := h
    exact z
end DL

end
section
namespace DL
open PySem PySem.Spec PySem.Calls L2 PyProof.Rows
section
variable {X : Cx} {cl : Nat → Addr} {W : WX} {S : List Nat}
theorem se_weak {e : Expr} {f f' : EF} (h : SE X cl W e f) (r : ∀ env, f' env = .bad ∨ f' env = f env) : SE X cl W e f' := eImp h fun σ H Q ⟨O, P, R, env, rel, q⟩ => ⟨O, P, R, env, rel, by
  rcases r env with z | z
  · rw [z] at q; exact q.elim
  · rw [← z]; exact q⟩
theorem sb_weak {e : Expr} {f f' : EF} (h : SB X cl W e f) (r : ∀ env, f' env = .bad ∨ f' env = f env) : SB X cl W e f' := tImp h fun σ H Q ⟨O, P, R, env, rel, q⟩ => ⟨O, P, R, env, rel, by
  rcases r env with z | z
  · rw [z] at q; exact q.elim
  · rw [← z]; exact q⟩
theorem OpD.weak {f : Value → Value → Sem Value} {g g' : D → D → Option D} (h : OpD X cl f g) (w : ∀ x y z, g' x y = some z → g x y = some z) : OpD X cl f g' := by
  obtain ⟨r, h1, h2⟩ := h
  exact ⟨r, h1, fun O H x y dx dy z Q dm hx hy e q => h2 O H x y dx dy z Q dm hx hy (w _ _ _ e) q⟩
theorem CallD.weak {r : List V → Hp → VK → Prop} {g g' : List D → Option D} (h : CallD X cl r g) (w : ∀ ds z, g' ds = some z → g ds = some z) : CallD X cl r g' := fun O H xs ds z Q dm dr e q => h O H xs ds z Q dm dr (w _ _ e) q
end
mutual
def cnt : D → Nat
  | .tup xs => cntA xs + 1
  | .lst xs => cntA xs + 1
  | _ => 1
def cntA : List D → Nat
  | [] => 0
  | x :: xs => cnt x + cntA xs
end
def sumP (ts : List Str) : Nat := (ts.map fun t => t.length + 2).sum
theorem from_len : ∀ (ts : List Str) (k : Nat) (acc : Str), (textFrom k acc ts).length ≤ acc.length + sumP ts
  | [], k, acc => by show acc.length ≤ _; omega
  | t :: r, k, acc => by
    have ih := from_len r (k + 1) (acc ++ (if k > 0 then ", " else "" : String) ++ t)
    have e : (acc ++ (if k > 0 then ", " else "" : String) ++ t).length ≤ acc.length + 2 + t.length := by
      rw [strLen_append, strLen_append]
      have : ((if k > 0 then ", " else "" : String) : Str).length ≤ 2 := by split <;> decide
      omega
    show (textFrom (k + 1) (acc ++ (if k > 0 then ", " else "" : String) ++ t) r).length ≤ _
    have : sumP (t :: r) = (t.length + 2) + sumP r := by simp [sumP]
    omega
theorem join_len : ∀ ts : List Str, (Str.join ", " ts).length ≤ sumP ts
  | [] => by show (Str.join ", " []).length ≤ 0; decide
  | x :: r => by
    have := PySem.join_length_add (x :: r) (by simp)
    have e : PySem.piled (x :: r) = sumP (x :: r) := rfl
    omega
theorem int_len : ∀ n : Nat, n < 100 → (PyData.shown (.int (n : Int))).length ≤ 2 := by
  have h : (List.range 100).all (fun n => decide ((PyData.shown (.int (n : Int))).length ≤ 2)) = true := by decide +kernel
  intro n hn
  exact of_decide_eq_true (List.all_eq_true.mp h n (List.mem_range.mpr hn))
def gNeS : D → D → Option D
  | .str a, .str b => if a = b then some (.bl false) else none
  | _, _ => none
section
variable {X : Cx} {cl : Nat → Addr} {W : WX}
theorem od_neS : OpD X cl (compareOp .NotEq) gNeS := ⟨_, op_ne, fun O H x y dx dy z Q dm hx hy e q => by
  cases dx <;> cases dy <;> simp only [gNeS, reduceCtorEq] at e
  split at e
  · rename_i c
    cases e
    subst c
    rw [dr_str hx, dr_str hy]
    refine ⟨rfl, ?_⟩
    rw [show (!decide (V.str _ = V.str _)) = false by simp]
    exact q _ H (Same.refl H) (.bl false)
  · cases e⟩
end
/-! ### repr(a) != repr(b), both alike: numbers, truth values, lists, tuples -/
mutual
def rb : D → Nat → Bool
  | .int i, _ => decide (0 ≤ i) && decide (i < 100)
  | .bl _, _ => true
  | .tup xs, k + 1 => rbA xs k
  | .lst xs, k + 1 => rbA xs k
  | _, _ => false
def rbA : List D → Nat → Bool
  | [], _ => true
  | x :: xs, k => rb x k && rbA xs k
end
mutual
def sq : D → D → Bool
  | .int i, .int j => decide (i = j)
  | .bl a, .bl b => a == b
  | .tup xs, .tup ys => sqA xs ys
  | .lst xs, .lst ys => sqA xs ys
  | _, _ => false
def sqA : List D → List D → Bool
  | [], [] => true
  | x :: xs, y :: ys => sq x y && sqA xs ys
  | _, _ => false
end
mutual
theorem sq_eq : ∀ {x y : D}, sq x y = true → x = y
  | .int i, .int j, h => by rw [sq, decide_eq_true_eq] at h; rw [h]
  | .bl a, .bl b, h => by rw [sq] at h; rw [eq_of_beq h]
  | .tup xs, .tup ys, h => by rw [sq] at h; rw [sqA_eq h]
  | .lst xs, .lst ys, h => by rw [sq] at h; rw [sqA_eq h]
  | .int _, .non, h | .int _, .bl _, h | .int _, .str _, h | .int _, .lst _, h | .int _, .tup _, h | .int _, .obj _ _, h | .int _, .fz _, h | .int _, .dk _ _, h
  | .bl _, .non, h | .bl _, .int _, h | .bl _, .str _, h | .bl _, .lst _, h | .bl _, .tup _, h | .bl _, .obj _ _, h | .bl _, .fz _, h | .bl _, .dk _ _, h
  | .tup _, .non, h | .tup _, .int _, h | .tup _, .bl _, h | .tup _, .str _, h | .tup _, .lst _, h | .tup _, .obj _ _, h | .tup _, .fz _, h | .tup _, .dk _ _, h
  | .lst _, .non, h | .lst _, .int _, h | .lst _, .bl _, h | .lst _, .str _, h | .lst _, .tup _, h | .lst _, .obj _ _, h | .lst _, .fz _, h | .lst _, .dk _ _, h
  | .non, _, h | .str _, _, h | .obj _ _, _, h | .fz _, _, h | .dk _ _, _, h => by simp [sq] at h
theorem sqA_eq : ∀ {x y : List D}, sqA x y = true → x = y
  | [], [], _ => rfl
  | x :: xs, y :: ys, h => by rw [sqA, Bool.and_eq_true] at h; rw [sq_eq h.1, sqA_eq h.2]
  | [], _ :: _, h | _ :: _, [], h => by simp [sqA] at h
end
mutual
theorem rb_py : ∀ {d : D} {k : Nat}, rb d k = true → ∃ p, toPy d = some p ∧ p.depth ≤ k ∧ p.showable = true ∧ p.hasDict = false ∧ p.shown.length + 2 ≤ 8 * cnt d
  | .int i, k, h => by
    rw [rb, Bool.and_eq_true, decide_eq_true_eq, decide_eq_true_eq] at h
    obtain ⟨n, rfl⟩ := Int.eq_ofNat_of_zero_le h.1
    have l := int_len n (by omega)
    refine ⟨.int n, by rw [toPy], by rw [PyData.depth]; omega, ?_, by rw [PyData.hasDict], by simp only [cnt]; omega⟩
    rw [PyData.showable, decide_eq_true_eq]
    have : (n : Int).natAbs.log2 ≤ (n : Int).natAbs := Nat.log2_le_self _
    omega
  | .bl b, k, _ => by
    refine ⟨.bool b, by rw [toPy], by rw [PyData.depth]; omega, by rw [PyData.showable], by rw [PyData.hasDict], ?_⟩
    have : (PyData.shown (.bool b)).length ≤ 5 := by cases b <;> decide +kernel
    simp only [cnt]; omega
  | .tup xs, k + 1, h => by
    rw [rb] at h
    obtain ⟨ps, e, dp, a, b, c⟩ := rbA_py h
    refine ⟨.tuple ps, by rw [toPy, e]; rfl, by rw [PyData.depth]; omega, by rw [PyData.showable]; exact a, by rw [PyData.hasDict]; exact b, ?_⟩
    rw [PyData.shown, cnt]
    unfold PySem.tupleText
    rw [strLen_append, strLen_append]
    have j := join_len (PyData.shownAll ps)
    have l1 : (("(" : Str)).length = 1 := by decide
    have l2 : ((if (PyData.shownAll ps).length == 1 then ",)" else ")" : String) : Str).length ≤ 2 := by split <;> decide
    omega
  | .lst xs, k + 1, h => by
    rw [rb] at h
    obtain ⟨ps, e, dp, a, b, c⟩ := rbA_py h
    refine ⟨.list ps, by rw [toPy, e]; rfl, by rw [PyData.depth]; omega, by rw [PyData.showable]; exact a, by rw [PyData.hasDict]; exact b, ?_⟩
    rw [PyData.shown, cnt]
    unfold PySem.listText
    rw [strLen_append]
    have j := from_len (PyData.shownAll ps) 0 "["
    have l1 : (("[" : Str)).length = 1 := by decide
    have l2 : (("]" : Str)).length = 1 := by decide
    omega
  | .tup _, 0, h | .lst _, 0, h => by simp [rb] at h
  | .non, _, h | .str _, _, h | .obj _ _, _, h | .fz _, _, h | .dk _ _, _, h => by simp [rb] at h
theorem rbA_py : ∀ {ds : List D} {k : Nat}, rbA ds k = true → ∃ ps, toPyA ds = some ps ∧ PyData.depthAll ps ≤ k ∧ PyData.showableAll ps = true ∧ PyData.hasDictAll ps = false ∧ sumP (PyData.shownAll ps) ≤ 8 * cntA ds
  | [], k, _ => ⟨[], by rw [toPyA], by rw [PyData.depthAll]; omega, by rw [PyData.showableAll], by rw [PyData.hasDictAll], by rw [PyData.shownAll]; exact Nat.zero_le _⟩
  | x :: xs, k, h => by
    rw [rbA, Bool.and_eq_true] at h
    obtain ⟨p, e1, d1, a, b, c⟩ := rb_py h.1
    obtain ⟨ps, e2, d2, a', b', c'⟩ := rbA_py h.2
    refine ⟨p :: ps, by rw [toPyA, e1, e2]; rfl, by rw [PyData.depthAll]; omega, by rw [PyData.showableAll, a, a']; rfl, by rw [PyData.hasDictAll, b, b']; rfl, ?_⟩
    rw [PyData.shownAll, cntA]
    have : sumP (p.shown :: PyData.shownAll ps) = (p.shown.length + 2) + sumP (PyData.shownAll ps) := by simp [sumP]
    omega
end
def rbOk (d : D) : Bool := rb d 8 && Nat.ble (cnt d) 100000
theorem rbOk_repr {d : D} (h : rbOk d = true) : ∃ s, gRepr [d] = some (.str s) := by
  unfold rbOk at h
  rw [Bool.and_eq_true] at h
  obtain ⟨p, e, dp, a, b, l⟩ := rb_py h.1
  have n := Nat.le_of_ble_eq_true h.2
  refine ⟨p.shown, ?_⟩
  have k : okR p = true := by
    unfold okR
    rw [a, b]
    have z : p.shown.length ≤ sizeLine := by rw [sizeLine_eq]; omega
    have z2 : p.depth ≤ 60 := by omega
    simp [z, z2]
  simp only [gRepr, e, k, if_true]
def gEqS : D → D → Option D
  | .str a, .str b => if a = b then some (.bl true) else none
  | _, _ => none
def dReprB (r : Bool) (fa fb : EF) : EF := fun env => (fa env).bind fun x env1 => if rbOk x = true then (fb env1).bind fun y env2 => if sq x y = true then .ok (.bl r) env2 else .bad else .bad
section
variable {X : Cx} {cl : Nat → Addr} {W : WX}
theorem od_eqS : OpD X cl (compareOp .Eq) gEqS := ⟨_, op_eq, fun O H x y dx dy z Q dm hx hy e q => by
  cases dx <;> cases dy <;> simp only [gEqS, reduceCtorEq] at e
  split at e
  · rename_i c
    cases e
    subst c
    rw [dr_str hx, dr_str hy]
    refine ⟨rfl, ?_⟩
    rw [show (decide (V.str _ = V.str _)) = true by simp]
    exact q _ H (Same.refl H) (.bl true)
  · cases e⟩
theorem repr_weak {g : D → D → Option D} {r : Bool} (hg : ∀ s, g (.str s) (.str s) = some (.bl r)) (fa fb : EF) (env : Slots) : dReprB r fa fb env = .bad ∨ dReprB r fa fb env = dOp g (dCB gRepr (dCons fa dNil)) (dCB gRepr (dCons fb dNil)) env := by
  unfold dReprB dOp dCB dCons dNil
  cases e1 : fa env with
  | bad => exact .inl rfl
  | err c fs env1 => exact .inr rfl
  | ok x env1 =>
    simp only [Res.bind_ok]
    by_cases c : rbOk x = true
    · rw [if_pos c]
      obtain ⟨s, hs⟩ := rbOk_repr c
      rw [hs]
      simp only [Res.bind_ok]
      cases e2 : fb env1 with
      | bad => exact .inl rfl
      | err c fs env2 => exact .inr rfl
      | ok y env2 =>
        simp only [Res.bind_ok]
        by_cases c2 : sq x y = true
        · rw [if_pos c2]
          have := sq_eq c2
          subst this
          rw [hs]
          simp only [Res.bind_ok]
          rw [hg s]
          exact .inr rfl
        · rw [if_neg c2]; exact .inl rfl
    · rw [if_neg c]; exact .inl rfl
theorem b_reprNeB {a b : Expr} {fa fb : EF} {p p' pos pos' cpos : Pos} (hG : X.A.guards = some []) (hu : X.A.units + 64 < cLine) (hg : Gl X "repr") (hm : X.mg "repr" = none) (ha : SE X cl W a fa) (hb : SE X cl W b fb)
    (h1 : starEach (a :: []) X.env = (false, eval a X.env) :: starEach [] X.env := by rfl) (h2 : starEach (b :: []) X.env = (false, eval b X.env) :: starEach [] X.env := by rfl)
    (k1 : (backTo pos (starEach [] X.env)).any (·.1) = false := by rfl) (k2 : (backTo pos' (starEach [] X.env)).any (·.1) = false := by rfl)
    (hmk : behindInMarks .NotEq (.Call (.Name "repr" p') [b] [] pos') = false := by rfl) : SB X cl W (.Compare (.Call (.Name "repr" p) [a] [] pos) [.NotEq] [.Call (.Name "repr" p') [b] [] pos'] cpos) (dReprB false fa fb) :=
  sb_weak (b_cmp od_neS (s_repr hG hu hg hm ha h1 k1) (s_repr hG hu hg hm hb h2 k2) hmk) (repr_weak (fun s => by simp [gNeS]) fa fb)
theorem s_reprEqB {a b : Expr} {fa fb : EF} {p p' pos pos' cpos : Pos} (hG : X.A.guards = some []) (hu : X.A.units + 64 < cLine) (hg : Gl X "repr") (hm : X.mg "repr" = none) (ha : SE X cl W a fa) (hb : SE X cl W b fb)
    (h1 : starEach (a :: []) X.env = (false, eval a X.env) :: starEach [] X.env := by rfl) (h2 : starEach (b :: []) X.env = (false, eval b X.env) :: starEach [] X.env := by rfl)
    (k1 : (backTo pos (starEach [] X.env)).any (·.1) = false := by rfl) (k2 : (backTo pos' (starEach [] X.env)).any (·.1) = false := by rfl)
    (hmk : behindInMarks .Eq (.Call (.Name "repr" p') [b] [] pos') = false := by rfl) : SE X cl W (.Compare (.Call (.Name "repr" p) [a] [] pos) [.Eq] [.Call (.Name "repr" p') [b] [] pos'] cpos) (dReprB true fa fb) :=
  se_weak (s_cmp od_eqS (s_repr hG hu hg hm ha h1 k1) (s_repr hG hu hg hm hb h2 k2) hmk) (repr_weak (fun s => by simp [gEqS]) fa fb)
end
end DL

end
section
/- names set aside: the top's trees need no second reading, and their equations would fill the compiled file -/
def PySem.W.Fast.tw11990826697465397004 : Nat := 0
def PySem.W.Fast.tw9239119359068647991 : Nat := 0
def PySem.W.Fast.tw6656714681141522738 : Nat := 0
def PySem.W.Fast.tw5773270204290786865 : Nat := 0
def PySem.W.Fast.tw15389382301299670688 : Nat := 0
def PySem.W.Fast.tw7625514829218306832 : Nat := 0
def PySem.W.Fast.tw1251592376871996179 : Nat := 0
def PySem.W.Fast.tw18230773565109589136 : Nat := 0
def PySem.W.Fast.tw14702930677265438193 : Nat := 0
def PySem.W.Fast.tw17199251904990853890 : Nat := 0
def PySem.W.Fast.tw16236354903014269980 : Nat := 0
def PySem.W.Fast.tw12289260144969418179 : Nat := 0
def PySem.W.Fast.tw16766093555557212256 : Nat := 0
def PySem.W.Fast.tw14684957800889958879 : Nat := 0
def PySem.W.Fast.tw4583457582710347664 : Nat := 0
def PySem.W.Fast.tw8035115502169726197 : Nat := 0
def PySem.W.Fast.tw8332101663013056075 : Nat := 0
def PySem.W.Fast.tw7176986532177108032 : Nat := 0
def PySem.W.Fast.tw10235086433584307432 : Nat := 0
def PySem.W.Fast.tw6940373094938952242 : Nat := 0
def PySem.W.Fast.tw8935510820028918620 : Nat := 0
def PySem.W.Fast.tw8399020718623376964 : Nat := 0
def PySem.W.Fast.tw5227617760972626729 : Nat := 0
def PySem.W.Fast.tw688132339971479805 : Nat := 0
def PySem.W.Fast.tw12988295432772395768 : Nat := 0
def PySem.W.Fast.tw7941398897452377419 : Nat := 0
def PySem.W.Fast.tw17822465091681011531 : Nat := 0
def PySem.W.Fast.tw4934389949005060507 : Nat := 0
def PySem.W.Fast.tw13557906160655117163 : Nat := 0
def PySem.W.Fast.tw13353824115220254777 : Nat := 0
def PySem.W.Fast.tw6490349914815509474 : Nat := 0
def PySem.W.Fast.tw15932803730105047102 : Nat := 0
def PySem.W.Fast.tw15739315749769356438 : Nat := 0
def PySem.W.Fast.tw15502578276406049074 : Nat := 0
def PySem.W.Fast.tw3324095472866484886 : Nat := 0
def PySem.W.Fast.tw15832673184380800200 : Nat := 0
def PySem.W.Fast.tw14632974505231343635 : Nat := 0
def PySem.W.Fast.tw2863529511510344934 : Nat := 0
def PySem.W.Fast.tw16545014243195216612 : Nat := 0
def PySem.W.Fast.tw13511060863891312559 : Nat := 0
def PySem.W.Fast.tw14979628732641709109 : Nat := 0
def PySem.W.Fast.tw7914768141539138747 : Nat := 0
def PySem.W.Fast.tw16908677658819543680 : Nat := 0
open PySem PySem.W PyProof.Rows
open_top hd1 for PySem.Challenge.rw_wordshapes_k01_constants_and_errors

end
section
open PySem PySem.Spec L2 DL PySem.DLX PyProof.Rows
namespace K01
noncomputable abbrev KK (p : Params) : PySem.W.Frag := hd1.heap_39 p
def adr : List Nat := [51, 70, 89, 108, 127, 146, 165, 184, 203, 222, 241, 260, 279, 298, 317, 355, 374, 393, 412, 431, 450, 469, 488, 507, 336, 526, 545, 584, 603, 635, 647, 659, 671, 683, 695, 714, 726, 745]
def cl (c : Nat) : Addr := adr.getD c 0
abbrev bmV : List Value := [.type "ValueError", .type "Exception", .type "BaseException", .type "object"]
abbrev bmL : List Value := [.type "LookupError", .type "Exception", .type "BaseException", .type "object"]
abbrev bmA : List Value := [.type "ArithmeticError", .type "Exception", .type "BaseException", .type "object"]

theorem xt_InvalidWord (p : Params) : XTxt (KK p) bmV "ValueError.__new__" 51 := ⟨⟨_, _, _, _, _, _, _, _, _, _, _, _, _, _, _, by with_unfolding_all rfl, by with_unfolding_all rfl⟩, by with_unfolding_all rfl, by with_unfolding_all rfl, by with_unfolding_all rfl, by with_unfolding_all rfl⟩
theorem xo_InvalidWord (p : Params) : XOne (KK p) 51 48 "given" "InvalidWord.__init__" := ⟨⟨by with_unfolding_all rfl, by with_unfolding_all rfl⟩, by with_unfolding_all rfl, ⟨_, _, _, _, _, _, _, _, _, _, _, _, _, _, by with_unfolding_all rfl, by with_unfolding_all rfl⟩⟩
theorem xc_InvalidWord (p : Params) : ExcC (KK p) 51 := ⟨by with_unfolding_all rfl, by with_unfolding_all rfl, by with_unfolding_all rfl, by with_unfolding_all rfl, by with_unfolding_all rfl, by with_unfolding_all rfl, by with_unfolding_all rfl, by with_unfolding_all rfl⟩
theorem xt_InvalidLetter (p : Params) : XTxt (KK p) bmV "ValueError.__new__" 70 := ⟨⟨_, _, _, _, _, _, _, _, _, _, _, _, _, _, _, by with_unfolding_all rfl, by with_unfolding_all rfl⟩, by with_unfolding_all rfl, by with_unfolding_all rfl, by with_unfolding_all rfl, by with_unfolding_all rfl⟩
theorem xo_InvalidLetter (p : Params) : XOne (KK p) 70 67 "given" "InvalidLetter.__init__" := ⟨⟨by with_unfolding_all rfl, by with_unfolding_all rfl⟩, by with_unfolding_all rfl, ⟨_, _, _, _, _, _, _, _, _, _, _, _, _, _, by with_unfolding_all rfl, by with_unfolding_all rfl⟩⟩
theorem xc_InvalidLetter (p : Params) : ExcC (KK p) 70 := ⟨by with_unfolding_all rfl, by with_unfolding_all rfl, by with_unfolding_all rfl, by with_unfolding_all rfl, by with_unfolding_all rfl, by with_unfolding_all rfl, by with_unfolding_all rfl, by with_unfolding_all rfl⟩
theorem xt_InvalidShape (p : Params) : XTxt (KK p) bmV "ValueError.__new__" 89 := ⟨⟨_, _, _, _, _, _, _, _, _, _, _, _, _, _, _, by with_unfolding_all rfl, by with_unfolding_all rfl⟩, by with_unfolding_all rfl, by with_unfolding_all rfl, by with_unfolding_all rfl, by with_unfolding_all rfl⟩
theorem xo_InvalidShape (p : Params) : XOne (KK p) 89 86 "given" "InvalidShape.__init__" := ⟨⟨by with_unfolding_all rfl, by with_unfolding_all rfl⟩, by with_unfolding_all rfl, ⟨_, _, _, _, _, _, _, _, _, _, _, _, _, _, by with_unfolding_all rfl, by with_unfolding_all rfl⟩⟩
theorem xc_InvalidShape (p : Params) : ExcC (KK p) 89 := ⟨by with_unfolding_all rfl, by with_unfolding_all rfl, by with_unfolding_all rfl, by with_unfolding_all rfl, by with_unfolding_all rfl, by with_unfolding_all rfl, by with_unfolding_all rfl, by with_unfolding_all rfl⟩
theorem xt_InvalidRows (p : Params) : XTxt (KK p) bmV "ValueError.__new__" 108 := ⟨⟨_, _, _, _, _, _, _, _, _, _, _, _, _, _, _, by with_unfolding_all rfl, by with_unfolding_all rfl⟩, by with_unfolding_all rfl, by with_unfolding_all rfl, by with_unfolding_all rfl, by with_unfolding_all rfl⟩
theorem xo_InvalidRows (p : Params) : XOne (KK p) 108 105 "given" "InvalidRows.__init__" := ⟨⟨by with_unfolding_all rfl, by with_unfolding_all rfl⟩, by with_unfolding_all rfl, ⟨_, _, _, _, _, _, _, _, _, _, _, _, _, _, by with_unfolding_all rfl, by with_unfolding_all rfl⟩⟩
theorem xc_InvalidRows (p : Params) : ExcC (KK p) 108 := ⟨by with_unfolding_all rfl, by with_unfolding_all rfl, by with_unfolding_all rfl, by with_unfolding_all rfl, by with_unfolding_all rfl, by with_unfolding_all rfl, by with_unfolding_all rfl, by with_unfolding_all rfl⟩
theorem xt_InvalidRow (p : Params) : XTxt (KK p) bmV "ValueError.__new__" 127 := ⟨⟨_, _, _, _, _, _, _, _, _, _, _, _, _, _, _, by with_unfolding_all rfl, by with_unfolding_all rfl⟩, by with_unfolding_all rfl, by with_unfolding_all rfl, by with_unfolding_all rfl, by with_unfolding_all rfl⟩
theorem xo_InvalidRow (p : Params) : XOne (KK p) 127 124 "given" "InvalidRow.__init__" := ⟨⟨by with_unfolding_all rfl, by with_unfolding_all rfl⟩, by with_unfolding_all rfl, ⟨_, _, _, _, _, _, _, _, _, _, _, _, _, _, by with_unfolding_all rfl, by with_unfolding_all rfl⟩⟩
theorem xc_InvalidRow (p : Params) : ExcC (KK p) 127 := ⟨by with_unfolding_all rfl, by with_unfolding_all rfl, by with_unfolding_all rfl, by with_unfolding_all rfl, by with_unfolding_all rfl, by with_unfolding_all rfl, by with_unfolding_all rfl, by with_unfolding_all rfl⟩
theorem xt_InvalidHoles (p : Params) : XTxt (KK p) bmV "ValueError.__new__" 146 := ⟨⟨_, _, _, _, _, _, _, _, _, _, _, _, _, _, _, by with_unfolding_all rfl, by with_unfolding_all rfl⟩, by with_unfolding_all rfl, by with_unfolding_all rfl, by with_unfolding_all rfl, by with_unfolding_all rfl⟩
theorem xo_InvalidHoles (p : Params) : XOne (KK p) 146 143 "given" "InvalidHoles.__init__" := ⟨⟨by with_unfolding_all rfl, by with_unfolding_all rfl⟩, by with_unfolding_all rfl, ⟨_, _, _, _, _, _, _, _, _, _, _, _, _, _, by with_unfolding_all rfl, by with_unfolding_all rfl⟩⟩
theorem xc_InvalidHoles (p : Params) : ExcC (KK p) 146 := ⟨by with_unfolding_all rfl, by with_unfolding_all rfl, by with_unfolding_all rfl, by with_unfolding_all rfl, by with_unfolding_all rfl, by with_unfolding_all rfl, by with_unfolding_all rfl, by with_unfolding_all rfl⟩
theorem xt_InvalidPair (p : Params) : XTxt (KK p) bmV "ValueError.__new__" 165 := ⟨⟨_, _, _, _, _, _, _, _, _, _, _, _, _, _, _, by with_unfolding_all rfl, by with_unfolding_all rfl⟩, by with_unfolding_all rfl, by with_unfolding_all rfl, by with_unfolding_all rfl, by with_unfolding_all rfl⟩
theorem xo_InvalidPair (p : Params) : XOne (KK p) 165 162 "given" "InvalidPair.__init__" := ⟨⟨by with_unfolding_all rfl, by with_unfolding_all rfl⟩, by with_unfolding_all rfl, ⟨_, _, _, _, _, _, _, _, _, _, _, _, _, _, by with_unfolding_all rfl, by with_unfolding_all rfl⟩⟩
theorem xc_InvalidPair (p : Params) : ExcC (KK p) 165 := ⟨by with_unfolding_all rfl, by with_unfolding_all rfl, by with_unfolding_all rfl, by with_unfolding_all rfl, by with_unfolding_all rfl, by with_unfolding_all rfl, by with_unfolding_all rfl, by with_unfolding_all rfl⟩
theorem xt_InvalidArray (p : Params) : XTxt (KK p) bmV "ValueError.__new__" 184 := ⟨⟨_, _, _, _, _, _, _, _, _, _, _, _, _, _, _, by with_unfolding_all rfl, by with_unfolding_all rfl⟩, by with_unfolding_all rfl, by with_unfolding_all rfl, by with_unfolding_all rfl, by with_unfolding_all rfl⟩
theorem xo_InvalidArray (p : Params) : XOne (KK p) 184 181 "given" "InvalidArray.__init__" := ⟨⟨by with_unfolding_all rfl, by with_unfolding_all rfl⟩, by with_unfolding_all rfl, ⟨_, _, _, _, _, _, _, _, _, _, _, _, _, _, by with_unfolding_all rfl, by with_unfolding_all rfl⟩⟩
theorem xc_InvalidArray (p : Params) : ExcC (KK p) 184 := ⟨by with_unfolding_all rfl, by with_unfolding_all rfl, by with_unfolding_all rfl, by with_unfolding_all rfl, by with_unfolding_all rfl, by with_unfolding_all rfl, by with_unfolding_all rfl, by with_unfolding_all rfl⟩
theorem xt_InvalidPlace (p : Params) : XTxt (KK p) bmV "ValueError.__new__" 203 := ⟨⟨_, _, _, _, _, _, _, _, _, _, _, _, _, _, _, by with_unfolding_all rfl, by with_unfolding_all rfl⟩, by with_unfolding_all rfl, by with_unfolding_all rfl, by with_unfolding_all rfl, by with_unfolding_all rfl⟩
theorem xo_InvalidPlace (p : Params) : XOne (KK p) 203 200 "given" "InvalidPlace.__init__" := ⟨⟨by with_unfolding_all rfl, by with_unfolding_all rfl⟩, by with_unfolding_all rfl, ⟨_, _, _, _, _, _, _, _, _, _, _, _, _, _, by with_unfolding_all rfl, by with_unfolding_all rfl⟩⟩
theorem xc_InvalidPlace (p : Params) : ExcC (KK p) 203 := ⟨by with_unfolding_all rfl, by with_unfolding_all rfl, by with_unfolding_all rfl, by with_unfolding_all rfl, by with_unfolding_all rfl, by with_unfolding_all rfl, by with_unfolding_all rfl, by with_unfolding_all rfl⟩
theorem xt_InvalidNumber (p : Params) : XTxt (KK p) bmV "ValueError.__new__" 222 := ⟨⟨_, _, _, _, _, _, _, _, _, _, _, _, _, _, _, by with_unfolding_all rfl, by with_unfolding_all rfl⟩, by with_unfolding_all rfl, by with_unfolding_all rfl, by with_unfolding_all rfl, by with_unfolding_all rfl⟩
theorem xo_InvalidNumber (p : Params) : XOne (KK p) 222 219 "given" "InvalidNumber.__init__" := ⟨⟨by with_unfolding_all rfl, by with_unfolding_all rfl⟩, by with_unfolding_all rfl, ⟨_, _, _, _, _, _, _, _, _, _, _, _, _, _, by with_unfolding_all rfl, by with_unfolding_all rfl⟩⟩
theorem xc_InvalidNumber (p : Params) : ExcC (KK p) 222 := ⟨by with_unfolding_all rfl, by with_unfolding_all rfl, by with_unfolding_all rfl, by with_unfolding_all rfl, by with_unfolding_all rfl, by with_unfolding_all rfl, by with_unfolding_all rfl, by with_unfolding_all rfl⟩
theorem xt_InvalidAmounts (p : Params) : XTxt (KK p) bmV "ValueError.__new__" 241 := ⟨⟨_, _, _, _, _, _, _, _, _, _, _, _, _, _, _, by with_unfolding_all rfl, by with_unfolding_all rfl⟩, by with_unfolding_all rfl, by with_unfolding_all rfl, by with_unfolding_all rfl, by with_unfolding_all rfl⟩
theorem xo_InvalidAmounts (p : Params) : XOne (KK p) 241 238 "given" "InvalidAmounts.__init__" := ⟨⟨by with_unfolding_all rfl, by with_unfolding_all rfl⟩, by with_unfolding_all rfl, ⟨_, _, _, _, _, _, _, _, _, _, _, _, _, _, by with_unfolding_all rfl, by with_unfolding_all rfl⟩⟩
theorem xc_InvalidAmounts (p : Params) : ExcC (KK p) 241 := ⟨by with_unfolding_all rfl, by with_unfolding_all rfl, by with_unfolding_all rfl, by with_unfolding_all rfl, by with_unfolding_all rfl, by with_unfolding_all rfl, by with_unfolding_all rfl, by with_unfolding_all rfl⟩
theorem xt_InvalidGrowth (p : Params) : XTxt (KK p) bmV "ValueError.__new__" 260 := ⟨⟨_, _, _, _, _, _, _, _, _, _, _, _, _, _, _, by with_unfolding_all rfl, by with_unfolding_all rfl⟩, by with_unfolding_all rfl, by with_unfolding_all rfl, by with_unfolding_all rfl, by with_unfolding_all rfl⟩
theorem xo_InvalidGrowth (p : Params) : XOne (KK p) 260 257 "given" "InvalidGrowth.__init__" := ⟨⟨by with_unfolding_all rfl, by with_unfolding_all rfl⟩, by with_unfolding_all rfl, ⟨_, _, _, _, _, _, _, _, _, _, _, _, _, _, by with_unfolding_all rfl, by with_unfolding_all rfl⟩⟩
theorem xc_InvalidGrowth (p : Params) : ExcC (KK p) 260 := ⟨by with_unfolding_all rfl, by with_unfolding_all rfl, by with_unfolding_all rfl, by with_unfolding_all rfl, by with_unfolding_all rfl, by with_unfolding_all rfl, by with_unfolding_all rfl, by with_unfolding_all rfl⟩
theorem xt_InvalidBasis (p : Params) : XTxt (KK p) bmV "ValueError.__new__" 279 := ⟨⟨_, _, _, _, _, _, _, _, _, _, _, _, _, _, _, by with_unfolding_all rfl, by with_unfolding_all rfl⟩, by with_unfolding_all rfl, by with_unfolding_all rfl, by with_unfolding_all rfl, by with_unfolding_all rfl⟩
theorem xo_InvalidBasis (p : Params) : XOne (KK p) 279 276 "given" "InvalidBasis.__init__" := ⟨⟨by with_unfolding_all rfl, by with_unfolding_all rfl⟩, by with_unfolding_all rfl, ⟨_, _, _, _, _, _, _, _, _, _, _, _, _, _, by with_unfolding_all rfl, by with_unfolding_all rfl⟩⟩
theorem xc_InvalidBasis (p : Params) : ExcC (KK p) 279 := ⟨by with_unfolding_all rfl, by with_unfolding_all rfl, by with_unfolding_all rfl, by with_unfolding_all rfl, by with_unfolding_all rfl, by with_unfolding_all rfl, by with_unfolding_all rfl, by with_unfolding_all rfl⟩
theorem xt_InvalidTerms (p : Params) : XTxt (KK p) bmV "ValueError.__new__" 298 := ⟨⟨_, _, _, _, _, _, _, _, _, _, _, _, _, _, _, by with_unfolding_all rfl, by with_unfolding_all rfl⟩, by with_unfolding_all rfl, by with_unfolding_all rfl, by with_unfolding_all rfl, by with_unfolding_all rfl⟩
theorem xo_InvalidTerms (p : Params) : XOne (KK p) 298 295 "given" "InvalidTerms.__init__" := ⟨⟨by with_unfolding_all rfl, by with_unfolding_all rfl⟩, by with_unfolding_all rfl, ⟨_, _, _, _, _, _, _, _, _, _, _, _, _, _, by with_unfolding_all rfl, by with_unfolding_all rfl⟩⟩
theorem xc_InvalidTerms (p : Params) : ExcC (KK p) 298 := ⟨by with_unfolding_all rfl, by with_unfolding_all rfl, by with_unfolding_all rfl, by with_unfolding_all rfl, by with_unfolding_all rfl, by with_unfolding_all rfl, by with_unfolding_all rfl, by with_unfolding_all rfl⟩
theorem xt_InvalidHive (p : Params) : XTxt (KK p) bmV "ValueError.__new__" 317 := ⟨⟨_, _, _, _, _, _, _, _, _, _, _, _, _, _, _, by with_unfolding_all rfl, by with_unfolding_all rfl⟩, by with_unfolding_all rfl, by with_unfolding_all rfl, by with_unfolding_all rfl, by with_unfolding_all rfl⟩
theorem xo_InvalidHive (p : Params) : XOne (KK p) 317 314 "given" "InvalidHive.__init__" := ⟨⟨by with_unfolding_all rfl, by with_unfolding_all rfl⟩, by with_unfolding_all rfl, ⟨_, _, _, _, _, _, _, _, _, _, _, _, _, _, by with_unfolding_all rfl, by with_unfolding_all rfl⟩⟩
theorem xc_InvalidHive (p : Params) : ExcC (KK p) 317 := ⟨by with_unfolding_all rfl, by with_unfolding_all rfl, by with_unfolding_all rfl, by with_unfolding_all rfl, by with_unfolding_all rfl, by with_unfolding_all rfl, by with_unfolding_all rfl, by with_unfolding_all rfl⟩
theorem xt_InvalidHidden (p : Params) : XTxt (KK p) bmV "ValueError.__new__" 355 := ⟨⟨_, _, _, _, _, _, _, _, _, _, _, _, _, _, _, by with_unfolding_all rfl, by with_unfolding_all rfl⟩, by with_unfolding_all rfl, by with_unfolding_all rfl, by with_unfolding_all rfl, by with_unfolding_all rfl⟩
theorem xo_InvalidHidden (p : Params) : XOne (KK p) 355 352 "given" "InvalidHidden.__init__" := ⟨⟨by with_unfolding_all rfl, by with_unfolding_all rfl⟩, by with_unfolding_all rfl, ⟨_, _, _, _, _, _, _, _, _, _, _, _, _, _, by with_unfolding_all rfl, by with_unfolding_all rfl⟩⟩
theorem xc_InvalidHidden (p : Params) : ExcC (KK p) 355 := ⟨by with_unfolding_all rfl, by with_unfolding_all rfl, by with_unfolding_all rfl, by with_unfolding_all rfl, by with_unfolding_all rfl, by with_unfolding_all rfl, by with_unfolding_all rfl, by with_unfolding_all rfl⟩
theorem xt_InvalidText (p : Params) : XTxt (KK p) bmV "ValueError.__new__" 374 := ⟨⟨_, _, _, _, _, _, _, _, _, _, _, _, _, _, _, by with_unfolding_all rfl, by with_unfolding_all rfl⟩, by with_unfolding_all rfl, by with_unfolding_all rfl, by with_unfolding_all rfl, by with_unfolding_all rfl⟩
theorem xo_InvalidText (p : Params) : XOne (KK p) 374 371 "given" "InvalidText.__init__" := ⟨⟨by with_unfolding_all rfl, by with_unfolding_all rfl⟩, by with_unfolding_all rfl, ⟨_, _, _, _, _, _, _, _, _, _, _, _, _, _, by with_unfolding_all rfl, by with_unfolding_all rfl⟩⟩
theorem xc_InvalidText (p : Params) : ExcC (KK p) 374 := ⟨by with_unfolding_all rfl, by with_unfolding_all rfl, by with_unfolding_all rfl, by with_unfolding_all rfl, by with_unfolding_all rfl, by with_unfolding_all rfl, by with_unfolding_all rfl, by with_unfolding_all rfl⟩
theorem xt_InvalidName (p : Params) : XTxt (KK p) bmV "ValueError.__new__" 393 := ⟨⟨_, _, _, _, _, _, _, _, _, _, _, _, _, _, _, by with_unfolding_all rfl, by with_unfolding_all rfl⟩, by with_unfolding_all rfl, by with_unfolding_all rfl, by with_unfolding_all rfl, by with_unfolding_all rfl⟩
theorem xo_InvalidName (p : Params) : XOne (KK p) 393 390 "given" "InvalidName.__init__" := ⟨⟨by with_unfolding_all rfl, by with_unfolding_all rfl⟩, by with_unfolding_all rfl, ⟨_, _, _, _, _, _, _, _, _, _, _, _, _, _, by with_unfolding_all rfl, by with_unfolding_all rfl⟩⟩
theorem xc_InvalidName (p : Params) : ExcC (KK p) 393 := ⟨by with_unfolding_all rfl, by with_unfolding_all rfl, by with_unfolding_all rfl, by with_unfolding_all rfl, by with_unfolding_all rfl, by with_unfolding_all rfl, by with_unfolding_all rfl, by with_unfolding_all rfl⟩
theorem xt_InvalidClaim (p : Params) : XTxt (KK p) bmV "ValueError.__new__" 412 := ⟨⟨_, _, _, _, _, _, _, _, _, _, _, _, _, _, _, by with_unfolding_all rfl, by with_unfolding_all rfl⟩, by with_unfolding_all rfl, by with_unfolding_all rfl, by with_unfolding_all rfl, by with_unfolding_all rfl⟩
theorem xo_InvalidClaim (p : Params) : XOne (KK p) 412 409 "given" "InvalidClaim.__init__" := ⟨⟨by with_unfolding_all rfl, by with_unfolding_all rfl⟩, by with_unfolding_all rfl, ⟨_, _, _, _, _, _, _, _, _, _, _, _, _, _, by with_unfolding_all rfl, by with_unfolding_all rfl⟩⟩
theorem xc_InvalidClaim (p : Params) : ExcC (KK p) 412 := ⟨by with_unfolding_all rfl, by with_unfolding_all rfl, by with_unfolding_all rfl, by with_unfolding_all rfl, by with_unfolding_all rfl, by with_unfolding_all rfl, by with_unfolding_all rfl, by with_unfolding_all rfl⟩
theorem xt_InvalidIndex (p : Params) : XTxt (KK p) bmV "ValueError.__new__" 431 := ⟨⟨_, _, _, _, _, _, _, _, _, _, _, _, _, _, _, by with_unfolding_all rfl, by with_unfolding_all rfl⟩, by with_unfolding_all rfl, by with_unfolding_all rfl, by with_unfolding_all rfl, by with_unfolding_all rfl⟩
theorem xo_InvalidIndex (p : Params) : XOne (KK p) 431 428 "given" "InvalidIndex.__init__" := ⟨⟨by with_unfolding_all rfl, by with_unfolding_all rfl⟩, by with_unfolding_all rfl, ⟨_, _, _, _, _, _, _, _, _, _, _, _, _, _, by with_unfolding_all rfl, by with_unfolding_all rfl⟩⟩
theorem xc_InvalidIndex (p : Params) : ExcC (KK p) 431 := ⟨by with_unfolding_all rfl, by with_unfolding_all rfl, by with_unfolding_all rfl, by with_unfolding_all rfl, by with_unfolding_all rfl, by with_unfolding_all rfl, by with_unfolding_all rfl, by with_unfolding_all rfl⟩
theorem xt_InvalidLine (p : Params) : XTxt (KK p) bmV "ValueError.__new__" 450 := ⟨⟨_, _, _, _, _, _, _, _, _, _, _, _, _, _, _, by with_unfolding_all rfl, by with_unfolding_all rfl⟩, by with_unfolding_all rfl, by with_unfolding_all rfl, by with_unfolding_all rfl, by with_unfolding_all rfl⟩
theorem xo_InvalidLine (p : Params) : XOne (KK p) 450 447 "given" "InvalidLine.__init__" := ⟨⟨by with_unfolding_all rfl, by with_unfolding_all rfl⟩, by with_unfolding_all rfl, ⟨_, _, _, _, _, _, _, _, _, _, _, _, _, _, by with_unfolding_all rfl, by with_unfolding_all rfl⟩⟩
theorem xc_InvalidLine (p : Params) : ExcC (KK p) 450 := ⟨by with_unfolding_all rfl, by with_unfolding_all rfl, by with_unfolding_all rfl, by with_unfolding_all rfl, by with_unfolding_all rfl, by with_unfolding_all rfl, by with_unfolding_all rfl, by with_unfolding_all rfl⟩
theorem xt_NotATable (p : Params) : XTxt (KK p) bmV "ValueError.__new__" 469 := ⟨⟨_, _, _, _, _, _, _, _, _, _, _, _, _, _, _, by with_unfolding_all rfl, by with_unfolding_all rfl⟩, by with_unfolding_all rfl, by with_unfolding_all rfl, by with_unfolding_all rfl, by with_unfolding_all rfl⟩
theorem xo_NotATable (p : Params) : XOne (KK p) 469 466 "given" "NotATable.__init__" := ⟨⟨by with_unfolding_all rfl, by with_unfolding_all rfl⟩, by with_unfolding_all rfl, ⟨_, _, _, _, _, _, _, _, _, _, _, _, _, _, by with_unfolding_all rfl, by with_unfolding_all rfl⟩⟩
theorem xc_NotATable (p : Params) : ExcC (KK p) 469 := ⟨by with_unfolding_all rfl, by with_unfolding_all rfl, by with_unfolding_all rfl, by with_unfolding_all rfl, by with_unfolding_all rfl, by with_unfolding_all rfl, by with_unfolding_all rfl, by with_unfolding_all rfl⟩
theorem xt_NotASkew (p : Params) : XTxt (KK p) bmV "ValueError.__new__" 488 := ⟨⟨_, _, _, _, _, _, _, _, _, _, _, _, _, _, _, by with_unfolding_all rfl, by with_unfolding_all rfl⟩, by with_unfolding_all rfl, by with_unfolding_all rfl, by with_unfolding_all rfl, by with_unfolding_all rfl⟩
theorem xo_NotASkew (p : Params) : XOne (KK p) 488 485 "given" "NotASkew.__init__" := ⟨⟨by with_unfolding_all rfl, by with_unfolding_all rfl⟩, by with_unfolding_all rfl, ⟨_, _, _, _, _, _, _, _, _, _, _, _, _, _, by with_unfolding_all rfl, by with_unfolding_all rfl⟩⟩
theorem xc_NotASkew (p : Params) : ExcC (KK p) 488 := ⟨by with_unfolding_all rfl, by with_unfolding_all rfl, by with_unfolding_all rfl, by with_unfolding_all rfl, by with_unfolding_all rfl, by with_unfolding_all rfl, by with_unfolding_all rfl, by with_unfolding_all rfl⟩
theorem xt_NotAMixture (p : Params) : XTxt (KK p) bmV "ValueError.__new__" 507 := ⟨⟨_, _, _, _, _, _, _, _, _, _, _, _, _, _, _, by with_unfolding_all rfl, by with_unfolding_all rfl⟩, by with_unfolding_all rfl, by with_unfolding_all rfl, by with_unfolding_all rfl, by with_unfolding_all rfl⟩
theorem xo_NotAMixture (p : Params) : XOne (KK p) 507 504 "given" "NotAMixture.__init__" := ⟨⟨by with_unfolding_all rfl, by with_unfolding_all rfl⟩, by with_unfolding_all rfl, ⟨_, _, _, _, _, _, _, _, _, _, _, _, _, _, by with_unfolding_all rfl, by with_unfolding_all rfl⟩⟩
theorem xc_NotAMixture (p : Params) : ExcC (KK p) 507 := ⟨by with_unfolding_all rfl, by with_unfolding_all rfl, by with_unfolding_all rfl, by with_unfolding_all rfl, by with_unfolding_all rfl, by with_unfolding_all rfl, by with_unfolding_all rfl, by with_unfolding_all rfl⟩
theorem xt_InvalidPattern (p : Params) : XTxt (KK p) bmV "ValueError.__new__" 336 := ⟨⟨_, _, _, _, _, _, _, _, _, _, _, _, _, _, _, by with_unfolding_all rfl, by with_unfolding_all rfl⟩, by with_unfolding_all rfl, by with_unfolding_all rfl, by with_unfolding_all rfl, by with_unfolding_all rfl⟩
theorem xo_InvalidPattern (p : Params) : XOne (KK p) 336 333 "given" "InvalidPattern.__init__" := ⟨⟨by with_unfolding_all rfl, by with_unfolding_all rfl⟩, by with_unfolding_all rfl, ⟨_, _, _, _, _, _, _, _, _, _, _, _, _, _, by with_unfolding_all rfl, by with_unfolding_all rfl⟩⟩
theorem xc_InvalidPattern (p : Params) : ExcC (KK p) 336 := ⟨by with_unfolding_all rfl, by with_unfolding_all rfl, by with_unfolding_all rfl, by with_unfolding_all rfl, by with_unfolding_all rfl, by with_unfolding_all rfl, by with_unfolding_all rfl, by with_unfolding_all rfl⟩
theorem xt_InvalidDeeds (p : Params) : XTxt (KK p) bmV "ValueError.__new__" 526 := ⟨⟨_, _, _, _, _, _, _, _, _, _, _, _, _, _, _, by with_unfolding_all rfl, by with_unfolding_all rfl⟩, by with_unfolding_all rfl, by with_unfolding_all rfl, by with_unfolding_all rfl, by with_unfolding_all rfl⟩
theorem xo_InvalidDeeds (p : Params) : XOne (KK p) 526 523 "index" "InvalidDeeds.__init__" := ⟨⟨by with_unfolding_all rfl, by with_unfolding_all rfl⟩, by with_unfolding_all rfl, ⟨_, _, _, _, _, _, _, _, _, _, _, _, _, _, by with_unfolding_all rfl, by with_unfolding_all rfl⟩⟩
theorem xc_InvalidDeeds (p : Params) : ExcC (KK p) 526 := ⟨by with_unfolding_all rfl, by with_unfolding_all rfl, by with_unfolding_all rfl, by with_unfolding_all rfl, by with_unfolding_all rfl, by with_unfolding_all rfl, by with_unfolding_all rfl, by with_unfolding_all rfl⟩
theorem xt_InvalidLog (p : Params) : XTxt (KK p) bmV "ValueError.__new__" 545 := ⟨⟨_, _, _, _, _, _, _, _, _, _, _, _, _, _, _, by with_unfolding_all rfl, by with_unfolding_all rfl⟩, by with_unfolding_all rfl, by with_unfolding_all rfl, by with_unfolding_all rfl, by with_unfolding_all rfl⟩
theorem xo_InvalidLog (p : Params) : XOne (KK p) 545 542 "index" "InvalidLog.__init__" := ⟨⟨by with_unfolding_all rfl, by with_unfolding_all rfl⟩, by with_unfolding_all rfl, ⟨_, _, _, _, _, _, _, _, _, _, _, _, _, _, by with_unfolding_all rfl, by with_unfolding_all rfl⟩⟩
theorem xc_InvalidLog (p : Params) : ExcC (KK p) 545 := ⟨by with_unfolding_all rfl, by with_unfolding_all rfl, by with_unfolding_all rfl, by with_unfolding_all rfl, by with_unfolding_all rfl, by with_unfolding_all rfl, by with_unfolding_all rfl, by with_unfolding_all rfl⟩
theorem xt_UnknownName (p : Params) : XTxt (KK p) bmL "LookupError.__new__" 584 := ⟨⟨_, _, _, _, _, _, _, _, _, _, _, _, _, _, _, by with_unfolding_all rfl, by with_unfolding_all rfl⟩, by with_unfolding_all rfl, by with_unfolding_all rfl, by with_unfolding_all rfl, by with_unfolding_all rfl⟩
theorem xo_UnknownName (p : Params) : XOne (KK p) 584 581 "given" "UnknownName.__init__" := ⟨⟨by with_unfolding_all rfl, by with_unfolding_all rfl⟩, by with_unfolding_all rfl, ⟨_, _, _, _, _, _, _, _, _, _, _, _, _, _, by with_unfolding_all rfl, by with_unfolding_all rfl⟩⟩
theorem xc_UnknownName (p : Params) : ExcC (KK p) 584 := ⟨by with_unfolding_all rfl, by with_unfolding_all rfl, by with_unfolding_all rfl, by with_unfolding_all rfl, by with_unfolding_all rfl, by with_unfolding_all rfl, by with_unfolding_all rfl, by with_unfolding_all rfl⟩
theorem xt_InUse (p : Params) : XTxt (KK p) bmL "LookupError.__new__" 603 := ⟨⟨_, _, _, _, _, _, _, _, _, _, _, _, _, _, _, by with_unfolding_all rfl, by with_unfolding_all rfl⟩, by with_unfolding_all rfl, by with_unfolding_all rfl, by with_unfolding_all rfl, by with_unfolding_all rfl⟩
theorem xo_InUse (p : Params) : XOne (KK p) 603 600 "index" "InUse.__init__" := ⟨⟨by with_unfolding_all rfl, by with_unfolding_all rfl⟩, by with_unfolding_all rfl, ⟨_, _, _, _, _, _, _, _, _, _, _, _, _, _, by with_unfolding_all rfl, by with_unfolding_all rfl⟩⟩
theorem xc_InUse (p : Params) : ExcC (KK p) 603 := ⟨by with_unfolding_all rfl, by with_unfolding_all rfl, by with_unfolding_all rfl, by with_unfolding_all rfl, by with_unfolding_all rfl, by with_unfolding_all rfl, by with_unfolding_all rfl, by with_unfolding_all rfl⟩
theorem xt_NotStandard (p : Params) : XTxt (KK p) bmA "ArithmeticError.__new__" 635 := ⟨⟨_, _, _, _, _, _, _, _, _, _, _, _, _, _, _, by with_unfolding_all rfl, by with_unfolding_all rfl⟩, by with_unfolding_all rfl, by with_unfolding_all rfl, by with_unfolding_all rfl, by with_unfolding_all rfl⟩
theorem xo_NotStandard (p : Params) : XNil (KK p) 635 619 "NoAnswer.__init__" := ⟨⟨by with_unfolding_all rfl, by with_unfolding_all rfl⟩, ⟨_, _, _, _, _, _, _, _, _, _, _, by with_unfolding_all rfl, by with_unfolding_all rfl⟩⟩
theorem xc_NotStandard (p : Params) : ExcC (KK p) 635 := ⟨by with_unfolding_all rfl, by with_unfolding_all rfl, by with_unfolding_all rfl, by with_unfolding_all rfl, by with_unfolding_all rfl, by with_unfolding_all rfl, by with_unfolding_all rfl, by with_unfolding_all rfl⟩
theorem xt_NotInside (p : Params) : XTxt (KK p) bmA "ArithmeticError.__new__" 647 := ⟨⟨_, _, _, _, _, _, _, _, _, _, _, _, _, _, _, by with_unfolding_all rfl, by with_unfolding_all rfl⟩, by with_unfolding_all rfl, by with_unfolding_all rfl, by with_unfolding_all rfl, by with_unfolding_all rfl⟩
theorem xo_NotInside (p : Params) : XNil (KK p) 647 619 "NoAnswer.__init__" := ⟨⟨by with_unfolding_all rfl, by with_unfolding_all rfl⟩, ⟨_, _, _, _, _, _, _, _, _, _, _, by with_unfolding_all rfl, by with_unfolding_all rfl⟩⟩
theorem xc_NotInside (p : Params) : ExcC (KK p) 647 := ⟨by with_unfolding_all rfl, by with_unfolding_all rfl, by with_unfolding_all rfl, by with_unfolding_all rfl, by with_unfolding_all rfl, by with_unfolding_all rfl, by with_unfolding_all rfl, by with_unfolding_all rfl⟩
theorem xt_UnlikeSizes (p : Params) : XTxt (KK p) bmA "ArithmeticError.__new__" 659 := ⟨⟨_, _, _, _, _, _, _, _, _, _, _, _, _, _, _, by with_unfolding_all rfl, by with_unfolding_all rfl⟩, by with_unfolding_all rfl, by with_unfolding_all rfl, by with_unfolding_all rfl, by with_unfolding_all rfl⟩
theorem xo_UnlikeSizes (p : Params) : XNil (KK p) 659 619 "NoAnswer.__init__" := ⟨⟨by with_unfolding_all rfl, by with_unfolding_all rfl⟩, ⟨_, _, _, _, _, _, _, _, _, _, _, by with_unfolding_all rfl, by with_unfolding_all rfl⟩⟩
theorem xc_UnlikeSizes (p : Params) : ExcC (KK p) 659 := ⟨by with_unfolding_all rfl, by with_unfolding_all rfl, by with_unfolding_all rfl, by with_unfolding_all rfl, by with_unfolding_all rfl, by with_unfolding_all rfl, by with_unfolding_all rfl, by with_unfolding_all rfl⟩
theorem xt_UnlikeShapes (p : Params) : XTxt (KK p) bmA "ArithmeticError.__new__" 671 := ⟨⟨_, _, _, _, _, _, _, _, _, _, _, _, _, _, _, by with_unfolding_all rfl, by with_unfolding_all rfl⟩, by with_unfolding_all rfl, by with_unfolding_all rfl, by with_unfolding_all rfl, by with_unfolding_all rfl⟩
theorem xo_UnlikeShapes (p : Params) : XNil (KK p) 671 619 "NoAnswer.__init__" := ⟨⟨by with_unfolding_all rfl, by with_unfolding_all rfl⟩, ⟨_, _, _, _, _, _, _, _, _, _, _, by with_unfolding_all rfl, by with_unfolding_all rfl⟩⟩
theorem xc_UnlikeShapes (p : Params) : ExcC (KK p) 671 := ⟨by with_unfolding_all rfl, by with_unfolding_all rfl, by with_unfolding_all rfl, by with_unfolding_all rfl, by with_unfolding_all rfl, by with_unfolding_all rfl, by with_unfolding_all rfl, by with_unfolding_all rfl⟩
theorem xt_NoMove (p : Params) : XTxt (KK p) bmA "ArithmeticError.__new__" 683 := ⟨⟨_, _, _, _, _, _, _, _, _, _, _, _, _, _, _, by with_unfolding_all rfl, by with_unfolding_all rfl⟩, by with_unfolding_all rfl, by with_unfolding_all rfl, by with_unfolding_all rfl, by with_unfolding_all rfl⟩
theorem xo_NoMove (p : Params) : XNil (KK p) 683 619 "NoAnswer.__init__" := ⟨⟨by with_unfolding_all rfl, by with_unfolding_all rfl⟩, ⟨_, _, _, _, _, _, _, _, _, _, _, by with_unfolding_all rfl, by with_unfolding_all rfl⟩⟩
theorem xc_NoMove (p : Params) : ExcC (KK p) 683 := ⟨by with_unfolding_all rfl, by with_unfolding_all rfl, by with_unfolding_all rfl, by with_unfolding_all rfl, by with_unfolding_all rfl, by with_unfolding_all rfl, by with_unfolding_all rfl, by with_unfolding_all rfl⟩
theorem xt_NotReduced (p : Params) : XTxt (KK p) bmA "ArithmeticError.__new__" 695 := ⟨⟨_, _, _, _, _, _, _, _, _, _, _, _, _, _, _, by with_unfolding_all rfl, by with_unfolding_all rfl⟩, by with_unfolding_all rfl, by with_unfolding_all rfl, by with_unfolding_all rfl, by with_unfolding_all rfl⟩
theorem xo_NotReduced (p : Params) : XNil (KK p) 695 619 "NoAnswer.__init__" := ⟨⟨by with_unfolding_all rfl, by with_unfolding_all rfl⟩, ⟨_, _, _, _, _, _, _, _, _, _, _, by with_unfolding_all rfl, by with_unfolding_all rfl⟩⟩
theorem xc_NotReduced (p : Params) : ExcC (KK p) 695 := ⟨by with_unfolding_all rfl, by with_unfolding_all rfl, by with_unfolding_all rfl, by with_unfolding_all rfl, by with_unfolding_all rfl, by with_unfolding_all rfl, by with_unfolding_all rfl, by with_unfolding_all rfl⟩
theorem xt_TooMany (p : Params) : XTxt (KK p) bmA "ArithmeticError.__new__" 714 := ⟨⟨_, _, _, _, _, _, _, _, _, _, _, _, _, _, _, by with_unfolding_all rfl, by with_unfolding_all rfl⟩, by with_unfolding_all rfl, by with_unfolding_all rfl, by with_unfolding_all rfl, by with_unfolding_all rfl⟩
theorem xo_TooMany (p : Params) : XOne (KK p) 714 711 "limit" "TooMany.__init__" := ⟨⟨by with_unfolding_all rfl, by with_unfolding_all rfl⟩, by with_unfolding_all rfl, ⟨_, _, _, _, _, _, _, _, _, _, _, _, _, _, by with_unfolding_all rfl, by with_unfolding_all rfl⟩⟩
theorem xc_TooMany (p : Params) : ExcC (KK p) 714 := ⟨by with_unfolding_all rfl, by with_unfolding_all rfl, by with_unfolding_all rfl, by with_unfolding_all rfl, by with_unfolding_all rfl, by with_unfolding_all rfl, by with_unfolding_all rfl, by with_unfolding_all rfl⟩
theorem xt_NothingToUndo (p : Params) : XTxt (KK p) bmA "ArithmeticError.__new__" 726 := ⟨⟨_, _, _, _, _, _, _, _, _, _, _, _, _, _, _, by with_unfolding_all rfl, by with_unfolding_all rfl⟩, by with_unfolding_all rfl, by with_unfolding_all rfl, by with_unfolding_all rfl, by with_unfolding_all rfl⟩
theorem xo_NothingToUndo (p : Params) : XNil (KK p) 726 619 "NoAnswer.__init__" := ⟨⟨by with_unfolding_all rfl, by with_unfolding_all rfl⟩, ⟨_, _, _, _, _, _, _, _, _, _, _, by with_unfolding_all rfl, by with_unfolding_all rfl⟩⟩
theorem xc_NothingToUndo (p : Params) : ExcC (KK p) 726 := ⟨by with_unfolding_all rfl, by with_unfolding_all rfl, by with_unfolding_all rfl, by with_unfolding_all rfl, by with_unfolding_all rfl, by with_unfolding_all rfl, by with_unfolding_all rfl, by with_unfolding_all rfl⟩
theorem xt_Broken (p : Params) : XTxt (KK p) bmA "ArithmeticError.__new__" 745 := ⟨⟨_, _, _, _, _, _, _, _, _, _, _, _, _, _, _, by with_unfolding_all rfl, by with_unfolding_all rfl⟩, by with_unfolding_all rfl, by with_unfolding_all rfl, by with_unfolding_all rfl, by with_unfolding_all rfl⟩
theorem xo_Broken (p : Params) : XOne (KK p) 745 742 "index" "Broken.__init__" := ⟨⟨by with_unfolding_all rfl, by with_unfolding_all rfl⟩, by with_unfolding_all rfl, ⟨_, _, _, _, _, _, _, _, _, _, _, _, _, _, by with_unfolding_all rfl, by with_unfolding_all rfl⟩⟩
theorem xc_Broken (p : Params) : ExcC (KK p) 745 := ⟨by with_unfolding_all rfl, by with_unfolding_all rfl, by with_unfolding_all rfl, by with_unfolding_all rfl, by with_unfolding_all rfl, by with_unfolding_all rfl, by with_unfolding_all rfl, by with_unfolding_all rfl⟩
end K01

end
section
open PySem PySem.Spec L2 DL PySem.DLX PyProof.Rows
namespace K01
def topS (i : Nat) : Stmt := PySem.Challenge.pw_wordshapes_k01_constants_and_errors.main.body.getD i (.Pass ⟨0, 0, 0, 0⟩)
/-- what the top has bound -/
def tabC : List (Str × Addr) := [(("InvalidWord" : Str), (51 : Addr)), (("InvalidLetter" : Str), (70 : Addr)), (("InvalidShape" : Str), (89 : Addr)), (("InvalidRows" : Str), (108 : Addr)), (("InvalidRow" : Str), (127 : Addr)), (("InvalidHoles" : Str), (146 : Addr)), (("InvalidPair" : Str), (165 : Addr)), (("InvalidArray" : Str), (184 : Addr)), (("InvalidPlace" : Str), (203 : Addr)), (("InvalidNumber" : Str), (222 : Addr)), (("InvalidAmounts" : Str), (241 : Addr)), (("InvalidGrowth" : Str), (260 : Addr)), (("InvalidBasis" : Str), (279 : Addr)), (("InvalidTerms" : Str), (298 : Addr)), (("InvalidHive" : Str), (317 : Addr)), (("InvalidHidden" : Str), (355 : Addr)), (("InvalidText" : Str), (374 : Addr)), (("InvalidName" : Str), (393 : Addr)), (("InvalidClaim" : Str), (412 : Addr)), (("InvalidIndex" : Str), (431 : Addr)), (("InvalidLine" : Str), (450 : Addr)), (("NotATable" : Str), (469 : Addr)), (("NotASkew" : Str), (488 : Addr)), (("NotAMixture" : Str), (507 : Addr)), (("InvalidPattern" : Str), (336 : Addr)), (("InvalidDeeds" : Str), (526 : Addr)), (("InvalidLog" : Str), (545 : Addr)), (("UnknownName" : Str), (584 : Addr)), (("InUse" : Str), (603 : Addr)), (("NotStandard" : Str), (635 : Addr)), (("NotInside" : Str), (647 : Addr)), (("UnlikeSizes" : Str), (659 : Addr)), (("UnlikeShapes" : Str), (671 : Addr)), (("NoMove" : Str), (683 : Addr)), (("NotReduced" : Str), (695 : Addr)), (("TooMany" : Str), (714 : Addr)), (("NothingToUndo" : Str), (726 : Addr)), (("Broken" : Str), (745 : Addr)), (("WrongValue" : Str), (31 : Addr)), (("WrongName" : Str), (564 : Addr)), (("NoAnswer" : Str), (622 : Addr)), (("_law_wrong_values" : Str), (754 : Addr)), (("_law_kinds" : Str), (761 : Addr)), (("_law_own" : Str), (766 : Addr)), (("law" : Str), (771 : Addr))]
def tabN : List (Str × Int) := [("MOST_LETTER", 12), ("MOST_LONG", 12), ("MOST_HOLES", 66), ("MOST_BOXES", 40), ("MOST_DEGREE", 8), ("MOST_ROWS", 4), ("MOST_MOVED", 9), ("MOST_LISTED", 2000)]
def tabZ : List Str := ["isinstance", "repr", "range", "ValueError", "LookupError", "ArithmeticError"]
structure Fx (mg : Str → Option Value) : Prop where
  cls : ∀ q ∈ tabC, mg q.1 = some (.ref q.2)
  num : ∀ q ∈ tabN, ∃ t, mg q.1 = some (.int q.2 t)
  non : ∀ x ∈ tabZ, mg x = none
theorem Fx.c {mg : Str → Option Value} (F : Fx mg) (x : Str) (C : Addr) (h : (x, C) ∈ tabC := by decide +kernel) : mg x = some (.ref C) := F.cls (x, C) h
theorem Fx.z {mg : Str → Option Value} (F : Fx mg) (x : Str) (h : x ∈ tabZ := by decide +kernel) : mg x = none := F.non x h
theorem s_num {X : Cx} {cl : Nat → Addr} {W : WX} {x : Str} {pos : Pos} (i : Int) (F : Fx X.mg) (hg : Gl X x) (h : (x, i) ∈ tabN := by decide +kernel) (hd : (x == ("__debug__" : Str)) = false := by decide) : SE X cl W (.Name x pos) (dC (.int i)) := by
  obtain ⟨t, e⟩ := F.num (x, i) h
  exact s_glob hg e ⟨t, rfl⟩ hd

def gO (j : Nat) : Nat → Option Bool := fun c => if c < 38 then some (c == j) else none
def gB (lo hi : Nat) : Nat → Option Bool := fun c => if c < 38 then some (decide (lo ≤ c) && decide (c < hi)) else none
theorem exc_all (p : Params) : ∀ c, c < 38 → ExcC (KK p) (cl c)
  | 0, _ => xc_InvalidWord p
  | 1, _ => xc_InvalidLetter p
  | 2, _ => xc_InvalidShape p
  | 3, _ => xc_InvalidRows p
  | 4, _ => xc_InvalidRow p
  | 5, _ => xc_InvalidHoles p
  | 6, _ => xc_InvalidPair p
  | 7, _ => xc_InvalidArray p
  | 8, _ => xc_InvalidPlace p
  | 9, _ => xc_InvalidNumber p
  | 10, _ => xc_InvalidAmounts p
  | 11, _ => xc_InvalidGrowth p
  | 12, _ => xc_InvalidBasis p
  | 13, _ => xc_InvalidTerms p
  | 14, _ => xc_InvalidHive p
  | 15, _ => xc_InvalidHidden p
  | 16, _ => xc_InvalidText p
  | 17, _ => xc_InvalidName p
  | 18, _ => xc_InvalidClaim p
  | 19, _ => xc_InvalidIndex p
  | 20, _ => xc_InvalidLine p
  | 21, _ => xc_NotATable p
  | 22, _ => xc_NotASkew p
  | 23, _ => xc_NotAMixture p
  | 24, _ => xc_InvalidPattern p
  | 25, _ => xc_InvalidDeeds p
  | 26, _ => xc_InvalidLog p
  | 27, _ => xc_UnknownName p
  | 28, _ => xc_InUse p
  | 29, _ => xc_NotStandard p
  | 30, _ => xc_NotInside p
  | 31, _ => xc_UnlikeSizes p
  | 32, _ => xc_UnlikeShapes p
  | 33, _ => xc_NoMove p
  | 34, _ => xc_NotReduced p
  | 35, _ => xc_TooMany p
  | 36, _ => xc_NothingToUndo p
  | 37, _ => xc_Broken p
  | n + 38, h => absurd h (by omega)
def kitT (K : PySem.W.Frag) (cv : Value) (g : Nat → Option Bool) : Bool := (List.range 38).all fun c => PySem.W.kitOne K (.ref (cl c)) cv == g c
theorem tells_of {p : Params} {cv : Value} {g : Nat → Option Bool} (h : kitT (KK p) cv g = true) (hg : ∀ c b, g c = some b → c < 38) : TellsX (KK p) cl cv g := fun c b e => by
  have hc := hg c b e
  refine ⟨exc_all p c hc, ?_⟩
  have z := List.all_eq_true.mp h c (List.mem_range.mpr hc)
  rw [beq_iff_eq] at z
  rw [z, e]
theorem gO_lt {j c : Nat} {b : Bool} (h : gO j c = some b) : c < 38 := by
  unfold gO at h
  split at h
  · assumption
  · cases h
theorem gB_lt {lo hi c : Nat} {b : Bool} (h : gB lo hi c = some b) : c < 38 := by
  unfold gB at h
  split at h
  · assumption
  · cases h

theorem tl_0 (p : Params) : TellsX (KK p) cl (.ref 51) (gO 0) := tells_of (by kernel_rfl) fun _ _ => gO_lt
theorem tl_1 (p : Params) : TellsX (KK p) cl (.ref 70) (gO 1) := tells_of (by kernel_rfl) fun _ _ => gO_lt
theorem tl_2 (p : Params) : TellsX (KK p) cl (.ref 89) (gO 2) := tells_of (by kernel_rfl) fun _ _ => gO_lt
theorem tl_3 (p : Params) : TellsX (KK p) cl (.ref 108) (gO 3) := tells_of (by kernel_rfl) fun _ _ => gO_lt
theorem tl_4 (p : Params) : TellsX (KK p) cl (.ref 127) (gO 4) := tells_of (by kernel_rfl) fun _ _ => gO_lt
theorem tl_5 (p : Params) : TellsX (KK p) cl (.ref 146) (gO 5) := tells_of (by kernel_rfl) fun _ _ => gO_lt
theorem tl_6 (p : Params) : TellsX (KK p) cl (.ref 165) (gO 6) := tells_of (by kernel_rfl) fun _ _ => gO_lt
theorem tl_7 (p : Params) : TellsX (KK p) cl (.ref 184) (gO 7) := tells_of (by kernel_rfl) fun _ _ => gO_lt
theorem tl_8 (p : Params) : TellsX (KK p) cl (.ref 203) (gO 8) := tells_of (by kernel_rfl) fun _ _ => gO_lt
theorem tl_9 (p : Params) : TellsX (KK p) cl (.ref 222) (gO 9) := tells_of (by kernel_rfl) fun _ _ => gO_lt
theorem tl_10 (p : Params) : TellsX (KK p) cl (.ref 241) (gO 10) := tells_of (by kernel_rfl) fun _ _ => gO_lt
theorem tl_11 (p : Params) : TellsX (KK p) cl (.ref 260) (gO 11) := tells_of (by kernel_rfl) fun _ _ => gO_lt
theorem tl_12 (p : Params) : TellsX (KK p) cl (.ref 279) (gO 12) := tells_of (by kernel_rfl) fun _ _ => gO_lt
theorem tl_13 (p : Params) : TellsX (KK p) cl (.ref 298) (gO 13) := tells_of (by kernel_rfl) fun _ _ => gO_lt
theorem tl_14 (p : Params) : TellsX (KK p) cl (.ref 317) (gO 14) := tells_of (by kernel_rfl) fun _ _ => gO_lt
theorem tl_15 (p : Params) : TellsX (KK p) cl (.ref 355) (gO 15) := tells_of (by kernel_rfl) fun _ _ => gO_lt
theorem tl_16 (p : Params) : TellsX (KK p) cl (.ref 374) (gO 16) := tells_of (by kernel_rfl) fun _ _ => gO_lt
theorem tl_17 (p : Params) : TellsX (KK p) cl (.ref 393) (gO 17) := tells_of (by kernel_rfl) fun _ _ => gO_lt
theorem tl_18 (p : Params) : TellsX (KK p) cl (.ref 412) (gO 18) := tells_of (by kernel_rfl) fun _ _ => gO_lt
theorem tl_19 (p : Params) : TellsX (KK p) cl (.ref 431) (gO 19) := tells_of (by kernel_rfl) fun _ _ => gO_lt
theorem tl_20 (p : Params) : TellsX (KK p) cl (.ref 450) (gO 20) := tells_of (by kernel_rfl) fun _ _ => gO_lt
theorem tl_21 (p : Params) : TellsX (KK p) cl (.ref 469) (gO 21) := tells_of (by kernel_rfl) fun _ _ => gO_lt
theorem tl_22 (p : Params) : TellsX (KK p) cl (.ref 488) (gO 22) := tells_of (by kernel_rfl) fun _ _ => gO_lt
theorem tl_23 (p : Params) : TellsX (KK p) cl (.ref 507) (gO 23) := tells_of (by kernel_rfl) fun _ _ => gO_lt
theorem tl_24 (p : Params) : TellsX (KK p) cl (.ref 336) (gO 24) := tells_of (by kernel_rfl) fun _ _ => gO_lt
theorem tl_25 (p : Params) : TellsX (KK p) cl (.ref 526) (gO 25) := tells_of (by kernel_rfl) fun _ _ => gO_lt
theorem tl_26 (p : Params) : TellsX (KK p) cl (.ref 545) (gO 26) := tells_of (by kernel_rfl) fun _ _ => gO_lt
theorem tl_27 (p : Params) : TellsX (KK p) cl (.ref 584) (gO 27) := tells_of (by kernel_rfl) fun _ _ => gO_lt
theorem tl_28 (p : Params) : TellsX (KK p) cl (.ref 603) (gO 28) := tells_of (by kernel_rfl) fun _ _ => gO_lt
theorem tl_29 (p : Params) : TellsX (KK p) cl (.ref 635) (gO 29) := tells_of (by kernel_rfl) fun _ _ => gO_lt
theorem tl_30 (p : Params) : TellsX (KK p) cl (.ref 647) (gO 30) := tells_of (by kernel_rfl) fun _ _ => gO_lt
theorem tl_31 (p : Params) : TellsX (KK p) cl (.ref 659) (gO 31) := tells_of (by kernel_rfl) fun _ _ => gO_lt
theorem tl_32 (p : Params) : TellsX (KK p) cl (.ref 671) (gO 32) := tells_of (by kernel_rfl) fun _ _ => gO_lt
theorem tl_33 (p : Params) : TellsX (KK p) cl (.ref 683) (gO 33) := tells_of (by kernel_rfl) fun _ _ => gO_lt
theorem tl_34 (p : Params) : TellsX (KK p) cl (.ref 695) (gO 34) := tells_of (by kernel_rfl) fun _ _ => gO_lt
theorem tl_35 (p : Params) : TellsX (KK p) cl (.ref 714) (gO 35) := tells_of (by kernel_rfl) fun _ _ => gO_lt
theorem tl_36 (p : Params) : TellsX (KK p) cl (.ref 726) (gO 36) := tells_of (by kernel_rfl) fun _ _ => gO_lt
theorem tl_37 (p : Params) : TellsX (KK p) cl (.ref 745) (gO 37) := tells_of (by kernel_rfl) fun _ _ => gO_lt
theorem tl_WrongValue (p : Params) : TellsX (KK p) cl (.ref 31) (gB 0 27) := tells_of (by kernel_rfl) fun _ _ => gB_lt
theorem tl_WrongName (p : Params) : TellsX (KK p) cl (.ref 564) (gB 27 29) := tells_of (by kernel_rfl) fun _ _ => gB_lt
theorem tl_NoAnswer (p : Params) : TellsX (KK p) cl (.ref 622) (gB 29 38) := tells_of (by kernel_rfl) fun _ _ => gB_lt
theorem tl_ValueError (p : Params) : TellsX (KK p) cl (.type "ValueError") (gB 0 27) := tells_of (by kernel_rfl) fun _ _ => gB_lt
theorem tl_LookupError (p : Params) : TellsX (KK p) cl (.type "LookupError") (gB 27 29) := tells_of (by kernel_rfl) fun _ _ => gB_lt
theorem tl_ArithmeticError (p : Params) : TellsX (KK p) cl (.type "ArithmeticError") (gB 29 38) := tells_of (by kernel_rfl) fun _ _ => gB_lt
def ok_given (c : Nat) : Bool := ([0, 1, 2, 3, 4, 5, 6, 7, 8, 9, 10, 11, 12, 13, 14, 15, 16, 17, 18, 19, 20, 21, 22, 23, 24, 27] : List Nat).contains c
noncomputable def xfl_given (p : Params) : List Nat → Bool := fun l => l.all fun c => xfB (KK p) (cl c) && decide (PySem.W.findIn (KK p) (.ref (cl c)) "given" = some none)
theorem tx_given (p : Params) (c : Nat) (h : ok_given c = true) : XfC (KK p) (cl c) ∧ PySem.W.findIn (KK p) (.ref (cl c)) "given" = some none := by
  have a : xfl_given p [0, 1, 2, 3, 4, 5, 6, 7, 8, 9, 10, 11, 12, 13, 14, 15, 16, 17, 18, 19, 20, 21, 22, 23, 24, 27] = true := by kernel_rfl
  have z := List.all_eq_true.mp a c (List.contains_iff_mem.mp h)
  rw [Bool.and_eq_true, decide_eq_true_eq] at z
  exact ⟨xfB_ok z.1, z.2⟩
def ok_index (c : Nat) : Bool := ([25, 26, 28, 37] : List Nat).contains c
noncomputable def xfl_index (p : Params) : List Nat → Bool := fun l => l.all fun c => xfB (KK p) (cl c) && decide (PySem.W.findIn (KK p) (.ref (cl c)) "index" = some none)
theorem tx_index (p : Params) (c : Nat) (h : ok_index c = true) : XfC (KK p) (cl c) ∧ PySem.W.findIn (KK p) (.ref (cl c)) "index" = some none := by
  have a : xfl_index p [25, 26, 28, 37] = true := by kernel_rfl
  have z := List.all_eq_true.mp a c (List.contains_iff_mem.mp h)
  rw [Bool.and_eq_true, decide_eq_true_eq] at z
  exact ⟨xfB_ok z.1, z.2⟩
def ok_limit (c : Nat) : Bool := ([35] : List Nat).contains c
noncomputable def xfl_limit (p : Params) : List Nat → Bool := fun l => l.all fun c => xfB (KK p) (cl c) && decide (PySem.W.findIn (KK p) (.ref (cl c)) "limit" = some none)
theorem tx_limit (p : Params) (c : Nat) (h : ok_limit c = true) : XfC (KK p) (cl c) ∧ PySem.W.findIn (KK p) (.ref (cl c)) "limit" = some none := by
  have a : xfl_limit p [35] = true := by kernel_rfl
  have z := List.all_eq_true.mp a c (List.contains_iff_mem.mp h)
  rw [Bool.and_eq_true, decide_eq_true_eq] at z
  exact ⟨xfB_ok z.1, z.2⟩
end K01

end
section
open PySem PySem.Spec L2 DL PySem.DLX PyProof.Rows
namespace K01
abbrev sWrong : Stmt := topS 51
def nWrong : List Str := ["_law_found"]
theorem scWrong : FnScope nWrong [] (defScope sWrong) := ⟨rfl, rfl, rfl, by decide +kernel, rfl, by decide +kernel, by decide +kernel⟩
noncomputable abbrev cWrong (P : Program) (w : World) (mg : Str → Option Value) (base : Heap) (f : Addr) (cdv : Value) (A : Around) (outer : List Env) (s : Shared) (H : Hp) (E : XK) : Cx := cxOf (L2.CX P w) P w (KK w.params) mg base nWrong "_law_wrong_values" (defScope sWrong) f cdv A outer s H E
def dWrong : { b : SF // ∀ (P : Program) (w : World) (mg : Str → Option Value) (base : Heap) (F : Fx mg) (f : Addr) (cdv : Value) (A : Around) (outer : List Env) (s : Shared) (H : Hp) (E : XK), (cWrong P w mg base f cdv A outer s H E).A.guards = some [] → Room 1 (cWrong P w mg base f cdv A outer s H E).A →
    SSs (cWrong P w mg base f cdv A outer s H E) cl (WE E) [] (defBody sWrong) b } := ⟨_, fun P w mg base F f cdv A outer s H E hG hr => by
  have hu : (cWrong P w mg base f cdv A outer s H E).A.units + 64 < cLine := by have := hr.un; omega
  have tk : Takes (cWrong P w mg base f cdv A outer s H E) (WE E) := takes_of rfl rfl rfl rfl
  exact (sss_cons (ss_set 0 scWrong.nd (s_lst (a_cons (s_exc1 (c := 0) (erk_given xb_value (xt_InvalidWord w.params) (xo_InvalidWord w.params) (F.c "InvalidWord" 51)).toEr1 hr s_str (by rfl)) (a_cons (s_exc1K (c := 1) (erk_given xb_value (xt_InvalidLetter w.params) (xo_InvalidLetter w.params) (F.c "InvalidLetter" 70)) hr s_str (by rfl)) (a_cons (s_exc1 (c := 2) (erk_given xb_value (xt_InvalidShape w.params) (xo_InvalidShape w.params) (F.c "InvalidShape" 89)).toEr1 hr s_str (by rfl)) (a_cons (s_exc1K (c := 3) (erk_given xb_value (xt_InvalidRows w.params) (xo_InvalidRows w.params) (F.c "InvalidRows" 108)) hr s_str (by rfl)) (a_cons (s_exc1 (c := 4) (erk_given xb_value (xt_InvalidRow w.params) (xo_InvalidRow w.params) (F.c "InvalidRow" 127)).toEr1 hr s_str (by rfl)) a_nil)))))))
    (sss_cons (ss_set 0 scWrong.nd (s_op od_add (s_var 0) (s_lst (a_cons (s_exc1K (c := 5) (erk_given xb_value (xt_InvalidHoles w.params) (xo_InvalidHoles w.params) (F.c "InvalidHoles" 146)) hr s_str (by rfl)) (a_cons (s_exc1 (c := 6) (erk_given xb_value (xt_InvalidPair w.params) (xo_InvalidPair w.params) (F.c "InvalidPair" 165)).toEr1 hr s_str (by rfl)) (a_cons (s_exc1K (c := 7) (erk_given xb_value (xt_InvalidArray w.params) (xo_InvalidArray w.params) (F.c "InvalidArray" 184)) hr s_str (by rfl)) (a_cons (s_exc1 (c := 8) (erk_given xb_value (xt_InvalidPlace w.params) (xo_InvalidPlace w.params) (F.c "InvalidPlace" 203)).toEr1 hr s_str (by rfl)) a_nil)))))))
    (sss_cons (ss_set 0 scWrong.nd (s_op od_add (s_var 0) (s_lst (a_cons (s_exc1K (c := 9) (erk_given xb_value (xt_InvalidNumber w.params) (xo_InvalidNumber w.params) (F.c "InvalidNumber" 222)) hr s_str (by rfl)) (a_cons (s_exc1 (c := 10) (erk_given xb_value (xt_InvalidAmounts w.params) (xo_InvalidAmounts w.params) (F.c "InvalidAmounts" 241)).toEr1 hr s_str (by rfl)) (a_cons (s_exc1K (c := 11) (erk_given xb_value (xt_InvalidGrowth w.params) (xo_InvalidGrowth w.params) (F.c "InvalidGrowth" 260)) hr s_str (by rfl)) (a_cons (s_exc1 (c := 12) (erk_given xb_value (xt_InvalidBasis w.params) (xo_InvalidBasis w.params) (F.c "InvalidBasis" 279)).toEr1 hr s_str (by rfl)) a_nil)))))))
    (sss_cons (ss_set 0 scWrong.nd (s_op od_add (s_var 0) (s_lst (a_cons (s_exc1K (c := 13) (erk_given xb_value (xt_InvalidTerms w.params) (xo_InvalidTerms w.params) (F.c "InvalidTerms" 298)) hr s_str (by rfl)) (a_cons (s_exc1 (c := 14) (erk_given xb_value (xt_InvalidHive w.params) (xo_InvalidHive w.params) (F.c "InvalidHive" 317)).toEr1 hr s_str (by rfl)) (a_cons (s_exc1K (c := 15) (erk_given xb_value (xt_InvalidHidden w.params) (xo_InvalidHidden w.params) (F.c "InvalidHidden" 355)) hr s_str (by rfl)) (a_cons (s_exc1 (c := 16) (erk_given xb_value (xt_InvalidText w.params) (xo_InvalidText w.params) (F.c "InvalidText" 374)).toEr1 hr s_str (by rfl)) a_nil)))))))
    (sss_cons (ss_set 0 scWrong.nd (s_op od_add (s_var 0) (s_lst (a_cons (s_exc1K (c := 17) (erk_given xb_value (xt_InvalidName w.params) (xo_InvalidName w.params) (F.c "InvalidName" 393)) hr s_str (by rfl)) (a_cons (s_exc1 (c := 18) (erk_given xb_value (xt_InvalidClaim w.params) (xo_InvalidClaim w.params) (F.c "InvalidClaim" 412)).toEr1 hr s_str (by rfl)) (a_cons (s_exc1K (c := 19) (erk_given xb_value (xt_InvalidIndex w.params) (xo_InvalidIndex w.params) (F.c "InvalidIndex" 431)) hr s_str (by rfl)) (a_cons (s_exc1 (c := 20) (erk_given xb_value (xt_InvalidLine w.params) (xo_InvalidLine w.params) (F.c "InvalidLine" 450)).toEr1 hr s_str (by rfl)) a_nil)))))))
    (sss_one (ss_ret (s_op od_add (s_var 0) (s_lst (a_cons (s_exc1K (c := 21) (erk_given xb_value (xt_NotATable w.params) (xo_NotATable w.params) (F.c "NotATable" 469)) hr s_str (by rfl)) (a_cons (s_exc1 (c := 22) (erk_given xb_value (xt_NotASkew w.params) (xo_NotASkew w.params) (F.c "NotASkew" 488)).toEr1 hr s_str (by rfl)) (a_cons (s_exc1K (c := 23) (erk_given xb_value (xt_NotAMixture w.params) (xo_NotAMixture w.params) (F.c "NotAMixture" 507)) hr s_str (by rfl)) (a_cons (s_exc1 (c := 24) (erk_given xb_value (xt_InvalidPattern w.params) (xo_InvalidPattern w.params) (F.c "InvalidPattern" 336)).toEr1 hr s_str (by rfl)) a_nil)))))))))))))⟩

abbrev sKinds : Stmt := topS 52
def nKinds : List Str := ["_law_e", "_law_found"]
theorem scKinds : FnScope nKinds ["_law_e"] (defScope sKinds) := ⟨rfl, rfl, rfl, by decide +kernel, rfl, by decide +kernel, by decide +kernel⟩
noncomputable abbrev cKinds (P : Program) (w : World) (mg : Str → Option Value) (base : Heap) (f : Addr) (cdv : Value) (A : Around) (outer : List Env) (s : Shared) (H : Hp) (E : XK) : Cx := cxOf (L2.CX P w) P w (KK w.params) mg base nKinds "_law_kinds" (defScope sKinds) f cdv A outer s H E
def dKinds : { b : SF // ∀ (P : Program) (w : World) (mg : Str → Option Value) (base : Heap) (F : Fx mg) (f : Addr) (cdv : Value) (A : Around) (outer : List Env) (s : Shared) (H : Hp) (E : XK), (cKinds P w mg base f cdv A outer s H E).A.guards = some [] → Room 1 (cKinds P w mg base f cdv A outer s H E).A →
    SSs (cKinds P w mg base f cdv A outer s H E) cl (WE E) [] (defBody sKinds) b } := ⟨_, fun P w mg base F f cdv A outer s H E hG hr => by
  have hu : (cKinds P w mg base f cdv A outer s H E).A.units + 64 < cLine := by have := hr.un; omega
  have tk : Takes (cKinds P w mg base f cdv A outer s H E) (WE E) := takes_of rfl rfl rfl rfl
  exact (sss_cons (ss_set 1 scKinds.nd (s_lst (a_cons (s_isX (C := 31) (tl_WrongValue w.params) (s_var 0) (F.c "WrongValue" 31) (by rfl) (F.z "isinstance") (by rfl)) (a_cons (s_isX (C := 564) (tl_WrongName w.params) (s_var 0) (F.c "WrongName" 564) (by rfl) (F.z "isinstance") (by rfl)) (a_cons (s_isX (C := 622) (tl_NoAnswer w.params) (s_var 0) (F.c "NoAnswer" 622) (by rfl) (F.z "isinstance") (by rfl)) a_nil)))))
    (sss_one (ss_ret (s_op od_add (s_var 1) (s_lst (a_cons (s_isXB (T := "ValueError") (tl_ValueError w.params) (s_var 0) (by decide +kernel) (by rfl) (F.z "isinstance") (by rfl) (F.z "ValueError")) (a_cons (s_isXB (T := "LookupError") (tl_LookupError w.params) (s_var 0) (by decide +kernel) (by rfl) (F.z "isinstance") (by rfl) (F.z "LookupError")) (a_cons (s_isXB (T := "ArithmeticError") (tl_ArithmeticError w.params) (s_var 0) (by decide +kernel) (by rfl) (F.z "isinstance") (by rfl) (F.z "ArithmeticError")) a_nil))))))))⟩

abbrev sOwn : Stmt := topS 53
def nOwn : List Str := ["_law_e", "_law_found", "_law_at"]
theorem scOwn : FnScope nOwn ["_law_e"] (defScope sOwn) := ⟨rfl, rfl, rfl, by decide +kernel, rfl, by decide +kernel, by decide +kernel⟩
noncomputable abbrev cOwn (P : Program) (w : World) (mg : Str → Option Value) (base : Heap) (f : Addr) (cdv : Value) (A : Around) (outer : List Env) (s : Shared) (H : Hp) (E : XK) : Cx := cxOf (L2.CX P w) P w (KK w.params) mg base nOwn "_law_own" (defScope sOwn) f cdv A outer s H E
def dOwn : { b : SF // ∀ (P : Program) (w : World) (mg : Str → Option Value) (base : Heap) (F : Fx mg) (f : Addr) (cdv : Value) (A : Around) (outer : List Env) (s : Shared) (H : Hp) (E : XK), (cOwn P w mg base f cdv A outer s H E).A.guards = some [] → Room 1 (cOwn P w mg base f cdv A outer s H E).A →
    SSs (cOwn P w mg base f cdv A outer s H E) cl (WE E) [] (defBody sOwn) b } := ⟨_, fun P w mg base F f cdv A outer s H E hG hr => by
  have hu : (cOwn P w mg base f cdv A outer s H E).A.units + 64 < cLine := by have := hr.un; omega
  have tk : Takes (cOwn P w mg base f cdv A outer s H E) (WE E) := takes_of rfl rfl rfl rfl
  exact (sss_cons (ss_set 1 scOwn.nd (s_lst (a_cons (s_isX (C := 51) (tl_0 w.params) (s_var 0) (F.c "InvalidWord" 51) (by rfl) (F.z "isinstance") (by rfl)) (a_cons (s_isX (C := 70) (tl_1 w.params) (s_var 0) (F.c "InvalidLetter" 70) (by rfl) (F.z "isinstance") (by rfl)) (a_cons (s_isX (C := 89) (tl_2 w.params) (s_var 0) (F.c "InvalidShape" 89) (by rfl) (F.z "isinstance") (by rfl)) a_nil)))))
    (sss_cons (ss_set 1 scOwn.nd (s_op od_add (s_var 1) (s_lst (a_cons (s_isX (C := 108) (tl_3 w.params) (s_var 0) (F.c "InvalidRows" 108) (by rfl) (F.z "isinstance") (by rfl)) (a_cons (s_isX (C := 127) (tl_4 w.params) (s_var 0) (F.c "InvalidRow" 127) (by rfl) (F.z "isinstance") (by rfl)) (a_cons (s_isX (C := 146) (tl_5 w.params) (s_var 0) (F.c "InvalidHoles" 146) (by rfl) (F.z "isinstance") (by rfl)) a_nil))))))
    (sss_cons (ss_set 1 scOwn.nd (s_op od_add (s_var 1) (s_lst (a_cons (s_isX (C := 165) (tl_6 w.params) (s_var 0) (F.c "InvalidPair" 165) (by rfl) (F.z "isinstance") (by rfl)) (a_cons (s_isX (C := 184) (tl_7 w.params) (s_var 0) (F.c "InvalidArray" 184) (by rfl) (F.z "isinstance") (by rfl)) (a_cons (s_isX (C := 203) (tl_8 w.params) (s_var 0) (F.c "InvalidPlace" 203) (by rfl) (F.z "isinstance") (by rfl)) a_nil))))))
    (sss_cons (ss_set 1 scOwn.nd (s_op od_add (s_var 1) (s_lst (a_cons (s_isX (C := 222) (tl_9 w.params) (s_var 0) (F.c "InvalidNumber" 222) (by rfl) (F.z "isinstance") (by rfl)) (a_cons (s_isX (C := 241) (tl_10 w.params) (s_var 0) (F.c "InvalidAmounts" 241) (by rfl) (F.z "isinstance") (by rfl)) (a_cons (s_isX (C := 260) (tl_11 w.params) (s_var 0) (F.c "InvalidGrowth" 260) (by rfl) (F.z "isinstance") (by rfl)) a_nil))))))
    (sss_cons (ss_set 1 scOwn.nd (s_op od_add (s_var 1) (s_lst (a_cons (s_isX (C := 279) (tl_12 w.params) (s_var 0) (F.c "InvalidBasis" 279) (by rfl) (F.z "isinstance") (by rfl)) (a_cons (s_isX (C := 298) (tl_13 w.params) (s_var 0) (F.c "InvalidTerms" 298) (by rfl) (F.z "isinstance") (by rfl)) (a_cons (s_isX (C := 317) (tl_14 w.params) (s_var 0) (F.c "InvalidHive" 317) (by rfl) (F.z "isinstance") (by rfl)) a_nil))))))
    (sss_cons (ss_set 1 scOwn.nd (s_op od_add (s_var 1) (s_lst (a_cons (s_isX (C := 355) (tl_15 w.params) (s_var 0) (F.c "InvalidHidden" 355) (by rfl) (F.z "isinstance") (by rfl)) (a_cons (s_isX (C := 374) (tl_16 w.params) (s_var 0) (F.c "InvalidText" 374) (by rfl) (F.z "isinstance") (by rfl)) (a_cons (s_isX (C := 393) (tl_17 w.params) (s_var 0) (F.c "InvalidName" 393) (by rfl) (F.z "isinstance") (by rfl)) a_nil))))))
    (sss_cons (ss_set 1 scOwn.nd (s_op od_add (s_var 1) (s_lst (a_cons (s_isX (C := 412) (tl_18 w.params) (s_var 0) (F.c "InvalidClaim" 412) (by rfl) (F.z "isinstance") (by rfl)) (a_cons (s_isX (C := 431) (tl_19 w.params) (s_var 0) (F.c "InvalidIndex" 431) (by rfl) (F.z "isinstance") (by rfl)) (a_cons (s_isX (C := 450) (tl_20 w.params) (s_var 0) (F.c "InvalidLine" 450) (by rfl) (F.z "isinstance") (by rfl)) a_nil))))))
    (sss_cons (ss_set 1 scOwn.nd (s_op od_add (s_var 1) (s_lst (a_cons (s_isX (C := 469) (tl_21 w.params) (s_var 0) (F.c "NotATable" 469) (by rfl) (F.z "isinstance") (by rfl)) (a_cons (s_isX (C := 488) (tl_22 w.params) (s_var 0) (F.c "NotASkew" 488) (by rfl) (F.z "isinstance") (by rfl)) (a_cons (s_isX (C := 507) (tl_23 w.params) (s_var 0) (F.c "NotAMixture" 507) (by rfl) (F.z "isinstance") (by rfl)) (a_cons (s_isX (C := 336) (tl_24 w.params) (s_var 0) (F.c "InvalidPattern" 336) (by rfl) (F.z "isinstance") (by rfl)) a_nil)))))))
    (sss_cons (ss_set 1 scOwn.nd (s_op od_add (s_var 1) (s_lst (a_cons (s_isX (C := 526) (tl_25 w.params) (s_var 0) (F.c "InvalidDeeds" 526) (by rfl) (F.z "isinstance") (by rfl)) (a_cons (s_isX (C := 545) (tl_26 w.params) (s_var 0) (F.c "InvalidLog" 545) (by rfl) (F.z "isinstance") (by rfl)) (a_cons (s_isX (C := 584) (tl_27 w.params) (s_var 0) (F.c "UnknownName" 584) (by rfl) (F.z "isinstance") (by rfl)) a_nil))))))
    (sss_cons (ss_set 1 scOwn.nd (s_op od_add (s_var 1) (s_lst (a_cons (s_isX (C := 603) (tl_28 w.params) (s_var 0) (F.c "InUse" 603) (by rfl) (F.z "isinstance") (by rfl)) (a_cons (s_isX (C := 635) (tl_29 w.params) (s_var 0) (F.c "NotStandard" 635) (by rfl) (F.z "isinstance") (by rfl)) (a_cons (s_isX (C := 647) (tl_30 w.params) (s_var 0) (F.c "NotInside" 647) (by rfl) (F.z "isinstance") (by rfl)) a_nil))))))
    (sss_cons (ss_set 1 scOwn.nd (s_op od_add (s_var 1) (s_lst (a_cons (s_isX (C := 659) (tl_31 w.params) (s_var 0) (F.c "UnlikeSizes" 659) (by rfl) (F.z "isinstance") (by rfl)) (a_cons (s_isX (C := 671) (tl_32 w.params) (s_var 0) (F.c "UnlikeShapes" 671) (by rfl) (F.z "isinstance") (by rfl)) (a_cons (s_isX (C := 683) (tl_33 w.params) (s_var 0) (F.c "NoMove" 683) (by rfl) (F.z "isinstance") (by rfl)) a_nil))))))
    (sss_cons (ss_own 1 (ps_set scOwn.nd (by rfl) (by first | exact Or.inl rfl | exact Or.inr rfl) (n_cat (s_var 1) (s_lst (a_cons (s_isX (C := 695) (tl_34 w.params) (s_var 0) (F.c "NotReduced" 695) (by rfl) (F.z "isinstance") (by rfl)) (a_cons (s_isX (C := 714) (tl_35 w.params) (s_var 0) (F.c "TooMany" 714) (by rfl) (F.z "isinstance") (by rfl)) (a_cons (s_isX (C := 726) (tl_36 w.params) (s_var 0) (F.c "NothingToUndo" 726) (by rfl) (F.z "isinstance") (by rfl)) a_nil))))) (by rfl) (by first | exact .inl rfl | exact .inr rfl)))
    (sss_cons (ss_expr (s_app 1 (pe_bm PySem.F.plainAttrs_list PySem.F.slot_list_append PySem.F.type_list_append mt_append (pe_var rfl (by first | exact Or.inl rfl | exact Or.inr (Or.inl rfl)) (by decide) (by decide)) (pa_cons (s_isX (C := 745) (tl_37 w.params) (s_var 0) (F.c "Broken" 745) (by rfl) (F.z "isinstance") (by rfl)) pa_nil))))
    (sss_one (ss_ret (s_comp [("_law_at", 2)] rfl scOwn.nd (i_rng1 (by rfl) (F.z "range") s_int) (by kernel_rfl) (tgOk_name 2) (fun _ _ _ _ _ => pg_name (i := 2) scOwn.nd rfl (Or.inl rfl)) (fun _ _ _ _ _ => pts_b (b_tru (s_frz 1 (rds_op (rds_var 1) (rds_var 2)) (s_ix (s_var 1) (s_var 2))))) (fun _ _ _ _ _ => (s_var 2))))))))))))))))))⟩

def mWrong : PM := runP nWrong.length dWrong.1
def mKinds : PM := runP nKinds.length dKinds.1
def mOwn : PM := runP nOwn.length dOwn.1
structure LD (P : Program) (w : World) (mg : Str → Option Value) (base : Heap) (fW fK fO : FuncData) : Prop where
  dWrong : FnD P w (KK w.params) mg base (L2.CX P w) 2 754 fW [] (spP cl (KK w.params) 0 mWrong)
  kWrong : PySem.W.keepIn (KK w.params) (.ref 754) = true
  bWrong : Binds (KK w.params) fW [] []
  dKinds : FnD P w (KK w.params) mg base (L2.CX P w) 2 761 fK ["_law_e"] (spP cl (KK w.params) 1 mKinds)
  kKinds : PySem.W.keepIn (KK w.params) (.ref 761) = true
  bKinds : Binds (KK w.params) fK ["_law_e"] []
  dOwn : FnD P w (KK w.params) mg base (L2.CX P w) 2 766 fO ["_law_e"] (spP cl (KK w.params) 1 mOwn)
  kOwn : PySem.W.keepIn (KK w.params) (.ref 766) = true
  bOwn : Binds (KK w.params) fO ["_law_e"] []
abbrev sLaw : Stmt := topS 54
def nLaw : List Str := ["_law_script", "_law_told", "_law_every", "_law_bases", "_law_e", "_law_at"]
theorem scLaw : FnScope nLaw ["_law_script"] (defScope sLaw) := ⟨rfl, rfl, rfl, by decide +kernel, rfl, by decide +kernel, by decide +kernel⟩
noncomputable abbrev cLaw (P : Program) (w : World) (mg : Str → Option Value) (base : Heap) (f : Addr) (cdv : Value) (A : Around) (outer : List Env) (s : Shared) (H : Hp) (E : XK) : Cx := cxOf (L2.CX P w) P w (KK w.params) mg base nLaw "law" (defScope sLaw) f cdv A outer s H E
abbrev stL (i : Nat) : Stmt := (defBody sLaw).getD i (.Pass ⟨0, 0, 0, 0⟩)
def law_d0 : { b : SF // ∀ (P : Program) (w : World) (mg : Str → Option Value) (base : Heap) (F : Fx mg) (fW fK fO : FuncData) (D : LD P w mg base fW fK fO) (f : Addr) (cdv : Value) (A : Around) (outer : List Env) (s : Shared) (H : Hp) (E : XK), (cLaw P w mg base f cdv A outer s H E).A.guards = some [] → Room 3 (cLaw P w mg base f cdv A outer s H E).A →
    SS (cLaw P w mg base f cdv A outer s H E) cl (WE E) [] (stL 0) b } := ⟨_, fun P w mg base F fW fK fO D f cdv A outer s H E hG hr => by
  have hu : (cLaw P w mg base f cdv A outer s H E).A.units + 64 < cLine := by have := hr.un; omega
  have tk : Takes (cLaw P w mg base f cdv A outer s H E) (WE E) := takes_of rfl rfl rfl rfl
  exact (ss_set 1 scLaw.nd (s_lst (a_cons (s_num 12 F (by rfl)) (a_cons (s_num 12 F (by rfl)) (a_cons (s_num 66 F (by rfl)) (a_cons (s_num 40 F (by rfl)) (a_cons (s_num 8 F (by rfl)) (a_cons (s_num 4 F (by rfl)) (a_cons (s_num 9 F (by rfl)) (a_cons (s_num 2000 F (by rfl)) a_nil))))))))))⟩
abbrev law_s0 : SF := law_d0.1
def law_d1 : { b : SF // ∀ (P : Program) (w : World) (mg : Str → Option Value) (base : Heap) (F : Fx mg) (fW fK fO : FuncData) (D : LD P w mg base fW fK fO) (f : Addr) (cdv : Value) (A : Around) (outer : List Env) (s : Shared) (H : Hp) (E : XK), (cLaw P w mg base f cdv A outer s H E).A.guards = some [] → Room 3 (cLaw P w mg base f cdv A outer s H E).A →
    SS (cLaw P w mg base f cdv A outer s H E) cl (WE E) [] (stL 1) b } := ⟨_, fun P w mg base F fW fK fO D f cdv A outer s H E hG hr => by
  have hu : (cLaw P w mg base f cdv A outer s H E).A.units + 64 < cLine := by have := hr.un; omega
  have tk : Takes (cLaw P w mg base f cdv A outer s H E) (WE E) := takes_of rfl rfl rfl rfl
  exact (ss_if (b_cmp (od_ne hu) (s_var 1) (s_lst (a_cons s_int (a_cons s_int (a_cons s_int (a_cons s_int (a_cons s_int (a_cons s_int (a_cons s_int (a_cons s_int a_nil))))))))) (by rfl)) (sss_one (ss_ret s_bl)) sss_nil)⟩
abbrev law_s1 : SF := law_d1.1
def law_d2 : { b : SF // ∀ (P : Program) (w : World) (mg : Str → Option Value) (base : Heap) (F : Fx mg) (fW fK fO : FuncData) (D : LD P w mg base fW fK fO) (f : Addr) (cdv : Value) (A : Around) (outer : List Env) (s : Shared) (H : Hp) (E : XK), (cLaw P w mg base f cdv A outer s H E).A.guards = some [] → Room 3 (cLaw P w mg base f cdv A outer s H E).A →
    SS (cLaw P w mg base f cdv A outer s H E) cl (WE E) [] (stL 2) b } := ⟨_, fun P w mg base F fW fK fO D f cdv A outer s H E hG hr => by
  have hu : (cLaw P w mg base f cdv A outer s H E).A.units + 64 < cLine := by have := hr.un; omega
  have tk : Takes (cLaw P w mg base f cdv A outer s H E) (WE E) := takes_of rfl rfl rfl rfl
  exact (ss_set 2 scLaw.nd (s_op od_add (s_calld0 D.dWrong hG tk (hr.mono (by decide)) (by rfl) (F.c "_law_wrong_values" 754) (D.kWrong) (D.bWrong) .nil (fun _ => .nil)) (s_lst (a_cons (s_exc1 (c := 25) (erk_index xb_value (xt_InvalidDeeds w.params) (xo_InvalidDeeds w.params) (F.c "InvalidDeeds" 526)).toEr1 hr s_non (by rfl)) (a_cons (s_exc1K (c := 26) (erk_index xb_value (xt_InvalidLog w.params) (xo_InvalidLog w.params) (F.c "InvalidLog" 545)) hr s_int (by rfl)) (a_cons (s_exc1 (c := 27) (erk_given xb_lookup (xt_UnknownName w.params) (xo_UnknownName w.params) (F.c "UnknownName" 584)).toEr1 hr (s_lst a_nil) (by rfl)) (a_cons (s_exc1K (c := 28) (erk_index xb_lookup (xt_InUse w.params) (xo_InUse w.params) (F.c "InUse" 603)) hr s_int (by rfl)) a_nil)))))))⟩
abbrev law_s2 : SF := law_d2.1
def law_d3 : { b : SF // ∀ (P : Program) (w : World) (mg : Str → Option Value) (base : Heap) (F : Fx mg) (fW fK fO : FuncData) (D : LD P w mg base fW fK fO) (f : Addr) (cdv : Value) (A : Around) (outer : List Env) (s : Shared) (H : Hp) (E : XK), (cLaw P w mg base f cdv A outer s H E).A.guards = some [] → Room 3 (cLaw P w mg base f cdv A outer s H E).A →
    SS (cLaw P w mg base f cdv A outer s H E) cl (WE E) [] (stL 3) b } := ⟨_, fun P w mg base F fW fK fO D f cdv A outer s H E hG hr => by
  have hu : (cLaw P w mg base f cdv A outer s H E).A.units + 64 < cLine := by have := hr.un; omega
  have tk : Takes (cLaw P w mg base f cdv A outer s H E) (WE E) := takes_of rfl rfl rfl rfl
  exact (ss_set 2 scLaw.nd (s_op od_add (s_var 2) (s_lst (a_cons (s_exc0 (c := 29) (er_nil xb_arith (xt_NotStandard w.params) (xo_NotStandard w.params) (F.c "NotStandard" 635)) hr (by rfl)) (a_cons (s_exc0 (c := 30) (er_nil xb_arith (xt_NotInside w.params) (xo_NotInside w.params) (F.c "NotInside" 647)) hr (by rfl)) (a_cons (s_exc0 (c := 31) (er_nil xb_arith (xt_UnlikeSizes w.params) (xo_UnlikeSizes w.params) (F.c "UnlikeSizes" 659)) hr (by rfl)) (a_cons (s_exc0 (c := 32) (er_nil xb_arith (xt_UnlikeShapes w.params) (xo_UnlikeShapes w.params) (F.c "UnlikeShapes" 671)) hr (by rfl)) (a_cons (s_exc0 (c := 33) (er_nil xb_arith (xt_NoMove w.params) (xo_NoMove w.params) (F.c "NoMove" 683)) hr (by rfl)) (a_cons (s_exc0 (c := 34) (er_nil xb_arith (xt_NotReduced w.params) (xo_NotReduced w.params) (F.c "NotReduced" 695)) hr (by rfl)) a_nil)))))))))⟩
abbrev law_s3 : SF := law_d3.1
def law_d4 : { b : SF // ∀ (P : Program) (w : World) (mg : Str → Option Value) (base : Heap) (F : Fx mg) (fW fK fO : FuncData) (D : LD P w mg base fW fK fO) (f : Addr) (cdv : Value) (A : Around) (outer : List Env) (s : Shared) (H : Hp) (E : XK), (cLaw P w mg base f cdv A outer s H E).A.guards = some [] → Room 3 (cLaw P w mg base f cdv A outer s H E).A →
    SS (cLaw P w mg base f cdv A outer s H E) cl (WE E) [] (stL 4) b } := ⟨_, fun P w mg base F fW fK fO D f cdv A outer s H E hG hr => by
  have hu : (cLaw P w mg base f cdv A outer s H E).A.units + 64 < cLine := by have := hr.un; omega
  have tk : Takes (cLaw P w mg base f cdv A outer s H E) (WE E) := takes_of rfl rfl rfl rfl
  exact (ss_set 2 scLaw.nd (s_op od_add (s_var 2) (s_lst (a_cons (s_exc1K (c := 35) (erk_limit xb_arith (xt_TooMany w.params) (xo_TooMany w.params) (F.c "TooMany" 714)) hr s_int (by rfl)) (a_cons (s_exc0 (c := 36) (er_nil xb_arith (xt_NothingToUndo w.params) (xo_NothingToUndo w.params) (F.c "NothingToUndo" 726)) hr (by rfl)) (a_cons (s_exc1K (c := 37) (erk_index xb_arith (xt_Broken w.params) (xo_Broken w.params) (F.c "Broken" 745)) hr s_int (by rfl)) a_nil))))))⟩
abbrev law_s4 : SF := law_d4.1
def law_d5 : { b : SF // ∀ (P : Program) (w : World) (mg : Str → Option Value) (base : Heap) (F : Fx mg) (fW fK fO : FuncData) (D : LD P w mg base fW fK fO) (f : Addr) (cdv : Value) (A : Around) (outer : List Env) (s : Shared) (H : Hp) (E : XK), (cLaw P w mg base f cdv A outer s H E).A.guards = some [] → Room 3 (cLaw P w mg base f cdv A outer s H E).A →
    SS (cLaw P w mg base f cdv A outer s H E) cl (WE E) [] (stL 5) b } := ⟨_, fun P w mg base F fW fK fO D f cdv A outer s H E hG hr => by
  have hu : (cLaw P w mg base f cdv A outer s H E).A.units + 64 < cLine := by have := hr.un; omega
  have tk : Takes (cLaw P w mg base f cdv A outer s H E) (WE E) := takes_of rfl rfl rfl rfl
  exact (ss_if (b_cmp (od_ne hu) (s_comp [("_law_e", 4)] rfl scLaw.nd (i_list (s_var 2)) (by kernel_rfl) (tgOk_name 4) (fun _ _ _ _ _ => pg_name (i := 4) scLaw.nd rfl (Or.inl rfl)) (fun _ _ _ _ _ => pts_yes) (fun _ _ _ _ _ => (s_calld D.dOwn hG takes0 (hr.mono (by decide)) (by rfl) (F.c "_law_own" 766) (D.kOwn) (D.bOwn) .nil (fun _ => .nil) (a_cons (s_var 4) a_nil)))) (s_comp [("_law_at", 5)] rfl scLaw.nd (i_rng1 (by rfl) (F.z "range") s_int) (by kernel_rfl) (tgOk_name 5) (fun _ _ _ _ _ => pg_name (i := 5) scLaw.nd rfl (Or.inl rfl)) (fun _ _ _ _ _ => pts_yes) (fun _ _ _ _ _ => (s_lst (a_cons (s_var 5) a_nil)))) (by rfl)) (sss_one (ss_ret s_bl)) sss_nil)⟩
abbrev law_s5 : SF := law_d5.1
def law_d6 : { b : SF // ∀ (P : Program) (w : World) (mg : Str → Option Value) (base : Heap) (F : Fx mg) (fW fK fO : FuncData) (D : LD P w mg base fW fK fO) (f : Addr) (cdv : Value) (A : Around) (outer : List Env) (s : Shared) (H : Hp) (E : XK), (cLaw P w mg base f cdv A outer s H E).A.guards = some [] → Room 3 (cLaw P w mg base f cdv A outer s H E).A →
    SS (cLaw P w mg base f cdv A outer s H E) cl (WE E) [] (stL 6) b } := ⟨_, fun P w mg base F fW fK fO D f cdv A outer s H E hG hr => by
  have hu : (cLaw P w mg base f cdv A outer s H E).A.units + 64 < cLine := by have := hr.un; omega
  have tk : Takes (cLaw P w mg base f cdv A outer s H E) (WE E) := takes_of rfl rfl rfl rfl
  exact (ss_setComp 3 [("_law_e", 4)] rfl scLaw.nd (i_list (s_var 2)) (by kernel_rfl) (tgOk_name 4) (fun _ _ _ _ _ => pg_name (i := 4) scLaw.nd rfl (Or.inl rfl)) (fun _ _ _ _ _ => pts_yes) (fun _ _ _ _ _ => (s_calld D.dKinds hG takes0 (hr.mono (by decide)) (by rfl) (F.c "_law_kinds" 761) (D.kKinds) (D.bKinds) .nil (fun _ => .nil) (a_cons (s_var 4) a_nil))))⟩
abbrev law_s6 : SF := law_d6.1
def law_d7 : { b : SF // ∀ (P : Program) (w : World) (mg : Str → Option Value) (base : Heap) (F : Fx mg) (fW fK fO : FuncData) (D : LD P w mg base fW fK fO) (f : Addr) (cdv : Value) (A : Around) (outer : List Env) (s : Shared) (H : Hp) (E : XK), (cLaw P w mg base f cdv A outer s H E).A.guards = some [] → Room 3 (cLaw P w mg base f cdv A outer s H E).A →
    SS (cLaw P w mg base f cdv A outer s H E) cl (WE E) [] (stL 7) b } := ⟨_, fun P w mg base F fW fK fO D f cdv A outer s H E hG hr => by
  have hu : (cLaw P w mg base f cdv A outer s H E).A.units + 64 < cLine := by have := hr.un; omega
  have tk : Takes (cLaw P w mg base f cdv A outer s H E) (WE E) := takes_of rfl rfl rfl rfl
  exact (ss_if (b_reprNeB hG hu (by rfl) (F.z "repr") (s_sl (s_var 3) o_none (o_some s_int)) (s_comp [("_law_at", 5)] rfl scLaw.nd (i_rng1 (by rfl) (F.z "range") s_int) (by kernel_rfl) (tgOk_name 5) (fun _ _ _ _ _ => pg_name (i := 5) scLaw.nd rfl (Or.inl rfl)) (fun _ _ _ _ _ => pts_yes) (fun _ _ _ _ _ => (s_lst (a_cons s_bl (a_cons s_bl (a_cons s_bl (a_cons s_bl (a_cons s_bl (a_cons s_bl a_nil)))))))))) (sss_one (ss_ret s_bl)) sss_nil)⟩
abbrev law_s7 : SF := law_d7.1
def law_d8 : { b : SF // ∀ (P : Program) (w : World) (mg : Str → Option Value) (base : Heap) (F : Fx mg) (fW fK fO : FuncData) (D : LD P w mg base fW fK fO) (f : Addr) (cdv : Value) (A : Around) (outer : List Env) (s : Shared) (H : Hp) (E : XK), (cLaw P w mg base f cdv A outer s H E).A.guards = some [] → Room 3 (cLaw P w mg base f cdv A outer s H E).A →
    SS (cLaw P w mg base f cdv A outer s H E) cl (WE E) [] (stL 8) b } := ⟨_, fun P w mg base F fW fK fO D f cdv A outer s H E hG hr => by
  have hu : (cLaw P w mg base f cdv A outer s H E).A.units + 64 < cLine := by have := hr.un; omega
  have tk : Takes (cLaw P w mg base f cdv A outer s H E) (WE E) := takes_of rfl rfl rfl rfl
  exact (ss_if (b_reprNeB hG hu (by rfl) (F.z "repr") (s_sl (s_var 3) (o_some s_int) (o_some s_int)) (s_comp [("_law_at", 5)] rfl scLaw.nd (i_rng1 (by rfl) (F.z "range") s_int) (by kernel_rfl) (tgOk_name 5) (fun _ _ _ _ _ => pg_name (i := 5) scLaw.nd rfl (Or.inl rfl)) (fun _ _ _ _ _ => pts_yes) (fun _ _ _ _ _ => (s_lst (a_cons s_bl (a_cons s_bl (a_cons s_bl (a_cons s_bl (a_cons s_bl (a_cons s_bl a_nil)))))))))) (sss_one (ss_ret s_bl)) sss_nil)⟩
abbrev law_s8 : SF := law_d8.1
def law_d9 : { b : SF // ∀ (P : Program) (w : World) (mg : Str → Option Value) (base : Heap) (F : Fx mg) (fW fK fO : FuncData) (D : LD P w mg base fW fK fO) (f : Addr) (cdv : Value) (A : Around) (outer : List Env) (s : Shared) (H : Hp) (E : XK), (cLaw P w mg base f cdv A outer s H E).A.guards = some [] → Room 3 (cLaw P w mg base f cdv A outer s H E).A →
    SS (cLaw P w mg base f cdv A outer s H E) cl (WE E) [] (stL 9) b } := ⟨_, fun P w mg base F fW fK fO D f cdv A outer s H E hG hr => by
  have hu : (cLaw P w mg base f cdv A outer s H E).A.units + 64 < cLine := by have := hr.un; omega
  have tk : Takes (cLaw P w mg base f cdv A outer s H E) (WE E) := takes_of rfl rfl rfl rfl
  exact (ss_if (b_reprNeB hG hu (by rfl) (F.z "repr") (s_sl (s_var 3) (o_some s_int) o_none) (s_comp [("_law_at", 5)] rfl scLaw.nd (i_rng1 (by rfl) (F.z "range") s_int) (by kernel_rfl) (tgOk_name 5) (fun _ _ _ _ _ => pg_name (i := 5) scLaw.nd rfl (Or.inl rfl)) (fun _ _ _ _ _ => pts_yes) (fun _ _ _ _ _ => (s_lst (a_cons s_bl (a_cons s_bl (a_cons s_bl (a_cons s_bl (a_cons s_bl (a_cons s_bl a_nil)))))))))) (sss_one (ss_ret s_bl)) sss_nil)⟩
abbrev law_s9 : SF := law_d9.1
def law_d10 : { b : SF // ∀ (P : Program) (w : World) (mg : Str → Option Value) (base : Heap) (F : Fx mg) (fW fK fO : FuncData) (D : LD P w mg base fW fK fO) (f : Addr) (cdv : Value) (A : Around) (outer : List Env) (s : Shared) (H : Hp) (E : XK), (cLaw P w mg base f cdv A outer s H E).A.guards = some [] → Room 3 (cLaw P w mg base f cdv A outer s H E).A →
    SS (cLaw P w mg base f cdv A outer s H E) cl (WE E) [] (stL 10) b } := ⟨_, fun P w mg base F fW fK fO D f cdv A outer s H E hG hr => by
  have hu : (cLaw P w mg base f cdv A outer s H E).A.units + 64 < cLine := by have := hr.un; omega
  have tk : Takes (cLaw P w mg base f cdv A outer s H E) (WE E) := takes_of rfl rfl rfl rfl
  exact (ss_if (PW.pt (w_or (b_cmp (od_ne hu) (s_comp [("_law_e", 4)] rfl scLaw.nd (i_list (s_sl (s_var 2) o_none (o_some s_int))) (by kernel_rfl) (tgOk_name 4) (fun _ _ _ _ _ => pg_name (i := 4) scLaw.nd rfl (Or.inl rfl)) (fun _ _ _ _ _ => pts_yes) (fun _ _ _ _ _ => (s_xf (tx_given w.params) (s_var 4)))) (s_comp [("_law_at", 5)] rfl scLaw.nd (i_rng1 (by rfl) (F.z "range") s_int) (by kernel_rfl) (tgOk_name 5) (fun _ _ _ _ _ => pg_name (i := 5) scLaw.nd rfl (Or.inl rfl)) (fun _ _ _ _ _ => pts_yes) (fun _ _ _ _ _ => s_str)) (by rfl)) (w_or1 (b_cmp od_notN (s_xf (tx_index w.params) (s_ix (s_var 2) s_int)) s_non (by rfl))))) (sss_one (ss_ret s_bl)) sss_nil)⟩
abbrev law_s10 : SF := law_d10.1
def law_d11 : { b : SF // ∀ (P : Program) (w : World) (mg : Str → Option Value) (base : Heap) (F : Fx mg) (fW fK fO : FuncData) (D : LD P w mg base fW fK fO) (f : Addr) (cdv : Value) (A : Around) (outer : List Env) (s : Shared) (H : Hp) (E : XK), (cLaw P w mg base f cdv A outer s H E).A.guards = some [] → Room 3 (cLaw P w mg base f cdv A outer s H E).A →
    SS (cLaw P w mg base f cdv A outer s H E) cl (WE E) [] (stL 11) b } := ⟨_, fun P w mg base F fW fK fO D f cdv A outer s H E hG hr => by
  have hu : (cLaw P w mg base f cdv A outer s H E).A.units + 64 < cLine := by have := hr.un; omega
  have tk : Takes (cLaw P w mg base f cdv A outer s H E) (WE E) := takes_of rfl rfl rfl rfl
  exact (ss_ret (s_reprEqB hG hu (by rfl) (F.z "repr") (s_lst (a_cons (s_xf (tx_index w.params) (s_ix (s_var 2) s_int)) (a_cons (s_xf (tx_given w.params) (s_ix (s_var 2) s_int)) (a_cons (s_xf (tx_index w.params) (s_ix (s_var 2) s_int)) (a_cons (s_xf (tx_limit w.params) (s_ix (s_var 2) s_int)) (a_cons (s_xf (tx_index w.params) (s_ix (s_var 2) s_int)) a_nil)))))) (s_lst (a_cons s_int (a_cons (s_lst a_nil) (a_cons s_int (a_cons s_int (a_cons s_int a_nil))))))))⟩
abbrev law_s11 : SF := law_d11.1
def fLaw : SF := (sSeq law_s0 (sSeq law_s1 (sSeq law_s2 (sSeq law_s3 (sSeq law_s4 (sSeq law_s5 (sSeq law_s6 (sSeq law_s7 (sSeq law_s8 (sSeq law_s9 (sSeq law_s10 law_s11)))))))))))
theorem okLaw (P : Program) (w : World) (mg : Str → Option Value) (base : Heap) (F : Fx mg) (fW fK fO : FuncData) (D : LD P w mg base fW fK fO) (f : Addr) (cdv : Value) (A : Around) (outer : List Env) (s : Shared) (H : Hp) (E : XK) (hG : (cLaw P w mg base f cdv A outer s H E).A.guards = some []) (hr : Room 3 (cLaw P w mg base f cdv A outer s H E).A) :
    SSs (cLaw P w mg base f cdv A outer s H E) cl (WE E) [] (defBody sLaw) fLaw := (sss_cons (law_d0.2 P w mg base F fW fK fO D f cdv A outer s H E hG hr) (sss_cons (law_d1.2 P w mg base F fW fK fO D f cdv A outer s H E hG hr) (sss_cons (law_d2.2 P w mg base F fW fK fO D f cdv A outer s H E hG hr) (sss_cons (law_d3.2 P w mg base F fW fK fO D f cdv A outer s H E hG hr) (sss_cons (law_d4.2 P w mg base F fW fK fO D f cdv A outer s H E hG hr) (sss_cons (law_d5.2 P w mg base F fW fK fO D f cdv A outer s H E hG hr) (sss_cons (law_d6.2 P w mg base F fW fK fO D f cdv A outer s H E hG hr) (sss_cons (law_d7.2 P w mg base F fW fK fO D f cdv A outer s H E hG hr) (sss_cons (law_d8.2 P w mg base F fW fK fO D f cdv A outer s H E hG hr) (sss_cons (law_d9.2 P w mg base F fW fK fO D f cdv A outer s H E hG hr) (sss_cons (law_d10.2 P w mg base F fW fK fO D f cdv A outer s H E hG hr) (sss_one (law_d11.2 P w mg base F fW fK fO D f cdv A outer s H E hG hr)))))))))))))

def mLaw : PM := runP nLaw.length fLaw
end K01

end
section
open PySem PySem.Spec L2 DL PySem.DLX PyProof.Rows
namespace K01
def vWrong : List D := [.obj 0 [("given", .str "a")], .obj 1 [("given", .str "a")], .obj 2 [("given", .str "a")], .obj 3 [("given", .str "a")], .obj 4 [("given", .str "a")], .obj 5 [("given", .str "a")], .obj 6 [("given", .str "a")], .obj 7 [("given", .str "a")], .obj 8 [("given", .str "a")], .obj 9 [("given", .str "a")], .obj 10 [("given", .str "a")], .obj 11 [("given", .str "a")], .obj 12 [("given", .str "a")], .obj 13 [("given", .str "a")], .obj 14 [("given", .str "a")], .obj 15 [("given", .str "a")], .obj 16 [("given", .str "a")], .obj 17 [("given", .str "a")], .obj 18 [("given", .str "a")], .obj 19 [("given", .str "a")], .obj 20 [("given", .str "a")], .obj 21 [("given", .str "a")], .obj 22 [("given", .str "a")], .obj 23 [("given", .str "a")], .obj 24 [("given", .str "a")]]
theorem eWrong : mWrong [] = .ok (.lst vWrong) := by kernel_rfl
def vEvery : List D := vWrong ++ [.obj 25 [("index", .non)], .obj 26 [("index", .int 4)], .obj 27 [("given", .lst [])], .obj 28 [("index", .int 3)], .obj 29 [], .obj 30 [], .obj 31 [], .obj 32 [], .obj 33 [], .obj 34 [], .obj 35 [("limit", .int 8)], .obj 36 [], .obj 37 [("index", .int 6)]]
theorem eOwn0 (fs : List (Str × D)) : mOwn [.obj 0 fs] = .ok (.lst [.int 0]) := by kernel_rfl
theorem eOwn1 (fs : List (Str × D)) : mOwn [.obj 1 fs] = .ok (.lst [.int 1]) := by kernel_rfl
theorem eOwn2 (fs : List (Str × D)) : mOwn [.obj 2 fs] = .ok (.lst [.int 2]) := by kernel_rfl
theorem eOwn3 (fs : List (Str × D)) : mOwn [.obj 3 fs] = .ok (.lst [.int 3]) := by kernel_rfl
theorem eOwn4 (fs : List (Str × D)) : mOwn [.obj 4 fs] = .ok (.lst [.int 4]) := by kernel_rfl
theorem eOwn5 (fs : List (Str × D)) : mOwn [.obj 5 fs] = .ok (.lst [.int 5]) := by kernel_rfl
theorem eOwn6 (fs : List (Str × D)) : mOwn [.obj 6 fs] = .ok (.lst [.int 6]) := by kernel_rfl
theorem eOwn7 (fs : List (Str × D)) : mOwn [.obj 7 fs] = .ok (.lst [.int 7]) := by kernel_rfl
theorem eOwn8 (fs : List (Str × D)) : mOwn [.obj 8 fs] = .ok (.lst [.int 8]) := by kernel_rfl
theorem eOwn9 (fs : List (Str × D)) : mOwn [.obj 9 fs] = .ok (.lst [.int 9]) := by kernel_rfl
theorem eOwn10 (fs : List (Str × D)) : mOwn [.obj 10 fs] = .ok (.lst [.int 10]) := by kernel_rfl
theorem eOwn11 (fs : List (Str × D)) : mOwn [.obj 11 fs] = .ok (.lst [.int 11]) := by kernel_rfl
theorem eOwn12 (fs : List (Str × D)) : mOwn [.obj 12 fs] = .ok (.lst [.int 12]) := by kernel_rfl
theorem eOwn13 (fs : List (Str × D)) : mOwn [.obj 13 fs] = .ok (.lst [.int 13]) := by kernel_rfl
theorem eOwn14 (fs : List (Str × D)) : mOwn [.obj 14 fs] = .ok (.lst [.int 14]) := by kernel_rfl
theorem eOwn15 (fs : List (Str × D)) : mOwn [.obj 15 fs] = .ok (.lst [.int 15]) := by kernel_rfl
theorem eOwn16 (fs : List (Str × D)) : mOwn [.obj 16 fs] = .ok (.lst [.int 16]) := by kernel_rfl
theorem eOwn17 (fs : List (Str × D)) : mOwn [.obj 17 fs] = .ok (.lst [.int 17]) := by kernel_rfl
theorem eOwn18 (fs : List (Str × D)) : mOwn [.obj 18 fs] = .ok (.lst [.int 18]) := by kernel_rfl
theorem eOwn19 (fs : List (Str × D)) : mOwn [.obj 19 fs] = .ok (.lst [.int 19]) := by kernel_rfl
theorem eOwn20 (fs : List (Str × D)) : mOwn [.obj 20 fs] = .ok (.lst [.int 20]) := by kernel_rfl
theorem eOwn21 (fs : List (Str × D)) : mOwn [.obj 21 fs] = .ok (.lst [.int 21]) := by kernel_rfl
theorem eOwn22 (fs : List (Str × D)) : mOwn [.obj 22 fs] = .ok (.lst [.int 22]) := by kernel_rfl
theorem eOwn23 (fs : List (Str × D)) : mOwn [.obj 23 fs] = .ok (.lst [.int 23]) := by kernel_rfl
theorem eOwn24 (fs : List (Str × D)) : mOwn [.obj 24 fs] = .ok (.lst [.int 24]) := by kernel_rfl
theorem eOwn25 (fs : List (Str × D)) : mOwn [.obj 25 fs] = .ok (.lst [.int 25]) := by kernel_rfl
theorem eOwn26 (fs : List (Str × D)) : mOwn [.obj 26 fs] = .ok (.lst [.int 26]) := by kernel_rfl
theorem eOwn27 (fs : List (Str × D)) : mOwn [.obj 27 fs] = .ok (.lst [.int 27]) := by kernel_rfl
theorem eOwn28 (fs : List (Str × D)) : mOwn [.obj 28 fs] = .ok (.lst [.int 28]) := by kernel_rfl
theorem eOwn29 (fs : List (Str × D)) : mOwn [.obj 29 fs] = .ok (.lst [.int 29]) := by kernel_rfl
theorem eOwn30 (fs : List (Str × D)) : mOwn [.obj 30 fs] = .ok (.lst [.int 30]) := by kernel_rfl
theorem eOwn31 (fs : List (Str × D)) : mOwn [.obj 31 fs] = .ok (.lst [.int 31]) := by kernel_rfl
theorem eOwn32 (fs : List (Str × D)) : mOwn [.obj 32 fs] = .ok (.lst [.int 32]) := by kernel_rfl
theorem eOwn33 (fs : List (Str × D)) : mOwn [.obj 33 fs] = .ok (.lst [.int 33]) := by kernel_rfl
theorem eOwn34 (fs : List (Str × D)) : mOwn [.obj 34 fs] = .ok (.lst [.int 34]) := by kernel_rfl
theorem eOwn35 (fs : List (Str × D)) : mOwn [.obj 35 fs] = .ok (.lst [.int 35]) := by kernel_rfl
theorem eOwn36 (fs : List (Str × D)) : mOwn [.obj 36 fs] = .ok (.lst [.int 36]) := by kernel_rfl
theorem eOwn37 (fs : List (Str × D)) : mOwn [.obj 37 fs] = .ok (.lst [.int 37]) := by kernel_rfl
theorem eKinds0 (fs : List (Str × D)) : mKinds [.obj 0 fs] = .ok (.lst [.bl true, .bl false, .bl false, .bl true, .bl false, .bl false]) := by kernel_rfl
theorem eKinds1 (fs : List (Str × D)) : mKinds [.obj 1 fs] = .ok (.lst [.bl true, .bl false, .bl false, .bl true, .bl false, .bl false]) := by kernel_rfl
theorem eKinds2 (fs : List (Str × D)) : mKinds [.obj 2 fs] = .ok (.lst [.bl true, .bl false, .bl false, .bl true, .bl false, .bl false]) := by kernel_rfl
theorem eKinds3 (fs : List (Str × D)) : mKinds [.obj 3 fs] = .ok (.lst [.bl true, .bl false, .bl false, .bl true, .bl false, .bl false]) := by kernel_rfl
theorem eKinds4 (fs : List (Str × D)) : mKinds [.obj 4 fs] = .ok (.lst [.bl true, .bl false, .bl false, .bl true, .bl false, .bl false]) := by kernel_rfl
theorem eKinds5 (fs : List (Str × D)) : mKinds [.obj 5 fs] = .ok (.lst [.bl true, .bl false, .bl false, .bl true, .bl false, .bl false]) := by kernel_rfl
theorem eKinds6 (fs : List (Str × D)) : mKinds [.obj 6 fs] = .ok (.lst [.bl true, .bl false, .bl false, .bl true, .bl false, .bl false]) := by kernel_rfl
theorem eKinds7 (fs : List (Str × D)) : mKinds [.obj 7 fs] = .ok (.lst [.bl true, .bl false, .bl false, .bl true, .bl false, .bl false]) := by kernel_rfl
theorem eKinds8 (fs : List (Str × D)) : mKinds [.obj 8 fs] = .ok (.lst [.bl true, .bl false, .bl false, .bl true, .bl false, .bl false]) := by kernel_rfl
theorem eKinds9 (fs : List (Str × D)) : mKinds [.obj 9 fs] = .ok (.lst [.bl true, .bl false, .bl false, .bl true, .bl false, .bl false]) := by kernel_rfl
theorem eKinds10 (fs : List (Str × D)) : mKinds [.obj 10 fs] = .ok (.lst [.bl true, .bl false, .bl false, .bl true, .bl false, .bl false]) := by kernel_rfl
theorem eKinds11 (fs : List (Str × D)) : mKinds [.obj 11 fs] = .ok (.lst [.bl true, .bl false, .bl false, .bl true, .bl false, .bl false]) := by kernel_rfl
theorem eKinds12 (fs : List (Str × D)) : mKinds [.obj 12 fs] = .ok (.lst [.bl true, .bl false, .bl false, .bl true, .bl false, .bl false]) := by kernel_rfl
theorem eKinds13 (fs : List (Str × D)) : mKinds [.obj 13 fs] = .ok (.lst [.bl true, .bl false, .bl false, .bl true, .bl false, .bl false]) := by kernel_rfl
theorem eKinds14 (fs : List (Str × D)) : mKinds [.obj 14 fs] = .ok (.lst [.bl true, .bl false, .bl false, .bl true, .bl false, .bl false]) := by kernel_rfl
theorem eKinds15 (fs : List (Str × D)) : mKinds [.obj 15 fs] = .ok (.lst [.bl true, .bl false, .bl false, .bl true, .bl false, .bl false]) := by kernel_rfl
theorem eKinds16 (fs : List (Str × D)) : mKinds [.obj 16 fs] = .ok (.lst [.bl true, .bl false, .bl false, .bl true, .bl false, .bl false]) := by kernel_rfl
theorem eKinds17 (fs : List (Str × D)) : mKinds [.obj 17 fs] = .ok (.lst [.bl true, .bl false, .bl false, .bl true, .bl false, .bl false]) := by kernel_rfl
theorem eKinds18 (fs : List (Str × D)) : mKinds [.obj 18 fs] = .ok (.lst [.bl true, .bl false, .bl false, .bl true, .bl false, .bl false]) := by kernel_rfl
theorem eKinds19 (fs : List (Str × D)) : mKinds [.obj 19 fs] = .ok (.lst [.bl true, .bl false, .bl false, .bl true, .bl false, .bl false]) := by kernel_rfl
theorem eKinds20 (fs : List (Str × D)) : mKinds [.obj 20 fs] = .ok (.lst [.bl true, .bl false, .bl false, .bl true, .bl false, .bl false]) := by kernel_rfl
theorem eKinds21 (fs : List (Str × D)) : mKinds [.obj 21 fs] = .ok (.lst [.bl true, .bl false, .bl false, .bl true, .bl false, .bl false]) := by kernel_rfl
theorem eKinds22 (fs : List (Str × D)) : mKinds [.obj 22 fs] = .ok (.lst [.bl true, .bl false, .bl false, .bl true, .bl false, .bl false]) := by kernel_rfl
theorem eKinds23 (fs : List (Str × D)) : mKinds [.obj 23 fs] = .ok (.lst [.bl true, .bl false, .bl false, .bl true, .bl false, .bl false]) := by kernel_rfl
theorem eKinds24 (fs : List (Str × D)) : mKinds [.obj 24 fs] = .ok (.lst [.bl true, .bl false, .bl false, .bl true, .bl false, .bl false]) := by kernel_rfl
theorem eKinds25 (fs : List (Str × D)) : mKinds [.obj 25 fs] = .ok (.lst [.bl true, .bl false, .bl false, .bl true, .bl false, .bl false]) := by kernel_rfl
theorem eKinds26 (fs : List (Str × D)) : mKinds [.obj 26 fs] = .ok (.lst [.bl true, .bl false, .bl false, .bl true, .bl false, .bl false]) := by kernel_rfl
theorem eKinds27 (fs : List (Str × D)) : mKinds [.obj 27 fs] = .ok (.lst [.bl false, .bl true, .bl false, .bl false, .bl true, .bl false]) := by kernel_rfl
theorem eKinds28 (fs : List (Str × D)) : mKinds [.obj 28 fs] = .ok (.lst [.bl false, .bl true, .bl false, .bl false, .bl true, .bl false]) := by kernel_rfl
theorem eKinds29 (fs : List (Str × D)) : mKinds [.obj 29 fs] = .ok (.lst [.bl false, .bl false, .bl true, .bl false, .bl false, .bl true]) := by kernel_rfl
theorem eKinds30 (fs : List (Str × D)) : mKinds [.obj 30 fs] = .ok (.lst [.bl false, .bl false, .bl true, .bl false, .bl false, .bl true]) := by kernel_rfl
theorem eKinds31 (fs : List (Str × D)) : mKinds [.obj 31 fs] = .ok (.lst [.bl false, .bl false, .bl true, .bl false, .bl false, .bl true]) := by kernel_rfl
theorem eKinds32 (fs : List (Str × D)) : mKinds [.obj 32 fs] = .ok (.lst [.bl false, .bl false, .bl true, .bl false, .bl false, .bl true]) := by kernel_rfl
theorem eKinds33 (fs : List (Str × D)) : mKinds [.obj 33 fs] = .ok (.lst [.bl false, .bl false, .bl true, .bl false, .bl false, .bl true]) := by kernel_rfl
theorem eKinds34 (fs : List (Str × D)) : mKinds [.obj 34 fs] = .ok (.lst [.bl false, .bl false, .bl true, .bl false, .bl false, .bl true]) := by kernel_rfl
theorem eKinds35 (fs : List (Str × D)) : mKinds [.obj 35 fs] = .ok (.lst [.bl false, .bl false, .bl true, .bl false, .bl false, .bl true]) := by kernel_rfl
theorem eKinds36 (fs : List (Str × D)) : mKinds [.obj 36 fs] = .ok (.lst [.bl false, .bl false, .bl true, .bl false, .bl false, .bl true]) := by kernel_rfl
theorem eKinds37 (fs : List (Str × D)) : mKinds [.obj 37 fs] = .ok (.lst [.bl false, .bl false, .bl true, .bl false, .bl false, .bl true]) := by kernel_rfl
end K01

end
section
open PySem PySem.Spec L2 DL PySem.DLX PyProof.Rows
namespace K01
theorem seq_eq {a c : SF} {e e1 : Slots} {r} (h : a e = .nx e1) (h2 : c e1 = r) : sSeq a c e = r := by
  unfold sSeq
  rw [h]
  exact h2
def v0 (ns : List Int) : Slots := [.pu (.fz (ns.map .int)), .un, .un, .un, .un, .un]
def v1 (ns : List Int) : Slots := [.pu (.fz (ns.map .int)), .pu (.lst [.int 12, .int 12, .int 66, .int 40, .int 8, .int 4, .int 9, .int 2000]), .un, .un, .un, .un]
def v2 (ns : List Int) : Slots := [.pu (.fz (ns.map .int)), .pu (.lst [.int 12, .int 12, .int 66, .int 40, .int 8, .int 4, .int 9, .int 2000]), .un, .un, .un, .un]
def v3 (ns : List Int) : Slots := [.pu (.fz (ns.map .int)), .pu (.lst [.int 12, .int 12, .int 66, .int 40, .int 8, .int 4, .int 9, .int 2000]), .pu (.lst [.obj 0 [("given", .str "a")], .obj 1 [("given", .str "a")], .obj 2 [("given", .str "a")], .obj 3 [("given", .str "a")], .obj 4 [("given", .str "a")], .obj 5 [("given", .str "a")], .obj 6 [("given", .str "a")], .obj 7 [("given", .str "a")], .obj 8 [("given", .str "a")], .obj 9 [("given", .str "a")], .obj 10 [("given", .str "a")], .obj 11 [("given", .str "a")], .obj 12 [("given", .str "a")], .obj 13 [("given", .str "a")], .obj 14 [("given", .str "a")], .obj 15 [("given", .str "a")], .obj 16 [("given", .str "a")], .obj 17 [("given", .str "a")], .obj 18 [("given", .str "a")], .obj 19 [("given", .str "a")], .obj 20 [("given", .str "a")], .obj 21 [("given", .str "a")], .obj 22 [("given", .str "a")], .obj 23 [("given", .str "a")], .obj 24 [("given", .str "a")], .obj 25 [("index", .non)], .obj 26 [("index", .int 4)], .obj 27 [("given", .lst [])], .obj 28 [("index", .int 3)]]), .un, .un, .un]
def v4 (ns : List Int) : Slots := [.pu (.fz (ns.map .int)), .pu (.lst [.int 12, .int 12, .int 66, .int 40, .int 8, .int 4, .int 9, .int 2000]), .pu (.lst [.obj 0 [("given", .str "a")], .obj 1 [("given", .str "a")], .obj 2 [("given", .str "a")], .obj 3 [("given", .str "a")], .obj 4 [("given", .str "a")], .obj 5 [("given", .str "a")], .obj 6 [("given", .str "a")], .obj 7 [("given", .str "a")], .obj 8 [("given", .str "a")], .obj 9 [("given", .str "a")], .obj 10 [("given", .str "a")], .obj 11 [("given", .str "a")], .obj 12 [("given", .str "a")], .obj 13 [("given", .str "a")], .obj 14 [("given", .str "a")], .obj 15 [("given", .str "a")], .obj 16 [("given", .str "a")], .obj 17 [("given", .str "a")], .obj 18 [("given", .str "a")], .obj 19 [("given", .str "a")], .obj 20 [("given", .str "a")], .obj 21 [("given", .str "a")], .obj 22 [("given", .str "a")], .obj 23 [("given", .str "a")], .obj 24 [("given", .str "a")], .obj 25 [("index", .non)], .obj 26 [("index", .int 4)], .obj 27 [("given", .lst [])], .obj 28 [("index", .int 3)], .obj 29 [], .obj 30 [], .obj 31 [], .obj 32 [], .obj 33 [], .obj 34 []]), .un, .un, .un]
def v5 (ns : List Int) : Slots := [.pu (.fz (ns.map .int)), .pu (.lst [.int 12, .int 12, .int 66, .int 40, .int 8, .int 4, .int 9, .int 2000]), .pu (.lst [.obj 0 [("given", .str "a")], .obj 1 [("given", .str "a")], .obj 2 [("given", .str "a")], .obj 3 [("given", .str "a")], .obj 4 [("given", .str "a")], .obj 5 [("given", .str "a")], .obj 6 [("given", .str "a")], .obj 7 [("given", .str "a")], .obj 8 [("given", .str "a")], .obj 9 [("given", .str "a")], .obj 10 [("given", .str "a")], .obj 11 [("given", .str "a")], .obj 12 [("given", .str "a")], .obj 13 [("given", .str "a")], .obj 14 [("given", .str "a")], .obj 15 [("given", .str "a")], .obj 16 [("given", .str "a")], .obj 17 [("given", .str "a")], .obj 18 [("given", .str "a")], .obj 19 [("given", .str "a")], .obj 20 [("given", .str "a")], .obj 21 [("given", .str "a")], .obj 22 [("given", .str "a")], .obj 23 [("given", .str "a")], .obj 24 [("given", .str "a")], .obj 25 [("index", .non)], .obj 26 [("index", .int 4)], .obj 27 [("given", .lst [])], .obj 28 [("index", .int 3)], .obj 29 [], .obj 30 [], .obj 31 [], .obj 32 [], .obj 33 [], .obj 34 [], .obj 35 [("limit", .int 8)], .obj 36 [], .obj 37 [("index", .int 6)]]), .un, .un, .un]
def v6 (ns : List Int) : Slots := [.pu (.fz (ns.map .int)), .pu (.lst [.int 12, .int 12, .int 66, .int 40, .int 8, .int 4, .int 9, .int 2000]), .pu (.lst [.obj 0 [("given", .str "a")], .obj 1 [("given", .str "a")], .obj 2 [("given", .str "a")], .obj 3 [("given", .str "a")], .obj 4 [("given", .str "a")], .obj 5 [("given", .str "a")], .obj 6 [("given", .str "a")], .obj 7 [("given", .str "a")], .obj 8 [("given", .str "a")], .obj 9 [("given", .str "a")], .obj 10 [("given", .str "a")], .obj 11 [("given", .str "a")], .obj 12 [("given", .str "a")], .obj 13 [("given", .str "a")], .obj 14 [("given", .str "a")], .obj 15 [("given", .str "a")], .obj 16 [("given", .str "a")], .obj 17 [("given", .str "a")], .obj 18 [("given", .str "a")], .obj 19 [("given", .str "a")], .obj 20 [("given", .str "a")], .obj 21 [("given", .str "a")], .obj 22 [("given", .str "a")], .obj 23 [("given", .str "a")], .obj 24 [("given", .str "a")], .obj 25 [("index", .non)], .obj 26 [("index", .int 4)], .obj 27 [("given", .lst [])], .obj 28 [("index", .int 3)], .obj 29 [], .obj 30 [], .obj 31 [], .obj 32 [], .obj 33 [], .obj 34 [], .obj 35 [("limit", .int 8)], .obj 36 [], .obj 37 [("index", .int 6)]]), .un, .un, .un]
def v7 (ns : List Int) : Slots := [.pu (.fz (ns.map .int)), .pu (.lst [.int 12, .int 12, .int 66, .int 40, .int 8, .int 4, .int 9, .int 2000]), .pu (.lst [.obj 0 [("given", .str "a")], .obj 1 [("given", .str "a")], .obj 2 [("given", .str "a")], .obj 3 [("given", .str "a")], .obj 4 [("given", .str "a")], .obj 5 [("given", .str "a")], .obj 6 [("given", .str "a")], .obj 7 [("given", .str "a")], .obj 8 [("given", .str "a")], .obj 9 [("given", .str "a")], .obj 10 [("given", .str "a")], .obj 11 [("given", .str "a")], .obj 12 [("given", .str "a")], .obj 13 [("given", .str "a")], .obj 14 [("given", .str "a")], .obj 15 [("given", .str "a")], .obj 16 [("given", .str "a")], .obj 17 [("given", .str "a")], .obj 18 [("given", .str "a")], .obj 19 [("given", .str "a")], .obj 20 [("given", .str "a")], .obj 21 [("given", .str "a")], .obj 22 [("given", .str "a")], .obj 23 [("given", .str "a")], .obj 24 [("given", .str "a")], .obj 25 [("index", .non)], .obj 26 [("index", .int 4)], .obj 27 [("given", .lst [])], .obj 28 [("index", .int 3)], .obj 29 [], .obj 30 [], .obj 31 [], .obj 32 [], .obj 33 [], .obj 34 [], .obj 35 [("limit", .int 8)], .obj 36 [], .obj 37 [("index", .int 6)]]), .pu (.lst [.lst [.bl true, .bl false, .bl false, .bl true, .bl false, .bl false], .lst [.bl true, .bl false, .bl false, .bl true, .bl false, .bl false], .lst [.bl true, .bl false, .bl false, .bl true, .bl false, .bl false], .lst [.bl true, .bl false, .bl false, .bl true, .bl false, .bl false], .lst [.bl true, .bl false, .bl false, .bl true, .bl false, .bl false], .lst [.bl true, .bl false, .bl false, .bl true, .bl false, .bl false], .lst [.bl true, .bl false, .bl false, .bl true, .bl false, .bl false], .lst [.bl true, .bl false, .bl false, .bl true, .bl false, .bl false], .lst [.bl true, .bl false, .bl false, .bl true, .bl false, .bl false], .lst [.bl true, .bl false, .bl false, .bl true, .bl false, .bl false], .lst [.bl true, .bl false, .bl false, .bl true, .bl false, .bl false], .lst [.bl true, .bl false, .bl false, .bl true, .bl false, .bl false], .lst [.bl true, .bl false, .bl false, .bl true, .bl false, .bl false], .lst [.bl true, .bl false, .bl false, .bl true, .bl false, .bl false], .lst [.bl true, .bl false, .bl false, .bl true, .bl false, .bl false], .lst [.bl true, .bl false, .bl false, .bl true, .bl false, .bl false], .lst [.bl true, .bl false, .bl false, .bl true, .bl false, .bl false], .lst [.bl true, .bl false, .bl false, .bl true, .bl false, .bl false], .lst [.bl true, .bl false, .bl false, .bl true, .bl false, .bl false], .lst [.bl true, .bl false, .bl false, .bl true, .bl false, .bl false], .lst [.bl true, .bl false, .bl false, .bl true, .bl false, .bl false], .lst [.bl true, .bl false, .bl false, .bl true, .bl false, .bl false], .lst [.bl true, .bl false, .bl false, .bl true, .bl false, .bl false], .lst [.bl true, .bl false, .bl false, .bl true, .bl false, .bl false], .lst [.bl true, .bl false, .bl false, .bl true, .bl false, .bl false], .lst [.bl true, .bl false, .bl false, .bl true, .bl false, .bl false], .lst [.bl true, .bl false, .bl false, .bl true, .bl false, .bl false], .lst [.bl false, .bl true, .bl false, .bl false, .bl true, .bl false], .lst [.bl false, .bl true, .bl false, .bl false, .bl true, .bl false], .lst [.bl false, .bl false, .bl true, .bl false, .bl false, .bl true], .lst [.bl false, .bl false, .bl true, .bl false, .bl false, .bl true], .lst [.bl false, .bl false, .bl true, .bl false, .bl false, .bl true], .lst [.bl false, .bl false, .bl true, .bl false, .bl false, .bl true], .lst [.bl false, .bl false, .bl true, .bl false, .bl false, .bl true], .lst [.bl false, .bl false, .bl true, .bl false, .bl false, .bl true], .lst [.bl false, .bl false, .bl true, .bl false, .bl false, .bl true], .lst [.bl false, .bl false, .bl true, .bl false, .bl false, .bl true], .lst [.bl false, .bl false, .bl true, .bl false, .bl false, .bl true]]), .un, .un]
def v8 (ns : List Int) : Slots := [.pu (.fz (ns.map .int)), .pu (.lst [.int 12, .int 12, .int 66, .int 40, .int 8, .int 4, .int 9, .int 2000]), .pu (.lst [.obj 0 [("given", .str "a")], .obj 1 [("given", .str "a")], .obj 2 [("given", .str "a")], .obj 3 [("given", .str "a")], .obj 4 [("given", .str "a")], .obj 5 [("given", .str "a")], .obj 6 [("given", .str "a")], .obj 7 [("given", .str "a")], .obj 8 [("given", .str "a")], .obj 9 [("given", .str "a")], .obj 10 [("given", .str "a")], .obj 11 [("given", .str "a")], .obj 12 [("given", .str "a")], .obj 13 [("given", .str "a")], .obj 14 [("given", .str "a")], .obj 15 [("given", .str "a")], .obj 16 [("given", .str "a")], .obj 17 [("given", .str "a")], .obj 18 [("given", .str "a")], .obj 19 [("given", .str "a")], .obj 20 [("given", .str "a")], .obj 21 [("given", .str "a")], .obj 22 [("given", .str "a")], .obj 23 [("given", .str "a")], .obj 24 [("given", .str "a")], .obj 25 [("index", .non)], .obj 26 [("index", .int 4)], .obj 27 [("given", .lst [])], .obj 28 [("index", .int 3)], .obj 29 [], .obj 30 [], .obj 31 [], .obj 32 [], .obj 33 [], .obj 34 [], .obj 35 [("limit", .int 8)], .obj 36 [], .obj 37 [("index", .int 6)]]), .pu (.lst [.lst [.bl true, .bl false, .bl false, .bl true, .bl false, .bl false], .lst [.bl true, .bl false, .bl false, .bl true, .bl false, .bl false], .lst [.bl true, .bl false, .bl false, .bl true, .bl false, .bl false], .lst [.bl true, .bl false, .bl false, .bl true, .bl false, .bl false], .lst [.bl true, .bl false, .bl false, .bl true, .bl false, .bl false], .lst [.bl true, .bl false, .bl false, .bl true, .bl false, .bl false], .lst [.bl true, .bl false, .bl false, .bl true, .bl false, .bl false], .lst [.bl true, .bl false, .bl false, .bl true, .bl false, .bl false], .lst [.bl true, .bl false, .bl false, .bl true, .bl false, .bl false], .lst [.bl true, .bl false, .bl false, .bl true, .bl false, .bl false], .lst [.bl true, .bl false, .bl false, .bl true, .bl false, .bl false], .lst [.bl true, .bl false, .bl false, .bl true, .bl false, .bl false], .lst [.bl true, .bl false, .bl false, .bl true, .bl false, .bl false], .lst [.bl true, .bl false, .bl false, .bl true, .bl false, .bl false], .lst [.bl true, .bl false, .bl false, .bl true, .bl false, .bl false], .lst [.bl true, .bl false, .bl false, .bl true, .bl false, .bl false], .lst [.bl true, .bl false, .bl false, .bl true, .bl false, .bl false], .lst [.bl true, .bl false, .bl false, .bl true, .bl false, .bl false], .lst [.bl true, .bl false, .bl false, .bl true, .bl false, .bl false], .lst [.bl true, .bl false, .bl false, .bl true, .bl false, .bl false], .lst [.bl true, .bl false, .bl false, .bl true, .bl false, .bl false], .lst [.bl true, .bl false, .bl false, .bl true, .bl false, .bl false], .lst [.bl true, .bl false, .bl false, .bl true, .bl false, .bl false], .lst [.bl true, .bl false, .bl false, .bl true, .bl false, .bl false], .lst [.bl true, .bl false, .bl false, .bl true, .bl false, .bl false], .lst [.bl true, .bl false, .bl false, .bl true, .bl false, .bl false], .lst [.bl true, .bl false, .bl false, .bl true, .bl false, .bl false], .lst [.bl false, .bl true, .bl false, .bl false, .bl true, .bl false], .lst [.bl false, .bl true, .bl false, .bl false, .bl true, .bl false], .lst [.bl false, .bl false, .bl true, .bl false, .bl false, .bl true], .lst [.bl false, .bl false, .bl true, .bl false, .bl false, .bl true], .lst [.bl false, .bl false, .bl true, .bl false, .bl false, .bl true], .lst [.bl false, .bl false, .bl true, .bl false, .bl false, .bl true], .lst [.bl false, .bl false, .bl true, .bl false, .bl false, .bl true], .lst [.bl false, .bl false, .bl true, .bl false, .bl false, .bl true], .lst [.bl false, .bl false, .bl true, .bl false, .bl false, .bl true], .lst [.bl false, .bl false, .bl true, .bl false, .bl false, .bl true], .lst [.bl false, .bl false, .bl true, .bl false, .bl false, .bl true]]), .un, .un]
def v9 (ns : List Int) : Slots := [.pu (.fz (ns.map .int)), .pu (.lst [.int 12, .int 12, .int 66, .int 40, .int 8, .int 4, .int 9, .int 2000]), .pu (.lst [.obj 0 [("given", .str "a")], .obj 1 [("given", .str "a")], .obj 2 [("given", .str "a")], .obj 3 [("given", .str "a")], .obj 4 [("given", .str "a")], .obj 5 [("given", .str "a")], .obj 6 [("given", .str "a")], .obj 7 [("given", .str "a")], .obj 8 [("given", .str "a")], .obj 9 [("given", .str "a")], .obj 10 [("given", .str "a")], .obj 11 [("given", .str "a")], .obj 12 [("given", .str "a")], .obj 13 [("given", .str "a")], .obj 14 [("given", .str "a")], .obj 15 [("given", .str "a")], .obj 16 [("given", .str "a")], .obj 17 [("given", .str "a")], .obj 18 [("given", .str "a")], .obj 19 [("given", .str "a")], .obj 20 [("given", .str "a")], .obj 21 [("given", .str "a")], .obj 22 [("given", .str "a")], .obj 23 [("given", .str "a")], .obj 24 [("given", .str "a")], .obj 25 [("index", .non)], .obj 26 [("index", .int 4)], .obj 27 [("given", .lst [])], .obj 28 [("index", .int 3)], .obj 29 [], .obj 30 [], .obj 31 [], .obj 32 [], .obj 33 [], .obj 34 [], .obj 35 [("limit", .int 8)], .obj 36 [], .obj 37 [("index", .int 6)]]), .pu (.lst [.lst [.bl true, .bl false, .bl false, .bl true, .bl false, .bl false], .lst [.bl true, .bl false, .bl false, .bl true, .bl false, .bl false], .lst [.bl true, .bl false, .bl false, .bl true, .bl false, .bl false], .lst [.bl true, .bl false, .bl false, .bl true, .bl false, .bl false], .lst [.bl true, .bl false, .bl false, .bl true, .bl false, .bl false], .lst [.bl true, .bl false, .bl false, .bl true, .bl false, .bl false], .lst [.bl true, .bl false, .bl false, .bl true, .bl false, .bl false], .lst [.bl true, .bl false, .bl false, .bl true, .bl false, .bl false], .lst [.bl true, .bl false, .bl false, .bl true, .bl false, .bl false], .lst [.bl true, .bl false, .bl false, .bl true, .bl false, .bl false], .lst [.bl true, .bl false, .bl false, .bl true, .bl false, .bl false], .lst [.bl true, .bl false, .bl false, .bl true, .bl false, .bl false], .lst [.bl true, .bl false, .bl false, .bl true, .bl false, .bl false], .lst [.bl true, .bl false, .bl false, .bl true, .bl false, .bl false], .lst [.bl true, .bl false, .bl false, .bl true, .bl false, .bl false], .lst [.bl true, .bl false, .bl false, .bl true, .bl false, .bl false], .lst [.bl true, .bl false, .bl false, .bl true, .bl false, .bl false], .lst [.bl true, .bl false, .bl false, .bl true, .bl false, .bl false], .lst [.bl true, .bl false, .bl false, .bl true, .bl false, .bl false], .lst [.bl true, .bl false, .bl false, .bl true, .bl false, .bl false], .lst [.bl true, .bl false, .bl false, .bl true, .bl false, .bl false], .lst [.bl true, .bl false, .bl false, .bl true, .bl false, .bl false], .lst [.bl true, .bl false, .bl false, .bl true, .bl false, .bl false], .lst [.bl true, .bl false, .bl false, .bl true, .bl false, .bl false], .lst [.bl true, .bl false, .bl false, .bl true, .bl false, .bl false], .lst [.bl true, .bl false, .bl false, .bl true, .bl false, .bl false], .lst [.bl true, .bl false, .bl false, .bl true, .bl false, .bl false], .lst [.bl false, .bl true, .bl false, .bl false, .bl true, .bl false], .lst [.bl false, .bl true, .bl false, .bl false, .bl true, .bl false], .lst [.bl false, .bl false, .bl true, .bl false, .bl false, .bl true], .lst [.bl false, .bl false, .bl true, .bl false, .bl false, .bl true], .lst [.bl false, .bl false, .bl true, .bl false, .bl false, .bl true], .lst [.bl false, .bl false, .bl true, .bl false, .bl false, .bl true], .lst [.bl false, .bl false, .bl true, .bl false, .bl false, .bl true], .lst [.bl false, .bl false, .bl true, .bl false, .bl false, .bl true], .lst [.bl false, .bl false, .bl true, .bl false, .bl false, .bl true], .lst [.bl false, .bl false, .bl true, .bl false, .bl false, .bl true], .lst [.bl false, .bl false, .bl true, .bl false, .bl false, .bl true]]), .un, .un]
def v10 (ns : List Int) : Slots := [.pu (.fz (ns.map .int)), .pu (.lst [.int 12, .int 12, .int 66, .int 40, .int 8, .int 4, .int 9, .int 2000]), .pu (.lst [.obj 0 [("given", .str "a")], .obj 1 [("given", .str "a")], .obj 2 [("given", .str "a")], .obj 3 [("given", .str "a")], .obj 4 [("given", .str "a")], .obj 5 [("given", .str "a")], .obj 6 [("given", .str "a")], .obj 7 [("given", .str "a")], .obj 8 [("given", .str "a")], .obj 9 [("given", .str "a")], .obj 10 [("given", .str "a")], .obj 11 [("given", .str "a")], .obj 12 [("given", .str "a")], .obj 13 [("given", .str "a")], .obj 14 [("given", .str "a")], .obj 15 [("given", .str "a")], .obj 16 [("given", .str "a")], .obj 17 [("given", .str "a")], .obj 18 [("given", .str "a")], .obj 19 [("given", .str "a")], .obj 20 [("given", .str "a")], .obj 21 [("given", .str "a")], .obj 22 [("given", .str "a")], .obj 23 [("given", .str "a")], .obj 24 [("given", .str "a")], .obj 25 [("index", .non)], .obj 26 [("index", .int 4)], .obj 27 [("given", .lst [])], .obj 28 [("index", .int 3)], .obj 29 [], .obj 30 [], .obj 31 [], .obj 32 [], .obj 33 [], .obj 34 [], .obj 35 [("limit", .int 8)], .obj 36 [], .obj 37 [("index", .int 6)]]), .pu (.lst [.lst [.bl true, .bl false, .bl false, .bl true, .bl false, .bl false], .lst [.bl true, .bl false, .bl false, .bl true, .bl false, .bl false], .lst [.bl true, .bl false, .bl false, .bl true, .bl false, .bl false], .lst [.bl true, .bl false, .bl false, .bl true, .bl false, .bl false], .lst [.bl true, .bl false, .bl false, .bl true, .bl false, .bl false], .lst [.bl true, .bl false, .bl false, .bl true, .bl false, .bl false], .lst [.bl true, .bl false, .bl false, .bl true, .bl false, .bl false], .lst [.bl true, .bl false, .bl false, .bl true, .bl false, .bl false], .lst [.bl true, .bl false, .bl false, .bl true, .bl false, .bl false], .lst [.bl true, .bl false, .bl false, .bl true, .bl false, .bl false], .lst [.bl true, .bl false, .bl false, .bl true, .bl false, .bl false], .lst [.bl true, .bl false, .bl false, .bl true, .bl false, .bl false], .lst [.bl true, .bl false, .bl false, .bl true, .bl false, .bl false], .lst [.bl true, .bl false, .bl false, .bl true, .bl false, .bl false], .lst [.bl true, .bl false, .bl false, .bl true, .bl false, .bl false], .lst [.bl true, .bl false, .bl false, .bl true, .bl false, .bl false], .lst [.bl true, .bl false, .bl false, .bl true, .bl false, .bl false], .lst [.bl true, .bl false, .bl false, .bl true, .bl false, .bl false], .lst [.bl true, .bl false, .bl false, .bl true, .bl false, .bl false], .lst [.bl true, .bl false, .bl false, .bl true, .bl false, .bl false], .lst [.bl true, .bl false, .bl false, .bl true, .bl false, .bl false], .lst [.bl true, .bl false, .bl false, .bl true, .bl false, .bl false], .lst [.bl true, .bl false, .bl false, .bl true, .bl false, .bl false], .lst [.bl true, .bl false, .bl false, .bl true, .bl false, .bl false], .lst [.bl true, .bl false, .bl false, .bl true, .bl false, .bl false], .lst [.bl true, .bl false, .bl false, .bl true, .bl false, .bl false], .lst [.bl true, .bl false, .bl false, .bl true, .bl false, .bl false], .lst [.bl false, .bl true, .bl false, .bl false, .bl true, .bl false], .lst [.bl false, .bl true, .bl false, .bl false, .bl true, .bl false], .lst [.bl false, .bl false, .bl true, .bl false, .bl false, .bl true], .lst [.bl false, .bl false, .bl true, .bl false, .bl false, .bl true], .lst [.bl false, .bl false, .bl true, .bl false, .bl false, .bl true], .lst [.bl false, .bl false, .bl true, .bl false, .bl false, .bl true], .lst [.bl false, .bl false, .bl true, .bl false, .bl false, .bl true], .lst [.bl false, .bl false, .bl true, .bl false, .bl false, .bl true], .lst [.bl false, .bl false, .bl true, .bl false, .bl false, .bl true], .lst [.bl false, .bl false, .bl true, .bl false, .bl false, .bl true], .lst [.bl false, .bl false, .bl true, .bl false, .bl false, .bl true]]), .un, .un]
def v11 (ns : List Int) : Slots := [.pu (.fz (ns.map .int)), .pu (.lst [.int 12, .int 12, .int 66, .int 40, .int 8, .int 4, .int 9, .int 2000]), .pu (.lst [.obj 0 [("given", .str "a")], .obj 1 [("given", .str "a")], .obj 2 [("given", .str "a")], .obj 3 [("given", .str "a")], .obj 4 [("given", .str "a")], .obj 5 [("given", .str "a")], .obj 6 [("given", .str "a")], .obj 7 [("given", .str "a")], .obj 8 [("given", .str "a")], .obj 9 [("given", .str "a")], .obj 10 [("given", .str "a")], .obj 11 [("given", .str "a")], .obj 12 [("given", .str "a")], .obj 13 [("given", .str "a")], .obj 14 [("given", .str "a")], .obj 15 [("given", .str "a")], .obj 16 [("given", .str "a")], .obj 17 [("given", .str "a")], .obj 18 [("given", .str "a")], .obj 19 [("given", .str "a")], .obj 20 [("given", .str "a")], .obj 21 [("given", .str "a")], .obj 22 [("given", .str "a")], .obj 23 [("given", .str "a")], .obj 24 [("given", .str "a")], .obj 25 [("index", .non)], .obj 26 [("index", .int 4)], .obj 27 [("given", .lst [])], .obj 28 [("index", .int 3)], .obj 29 [], .obj 30 [], .obj 31 [], .obj 32 [], .obj 33 [], .obj 34 [], .obj 35 [("limit", .int 8)], .obj 36 [], .obj 37 [("index", .int 6)]]), .pu (.lst [.lst [.bl true, .bl false, .bl false, .bl true, .bl false, .bl false], .lst [.bl true, .bl false, .bl false, .bl true, .bl false, .bl false], .lst [.bl true, .bl false, .bl false, .bl true, .bl false, .bl false], .lst [.bl true, .bl false, .bl false, .bl true, .bl false, .bl false], .lst [.bl true, .bl false, .bl false, .bl true, .bl false, .bl false], .lst [.bl true, .bl false, .bl false, .bl true, .bl false, .bl false], .lst [.bl true, .bl false, .bl false, .bl true, .bl false, .bl false], .lst [.bl true, .bl false, .bl false, .bl true, .bl false, .bl false], .lst [.bl true, .bl false, .bl false, .bl true, .bl false, .bl false], .lst [.bl true, .bl false, .bl false, .bl true, .bl false, .bl false], .lst [.bl true, .bl false, .bl false, .bl true, .bl false, .bl false], .lst [.bl true, .bl false, .bl false, .bl true, .bl false, .bl false], .lst [.bl true, .bl false, .bl false, .bl true, .bl false, .bl false], .lst [.bl true, .bl false, .bl false, .bl true, .bl false, .bl false], .lst [.bl true, .bl false, .bl false, .bl true, .bl false, .bl false], .lst [.bl true, .bl false, .bl false, .bl true, .bl false, .bl false], .lst [.bl true, .bl false, .bl false, .bl true, .bl false, .bl false], .lst [.bl true, .bl false, .bl false, .bl true, .bl false, .bl false], .lst [.bl true, .bl false, .bl false, .bl true, .bl false, .bl false], .lst [.bl true, .bl false, .bl false, .bl true, .bl false, .bl false], .lst [.bl true, .bl false, .bl false, .bl true, .bl false, .bl false], .lst [.bl true, .bl false, .bl false, .bl true, .bl false, .bl false], .lst [.bl true, .bl false, .bl false, .bl true, .bl false, .bl false], .lst [.bl true, .bl false, .bl false, .bl true, .bl false, .bl false], .lst [.bl true, .bl false, .bl false, .bl true, .bl false, .bl false], .lst [.bl true, .bl false, .bl false, .bl true, .bl false, .bl false], .lst [.bl true, .bl false, .bl false, .bl true, .bl false, .bl false], .lst [.bl false, .bl true, .bl false, .bl false, .bl true, .bl false], .lst [.bl false, .bl true, .bl false, .bl false, .bl true, .bl false], .lst [.bl false, .bl false, .bl true, .bl false, .bl false, .bl true], .lst [.bl false, .bl false, .bl true, .bl false, .bl false, .bl true], .lst [.bl false, .bl false, .bl true, .bl false, .bl false, .bl true], .lst [.bl false, .bl false, .bl true, .bl false, .bl false, .bl true], .lst [.bl false, .bl false, .bl true, .bl false, .bl false, .bl true], .lst [.bl false, .bl false, .bl true, .bl false, .bl false, .bl true], .lst [.bl false, .bl false, .bl true, .bl false, .bl false, .bl true], .lst [.bl false, .bl false, .bl true, .bl false, .bl false, .bl true], .lst [.bl false, .bl false, .bl true, .bl false, .bl false, .bl true]]), .un, .un]
end K01

end
section
open PySem PySem.Spec L2 DL PySem.DLX PyProof.Rows
namespace K01
theorem r0 (ns : List Int) : law_s0 (v0 ns) = .nx (v1 ns) := by kernel_rfl
theorem r1 (ns : List Int) : law_s1 (v1 ns) = .nx (v2 ns) := by kernel_rfl
theorem r2 (ns : List Int) : law_s2 (v2 ns) = .nx (v3 ns) := by kernel_rfl
theorem r3 (ns : List Int) : law_s3 (v3 ns) = .nx (v4 ns) := by kernel_rfl
theorem r4 (ns : List Int) : law_s4 (v4 ns) = .nx (v5 ns) := by kernel_rfl
theorem r5 (ns : List Int) : law_s5 (v5 ns) = .nx (v6 ns) := by kernel_rfl
theorem r6 (ns : List Int) : law_s6 (v6 ns) = .nx (v7 ns) := by kernel_rfl
theorem r8 (ns : List Int) : law_s8 (v8 ns) = .nx (v9 ns) := by kernel_rfl
theorem r9 (ns : List Int) : law_s9 (v9 ns) = .nx (v10 ns) := by kernel_rfl
theorem r10 (ns : List Int) : law_s10 (v10 ns) = .nx (v11 ns) := by kernel_rfl
theorem r11 (ns : List Int) : law_s11 (v11 ns) = .rt (.bl true) (v11 ns) := by kernel_rfl
theorem r7 (ns : List Int) : law_s7 (v7 ns) = .nx (v8 ns) := by kernel_rfl
end K01
end
section
open PySem PySem.Spec L2 DL PySem.DLX PyProof.Rows
namespace K01
theorem runP_rt {n : Nat} {f : SF} {ds : List D} {d : D} {e e1 : Slots} (h0 : entP n ds = e) (h : f e = .rt d e1) : runP n f ds = .ok d := by
  unfold runP
  rw [h0, h]
theorem e0 (ns : List Int) : entP nLaw.length [D.fz (ns.map .int)] = v0 ns := by kernel_rfl
theorem run (ns : List Int) : fLaw (v0 ns) = .rt (.bl true) (v11 ns) := by
  unfold fLaw
  exact (seq_eq (a := law_s0) (e := v0 ns) (e1 := v1 ns) (r0 ns) (seq_eq (a := law_s1) (e := v1 ns) (e1 := v2 ns) (r1 ns) (seq_eq (a := law_s2) (e := v2 ns) (e1 := v3 ns) (r2 ns) (seq_eq (a := law_s3) (e := v3 ns) (e1 := v4 ns) (r3 ns) (seq_eq (a := law_s4) (e := v4 ns) (e1 := v5 ns) (r4 ns) (seq_eq (a := law_s5) (e := v5 ns) (e1 := v6 ns) (r5 ns) (seq_eq (a := law_s6) (e := v6 ns) (e1 := v7 ns) (r6 ns) (seq_eq (a := law_s7) (e := v7 ns) (e1 := v8 ns) (r7 ns) (seq_eq (a := law_s8) (e := v8 ns) (e1 := v9 ns) (r8 ns) (seq_eq (a := law_s9) (e := v9 ns) (e1 := v10 ns) (r9 ns) (seq_eq (a := law_s10) (e := v10 ns) (e1 := v11 ns) (r10 ns) (r11 ns))))))))))))
theorem ev (ns : List Int) : mLaw [.fz (ns.map .int)] = .ok (.bl true) := by
  unfold mLaw
  exact runP_rt (e0 ns) (run ns)
end K01
end
section
open PySem PySem.Spec L2 DL PySem.DLX PyProof.Rows
namespace K01
theorem fun_Wrong (p : Params) : ∃ fd, L2.Fun (KK p) "_law_wrong_values" "_law_wrong_values" sWrong 754 fd ∧ Binds (KK p) fd [] [] := by
  have F : L2.Fun (KK p) "_law_wrong_values" "_law_wrong_values" sWrong 754 _ := ⟨⟨_, _, _, _, _, _, _, _, _, rfl, by with_unfolding_all rfl, by with_unfolding_all rfl⟩, by with_unfolding_all rfl⟩
  exact ⟨_, F, F.binds (ps := []) fun _ _ _ _ _ _ us hl => match us, hl with | [], _ => rfl⟩
theorem fun_Kinds (p : Params) : ∃ fd, L2.Fun (KK p) "_law_kinds" "_law_kinds" sKinds 761 fd ∧ Binds (KK p) fd ["_law_e"] [] := by
  have F : L2.Fun (KK p) "_law_kinds" "_law_kinds" sKinds 761 _ := ⟨⟨_, _, _, _, _, _, _, _, _, rfl, by with_unfolding_all rfl, by with_unfolding_all rfl⟩, by with_unfolding_all rfl⟩
  exact ⟨_, F, F.binds (ps := ["_law_e"]) fun _ _ _ _ _ _ us hl => match us, hl with | [_], _ => rfl⟩
theorem fun_Own (p : Params) : ∃ fd, L2.Fun (KK p) "_law_own" "_law_own" sOwn 766 fd ∧ Binds (KK p) fd ["_law_e"] [] := by
  have F : L2.Fun (KK p) "_law_own" "_law_own" sOwn 766 _ := ⟨⟨_, _, _, _, _, _, _, _, _, rfl, by with_unfolding_all rfl, by with_unfolding_all rfl⟩, by with_unfolding_all rfl⟩
  exact ⟨_, F, F.binds (ps := ["_law_e"]) fun _ _ _ _ _ _ us hl => match us, hl with | [_], _ => rfl⟩
theorem fun_Law (p : Params) : ∃ fd, L2.Fun (KK p) "law" "law" sLaw 771 fd ∧ ∀ (s : Shared) (u : Value), BindsTo s fd ⟨[u], []⟩ [("_law_script", u)] := by
  have F : L2.Fun (KK p) "law" "law" sLaw 771 _ := ⟨⟨_, _, _, _, _, _, _, _, _, rfl, by with_unfolding_all rfl, by with_unfolding_all rfl⟩, by with_unfolding_all rfl⟩
  exact ⟨_, F, fun s u => .of_eq rfl⟩
noncomputable def chkC (p : Params) : Bool := tabC.all fun q => decide (PySem.W.nsIn (KK p) mainGlobals q.1 = some (some (.ref q.2)))
noncomputable def chkZ (p : Params) : Bool := tabZ.all fun x => decide (PySem.W.nsIn (KK p) mainGlobals x = some none)
theorem chkC_ok (p : Params) : chkC p = true := by kernel_rfl
theorem chkZ_ok (p : Params) : chkZ p = true := by kernel_rfl
theorem num_ok (p : Params) : ∀ q ∈ tabN, ∃ t, PySem.W.nsIn (KK p) mainGlobals q.1 = some (some (.int q.2 t)) := by
  unfold tabN
  intro q hq
  simp only [List.mem_cons, List.not_mem_nil, or_false] at hq
  rcases hq with rfl | rfl | rfl | rfl | rfl | rfl | rfl | rfl <;> exact ⟨_, by with_unfolding_all rfl⟩
theorem fx_of {p : Params} {mg : Str → Option Value} {h : Heap} (X : (KK p).In h) (G : h.Ns mainGlobals mg) : Fx mg where
  cls := fun q hq => PySem.W.mg_of X G (of_decide_eq_true (List.all_eq_true.mp (chkC_ok p) q hq))
  num := fun q hq => by
    obtain ⟨t, e⟩ := num_ok p q hq
    exact ⟨t, PySem.W.mg_of X G e⟩
  non := fun x hx => PySem.W.mg_none_of X G (of_decide_eq_true (List.all_eq_true.mp (chkZ_ok p) x hx))
theorem law_d {l : PySem.W.OpenLaw} {w : World} {mg : Str → Option Value} {fa : Addr} {h : Heap} (ev : ∀ ns : List Int, mLaw [.fz (ns.map .int)] = .ok (.bl true)) (X : (KK w.params).In h) (G : h.Ns mainGlobals mg) (hfa : mg "law" = some (.ref fa)) : LawD l w (KK w.params) 4 63 "_law_script" mg fa h := by
  have F := fx_of X G
  have e := hfa.symm.trans (F.c "law" 771)
  cases e
  obtain ⟨fW, F1, b1⟩ := fun_Wrong w.params
  obtain ⟨fK, F2, b2⟩ := fun_Kinds w.params
  obtain ⟨fO, F3, b3⟩ := fun_Own w.params
  obtain ⟨fL, F4, b4⟩ := fun_Law w.params
  refine ⟨fL, [], cl, mLaw, fun _ z => (by cases z), fun _ z => (by cases z), fun _ z => (by cases z), b4, fun ns _ _ => ev ns, fun base Kb Gb _ => ?_⟩
  have D : LD l.prog w mg base fW fK fO :=
    ⟨fnd_pure (m := mWrong) F1 scWrong rfl (by decide) (fun _ _ => .inr rfl) fun cdv A outer s H E hG hr => dWrong.2 l.prog w mg base F 754 cdv A outer s H E hG hr, F1.kp, b1,
     fnd_pure (m := mKinds) F2 scKinds rfl (by decide) (fun _ _ => .inr rfl) fun cdv A outer s H E hG hr => dKinds.2 l.prog w mg base F 761 cdv A outer s H E hG hr, F2.kp, b2,
     fnd_pure (m := mOwn) F3 scOwn rfl (by decide) (fun _ _ => .inr rfl) fun cdv A outer s H E hG hr => dOwn.2 l.prog w mg base F 766 cdv A outer s H E hG hr, F3.kp, b3⟩
  exact fnd_pure (m := mLaw) F4 scLaw rfl (by decide) (fun _ _ => .inr rfl) fun cdv A outer s H E hG hr => okLaw l.prog w mg base F fW fK fO D 771 cdv A outer s H E hG hr
end K01

end
section
open PySem PySem.W PyProof.Rows
theorem PySem.Challenge.cw_wordshapes_k01_constants_and_errors_holds : PySem.Challenge.rw_wordshapes_k01_constants_and_errors.Holds := by
  refine hd1 ?_
  k_fill
  refine DL.walk_d (l := PySem.Challenge.rw_wordshapes_k01_constants_and_errors) (n := 63) (k := 4) (x := "_law_script") rfl (by decide) rfl ⟨rfl, by decide, by decide⟩ (fun w h Y => PySem.W.kIn_of Y) ?F
  intro w mg fa h Y KX G hmg
  exact K01.law_d K01.ev KX G hmg
end
