import PyProof.Rows.All
import Wide.All
import OpenK.AllK
import Wide.FinOn
import HandS.ForMost
import HandS.RevRange
import HandS.Zip
import HandS.Rev
import HandS.Flow
import HandS.Gcd
import HandS.IsInst
import HandS.StrMore
import HandS.RaiseMore
import HandS.TupAny
import HandS.SortInts
import HandS.ExcOwn
import PyProof.ToksMono
import HandS.Conv
import KE.GoesZip
import KE.GoesEnum
import KE.GoesMore
import HandS.ReplaceList
import HandS.WideBits
import HandS.SortKw
import HandS.Style
import KE.DataMinMax
import PyProof.Rows.RowBridgeK
import PyProof.Rows.StrRev
import HandS.Text
import HandS.SetFor
import HandS.Codes
import PyProof.MaxThree
import HandS.Iter
import HandS.Dict
import KE.KRevSl
import HandS.NoneIn
import KE.KDictZip
import PyProof.ListNew
import HandS.FStr
import KE.KTupSum
import KE.GoesEnumKw
import HandS.ReplaceLit
import PySem.Challenge.RW_edgelink_k11_traces
set_option Elab.async false
set_option linter.all false
set_option maxRecDepth 100000
namespace DL
open PySem PySem.Spec PyProof.Rows L2

/-! ## 1. data in the heap -/
abbrev D := PyData

mutual
theorem Dp.same {K : PySem.W.Frag} {G G' : Hp} (s : Same G G') : ∀ {d : D} {v : V}, Dp K G v d → Dp K G' v d
  | .none, _, h => by cases h; exact .non
  | .bool b, _, h => by cases h; exact .bl b
  | .int i, _, h => by cases h; exact .int i
  | .str z, _, h => by cases h; exact .str z
  | .list ds, _, h => by
    cases h with
    | lst hs ha => exact .lst (s.seq hs) (DpAll.same s ha)
  | .tuple ds, _, h => by
    cases h with
    | tup hs ha =>
      refine .tup ?_ (DpAll.same s ha)
      rcases hs with (h | ⟨o, h⟩) | h
      · exact .inl (.inl (s _ _ h))
      · exact .inl (.inr ⟨o, s _ _ h⟩)
      · exact .inr h
  | .dict _, _, h => nomatch h
theorem DpAll.same {K : PySem.W.Frag} {G G' : Hp} (s : Same G G') : ∀ {ds : List D} {vs : List V}, DpAll K G vs ds → DpAll K G' vs ds
  | [], _, h => by cases h; exact .nil
  | d :: ds, _, h => by
    cases h with
    | cons a b => exact .cons (Dp.same s a) (DpAll.same s b)
end

theorem Same.tupq {K : PySem.W.Frag} {H H' : Hp} {a : Addr} {xs : List V} (e : Same H H') (h : SqT K H a xs) : SqT K H' a xs := by
  rcases h with (h | ⟨o, h⟩) | h
  · exact .inl (.inl (e _ _ h))
  · exact .inl (.inr ⟨o, e _ _ h⟩)
  · exact .inr h

theorem DpAll.length {K : PySem.W.Frag} {G : Hp} : ∀ {vs : List V} {ds : List D}, DpAll K G vs ds → vs.length = ds.length
  | _, _, .nil => rfl
  | _, _, .cons _ t => by simp only [List.length_cons, DpAll.length t]

theorem DpAll.get {K : PySem.W.Frag} {G : Hp} : ∀ {vs : List V} {ds : List D} {i : Nat} {d : D}, DpAll K G vs ds → ds[i]? = some d → ∃ v, vs[i]? = some v ∧ Dp K G v d
  | _, _, _, _, .nil, e => by simp at e
  | _, _, 0, _, .cons a _, e => by simp at e; subst e; exact ⟨_, rfl, a⟩
  | _, _, i + 1, _, .cons _ t, e => by
    obtain ⟨v, h1, h2⟩ := DpAll.get (i := i) t (by simpa using e)
    exact ⟨v, by simpa using h1, h2⟩
theorem DpAll.get' {K : PySem.W.Frag} {G : Hp} : ∀ {vs : List V} {ds : List D} {i : Nat} {v : V}, DpAll K G vs ds → vs[i]? = some v → ∃ d, ds[i]? = some d ∧ Dp K G v d
  | _, _, _, _, .nil, e => by simp at e
  | _, _, 0, _, .cons a _, e => by simp at e; subst e; exact ⟨_, rfl, a⟩
  | _, _, i + 1, _, .cons _ t, e => by
    obtain ⟨v, h1, h2⟩ := DpAll.get' (i := i) t (by simpa using e)
    exact ⟨v, by simpa using h1, h2⟩
theorem DpAll.append {K : PySem.W.Frag} {G : Hp} : ∀ {vs ws : List V} {ds es : List D}, DpAll K G vs ds → DpAll K G ws es → DpAll K G (vs ++ ws) (ds ++ es)
  | _, _, _, _, .nil, s => s
  | _, _, _, _, .cons r t, s => .cons r (DpAll.append t s)
theorem DpAll.take {K : PySem.W.Frag} {G : Hp} : ∀ {vs : List V} {ds : List D} (n : Nat), DpAll K G vs ds → DpAll K G (vs.take n) (ds.take n)
  | _, _, 0, _ => .nil
  | _, _, _ + 1, .nil => .nil
  | _, _, n + 1, .cons r t => .cons r (DpAll.take n t)
theorem DpAll.drop {K : PySem.W.Frag} {G : Hp} : ∀ {vs : List V} {ds : List D} (n : Nat), DpAll K G vs ds → DpAll K G (vs.drop n) (ds.drop n)
  | _, _, 0, r => r
  | _, _, _ + 1, .nil => .nil
  | _, _, n + 1, .cons _ t => DpAll.drop n t
theorem DpAll.set {K : PySem.W.Frag} {G : Hp} {v : V} {d : D} (h : Dp K G v d) : ∀ {vs : List V} {ds : List D} (n : Nat), DpAll K G vs ds → DpAll K G (vs.set n v) (ds.set n d)
  | _, _, _, .nil => .nil
  | _, _, 0, .cons r t => .cons h t
  | _, _, n + 1, .cons r t => .cons r (DpAll.set h n t)
theorem DpAll.ints {K : PySem.W.Frag} {G : Hp} : ∀ {vs : List V} {ns : List Int}, DpAll K G vs (ns.map PyData.int) → vs = ns.map V.int
  | _, [], h => by cases h; rfl
  | _, n :: ns, h => by
    cases h with
    | cons a b => cases a; rw [DpAll.ints b]; rfl
theorem DpAll.strs {K : PySem.W.Frag} {G : Hp} : ∀ {vs : List V} {ns : List Str}, DpAll K G vs (ns.map PyData.str) → vs = ns.map V.str
  | _, [], h => by cases h; rfl
  | _, n :: ns, h => by
    cases h with
    | cons a b => cases a; rw [DpAll.strs b]; rfl
theorem DpAll.bools {K : PySem.W.Frag} {G : Hp} : ∀ {vs : List V} {ns : List Bool}, DpAll K G vs (ns.map PyData.bool) → vs = ns.map V.bl
  | _, [], h => by cases h; rfl
  | _, n :: ns, h => by
    cases h with
    | cons a b => cases a; rw [DpAll.bools b]; rfl
theorem DpAll.ofInts {K : PySem.W.Frag} {G : Hp} : ∀ (ns : List Int), DpAll K G (ns.map V.int) (ns.map PyData.int)
  | [] => .nil
  | n :: ns => .cons (.int n) (DpAll.ofInts ns)
theorem DpAll.ofStrs {K : PySem.W.Frag} {G : Hp} : ∀ (ns : List Str), DpAll K G (ns.map V.str) (ns.map PyData.str)
  | [] => .nil
  | n :: ns => .cons (.str n) (DpAll.ofStrs ns)

/-! ## 2. the frame: G the data, H the whole; what is private of others stays private -/
structure Frm (G H G' H' : Hp) : Prop where
  g : Same G G'
  h : Same H H'
  s : Same G' H'
  n : ∀ a o, H a = some o → G' a = G a
theorem Frm.refl {G H : Hp} (s : Same G H) : Frm G H G H := ⟨Same.refl _, Same.refl _, s, fun _ _ _ => rfl⟩
theorem Frm.trans {G H G1 H1 G2 H2 : Hp} (a : Frm G H G1 H1) (b : Frm G1 H1 G2 H2) : Frm G H G2 H2 :=
  ⟨a.g.trans b.g, a.h.trans b.h, b.s, fun x o e => (b.n x o (a.h _ _ e)).trans (a.n x o e)⟩
theorem same_upd {H : Hp} {p : Addr} {o : HO} (h : H p = none) : Same H (upd H p o) := fun b x e => by
  rw [upd_ne (ne_of_none e h)]
  exact e
/-- a new object, data -/
theorem Frm.new {G H : Hp} (s : Same G H) {p : Addr} {o : HO} (h : H p = none) : Frm G H (upd G p o) (upd H p o) := by
  have gp : G p = none := s.free h
  refine ⟨same_upd gp, same_upd h, fun b x e => ?_, fun a x e => ?_⟩
  · by_cases q : b = p
    · subst q; rw [upd_same] at e ⊢; exact e
    · rw [upd_ne q] at e ⊢; exact s _ _ e
  · rw [upd_ne (ne_of_none e h)]
/-- a new object, private -/
theorem Frm.priv {G H : Hp} (s : Same G H) {p : Addr} {o : HO} (h : H p = none) : Frm G H G (upd H p o) :=
  ⟨Same.refl _, same_upd h, s.trans (same_upd h), fun _ _ _ => rfl⟩

inductive SV where
  | un
  | dat (d : D)
  | own (ds : List D)
  | raw (φ : Hp → V → Prop)
abbrev Envi := List SV

structure EnvR (K : PySem.W.Frag) (G H : Hp) (σ : L2.St) (ρ : Envi) : Prop where
  s : Same G H
  len : σ.length = ρ.length
  dat : ∀ (i : Nat) (d : D), ρ[i]? = some (.dat d) → ∃ v, σ[i]? = some (some v) ∧ Dp K G v d
  own : ∀ (i : Nat) (ds : List D), ρ[i]? = some (.own ds) → ∃ a vs, σ[i]? = some (some (.ref a)) ∧ H a = some (.lst vs) ∧ G a = none ∧ DpAll K G vs ds
  inj : ∀ (i j : Nat) (ds es : List D) (a : Addr), ρ[i]? = some (.own ds) → ρ[j]? = some (.own es) → σ[i]? = some (some (.ref a)) → σ[j]? = some (some (.ref a)) → i = j
  raw : ∀ (i : Nat) (φ : Hp → V → Prop), ρ[i]? = some (.raw φ) → (∀ G G' v, Same G G' → φ G v → φ G' v) ∧ ∃ v, σ[i]? = some (some v) ∧ φ G v
theorem EnvR.frm {K : PySem.W.Frag} {G H G' H' : Hp} {σ : L2.St} {ρ : Envi} (e : EnvR K G H σ ρ) (f : Frm G H G' H') : EnvR K G' H' σ ρ := by
  refine ⟨f.s, e.len, fun i d h => ?_, fun i ds h => ?_, e.inj, fun i φ h => ?_⟩
  · obtain ⟨v, h1, h2⟩ := e.dat i d h
    exact ⟨v, h1, Dp.same f.g h2⟩
  · obtain ⟨a, vs, h1, h2, h3, h4⟩ := e.own i ds h
    exact ⟨a, vs, h1, f.h _ _ h2, (f.n a _ h2).trans h3, DpAll.same f.g h4⟩
  · obtain ⟨m, v, h1, h2⟩ := e.raw i φ h
    exact ⟨m, v, h1, m _ _ v f.g h2⟩

/-! ## 3. the weakest readings -/
def wE (X : Cx) (e : Expr) : TE := fun σ H Q => ∃ t, PE X e t ∧ t σ H Q
theorem pe_w {X : Cx} {e : Expr} : PE X e (wE X e) := ⟨fun pins s σ H Q I ⟨_, h, q⟩ => h.run pins s σ H Q I q⟩
theorem wE_of {X : Cx} {e : Expr} {t : TE} {σ : L2.St} {H : Hp} {Q : VK} (h : PE X e t) (q : t σ H Q) : wE X e σ H Q := ⟨t, h, q⟩
def wT (X : Cx) (e : Expr) : TT := fun σ H Q => ∃ t, PT X e t ∧ t σ H Q
theorem pt_w {X : Cx} {e : Expr} : PT X e (wT X e) := ⟨fun pins s σ H Q I ⟨_, h, q⟩ => h.run pins s σ H Q I q⟩
theorem wT_of {X : Cx} {e : Expr} {t : TT} {σ : L2.St} {H : Hp} {Q : Bool → Hp → Prop} (h : PT X e t) (q : t σ H Q) : wT X e σ H Q := ⟨t, h, q⟩
def wW (X : Cx) (e : Expr) : TT := fun σ H Q => ∃ t, PW X e t ∧ t σ H Q
theorem pw_w {X : Cx} {e : Expr} : PW X e (wW X e) := ⟨fun wh pins s σ H Q I ⟨_, h, q⟩ => h.run wh pins s σ H Q I q⟩
theorem wW_of {X : Cx} {e : Expr} {t : TT} {σ : L2.St} {H : Hp} {Q : Bool → Hp → Prop} (h : PW X e t) (q : t σ H Q) : wW X e σ H Q := ⟨t, h, q⟩
def wA (X : Cx) (es : List Expr) : TA := fun σ H Q => ∃ t, PA X es t ∧ t σ H Q
theorem pa_w {X : Cx} {es : List Expr} : PA X es (wA X es) := ⟨fun pos pins s σ H Q I ⟨_, h, q⟩ => h.run pos pins s σ H Q I q⟩
theorem wA_of {X : Cx} {es : List Expr} {t : TA} {σ : L2.St} {H : Hp} {Q : List V → Hp → Prop} (h : PA X es t) (q : t σ H Q) : wA X es σ H Q := ⟨t, h, q⟩
def wS (X : Cx) (st : Stmt) : TS := fun D σ H => ∃ t, PS X st t ∧ t D σ H
theorem ps_w {X : Cx} {st : Stmt} : PS X st (wS X st) := ⟨fun pins s σ H D I ⟨_, h, q⟩ => h.run pins s σ H D I q⟩
theorem wS_of {X : Cx} {st : Stmt} {t : TS} {D : Ends} {σ : L2.St} {H : Hp} (h : PS X st t) (q : t D σ H) : wS X st D σ H := ⟨t, h, q⟩
def wB (X : Cx) (ss : List Stmt) : TS := fun D σ H => ∃ t, PSs X ss t ∧ t D σ H
theorem pss_w {X : Cx} {ss : List Stmt} : PSs X ss (wB X ss) := ⟨fun pins s σ H D I ⟨_, h, q⟩ => h.run pins s σ H D I q⟩
theorem wB_of {X : Cx} {ss : List Stmt} {t : TS} {D : Ends} {σ : L2.St} {H : Hp} (h : PSs X ss t) (q : t D σ H) : wB X ss D σ H := ⟨t, h, q⟩
def wG (X : Cx) (tg : Expr) : TG := fun v σ H Q => ∃ t, PG X tg t ∧ t v σ H Q
theorem pg_w {X : Cx} {tg : Expr} : PG X tg (wG X tg) := ⟨fun pins s σ H v u Q I r ⟨_, h, q⟩ => h.run pins s σ H v u Q I r q⟩
theorem wG_of {X : Cx} {tg : Expr} {t : TG} {v : V} {σ : L2.St} {H : Hp} {Q : L2.St → Hp → Prop} (h : PG X tg t) (q : t v σ H Q) : wG X tg v σ H Q := ⟨t, h, q⟩
def wGs (X : Cx) (tgs : List Expr) : TGs := fun vs σ H Q => ∃ t, PGs X tgs t ∧ t vs σ H Q
theorem pgs_w {X : Cx} {tgs : List Expr} : PGs X tgs (wGs X tgs) := ⟨fun pins s σ H vs us Q I r ⟨_, h, q⟩ => h.run pins s σ H vs us Q I r q⟩
theorem wGs_of {X : Cx} {tgs : List Expr} {t : TGs} {vs : List V} {σ : L2.St} {H : Hp} {Q : L2.St → Hp → Prop} (h : PGs X tgs t) (q : t vs σ H Q) : wGs X tgs vs σ H Q := ⟨t, h, q⟩
def wI (X : Cx) (tg it : Expr) : TI := fun σ H R => ∃ t, PI X tg it t ∧ t σ H R
theorem pi_w {X : Cx} {tg it : Expr} : PI X tg it (wI X tg it) := ⟨fun pins s σ H R I ⟨_, h, q⟩ => h.run pins s σ H R I q⟩
theorem wI_of {X : Cx} {tg it : Expr} {t : TI} {σ : L2.St} {H : Hp} {R : It → Hp → Prop} (h : PI X tg it t) (q : t σ H R) : wI X tg it σ H R := ⟨t, h, q⟩
def wP (X : Cx) (o : Option Expr) : TO := fun σ H Q => ∃ t, PO X o t ∧ t σ H Q

/-! ## 4. expressions whose value is a datum -/
/-- what is wanted of a value that is d -/
abbrev Gets (K : PySem.W.Frag) (G H : Hp) (d : D) (Q : VK) : Prop := ∀ v G' H', Frm G H G' H' → Dp K G' v d → Q v H'
def Ev (X : Cx) (ρ : Envi) (e : Expr) (d : D) : Prop := ∀ σ G H Q, EnvR X.K G H σ ρ → Gets X.K G H d Q → wE X e σ H Q
def Tst (X : Cx) (ρ : Envi) (e : Expr) (b : Bool) : Prop := ∀ σ G H Q, EnvR X.K G H σ ρ → (∀ G' H', Frm G H G' H' → Q b H') → wT X e σ H Q
def TstW (X : Cx) (ρ : Envi) (e : Expr) (b : Bool) : Prop := ∀ σ G H Q, EnvR X.K G H σ ρ → (∀ G' H', Frm G H G' H' → Q b H') → wW X e σ H Q
def Evs (X : Cx) (ρ : Envi) (es : List Expr) (ds : List D) : Prop := ∀ σ G H Q, EnvR X.K G H σ ρ → (∀ vs G' H', Frm G H G' H' → DpAll X.K G' vs ds → Q vs H') → wA X es σ H Q

section
variable {X : Cx} {ρ : Envi} {pos : Pos}

theorem Gets.here {K : PySem.W.Frag} {G H : Hp} {d : D} {Q : VK} (s : Same G H) (h : Gets K G H d Q) {v : V} (hv : Dp K G v d) : Q v H := h v G H (.refl s) hv
theorem Gets.frm {K : PySem.W.Frag} {G H G' H' : Hp} {d : D} {Q : VK} (h : Gets K G H d Q) (f : Frm G H G' H') : Gets K G' H' d Q := fun v G2 H2 f2 hv => h v G2 H2 (f.trans f2) hv

theorem ev_name {x : Str} {i : Nat} {d : D} (h : ρ[i]? = some (.dat d)) (hN : X.N[i]? = some x) (hv : Vis X.env.scope x) (hd : (x == ("__debug__" : Str)) = false := by decide) (hcd : (x == ("__classdict__" : Str)) = false := by decide) :
    Ev X ρ (.Name x pos) d := fun σ G H Q E k => by
  obtain ⟨v, h1, h2⟩ := E.dat i d h
  exact wE_of (pe_var hN hv hd hcd) ⟨v, h1, k.here E.s h2⟩
theorem ev_int {i : Int} {j} : Ev X ρ (.Constant (.int i) j pos) (.int i) := fun σ G H Q E k => wE_of pe_int (k.here E.s (.int i))
theorem ev_bool {b : Bool} {j} : Ev X ρ (.Constant (.bool b) j pos) (.bool b) := fun σ G H Q E k => wE_of pe_bl (k.here E.s (.bl b))
theorem ev_none {j} : Ev X ρ (.Constant .none j pos) .none := fun σ G H Q E k => wE_of pe_non (k.here E.s .non)
theorem ev_str {x : Str} {j} : Ev X ρ (.Constant (.str x) j pos) (.str x) := fun σ G H Q E k => wE_of pe_str (k.here E.s (.str x))
/-- a module's constant that is an int, a text .. -/
theorem ev_globI {x : Str} {i : Int} {t : Tok} (hg : Gl X x) (hm : X.mg x = some (.int i t)) (hd : (x == ("__debug__" : Str)) = false := by decide) : Ev X ρ (.Name x pos) (.int i) := fun σ G H Q E k =>
  wE_of (pe_glob (v := .int i) hg hm ⟨t, rfl⟩ hd) (k.here E.s (.int i))
theorem ev_globS {x : Str} {z : Str} {t : Tok} (hg : Gl X x) (hm : X.mg x = some (.str z t)) (hd : (x == ("__debug__" : Str)) = false := by decide) : Ev X ρ (.Name x pos) (.str z) := fun σ G H Q E k =>
  wE_of (pe_glob (v := .str z) hg hm ⟨t, rfl⟩ hd) (k.here E.s (.str z))

/-! ### operators -/
/-- by values: r takes data da, db to d -/
def OpD (K : PySem.W.Frag) (r : R2) (da db d : D) : Prop := ∀ x y G H Q, Same G H → Dp K G x da → Dp K G y db → Gets K G H d Q → r x y H Q
def BinD (X : Cx) (op : Operator) (da db d : D) : Prop := ∃ r, OpR X (binaryOp op) r ∧ OpD X.K r da db d
def IpD (X : Cx) (op : Operator) (da db d : D) : Prop := ∃ r, OpR X (inplaceOp op) r ∧ OpD X.K r da db d
def CmpD (X : Cx) (op : CmpOp) (da db : D) (b : Bool) : Prop := ∃ r, OpR X (compareOp op) r ∧ OpD X.K r da db (.bool b)
theorem ev_bin {a b : Expr} {op : Operator} {da db d : D} (ha : Ev X ρ a da) (hb : Ev X ρ b db) (h : BinD X op da db d) : Ev X ρ (.BinOp a op b pos) d := fun σ G H Q E k => by
  obtain ⟨r, hr, hk⟩ := h
  refine wE_of (pe_op hr pe_w pe_w) (ha σ G H _ E fun x G1 H1 f1 hx => hb σ G1 H1 _ (E.frm f1) fun y G2 H2 f2 hy => ?_)
  exact hk x y G2 H2 Q f2.s (Dp.same f2.g hx) hy (k.frm (f1.trans f2))
theorem ev_cmp {a b : Expr} {op : CmpOp} {da db : D} {c : Bool} (ha : Ev X ρ a da) (hb : Ev X ρ b db) (h : CmpD X op da db c) (hm : behindInMarks op b = false) : Ev X ρ (.Compare a [op] [b] pos) (.bool c) := fun σ G H Q E k => by
  obtain ⟨r, hr, hk⟩ := h
  refine wE_of (pe_cmpR hr pe_w pe_w hm) (ha σ G H _ E fun x G1 H1 f1 hx => hb σ G1 H1 _ (E.frm f1) fun y G2 H2 f2 hy => ?_)
  exact hk x y G2 H2 Q f2.s (Dp.same f2.g hx) hy (k.frm (f1.trans f2))
theorem tst_cmp {a b : Expr} {op : CmpOp} {da db : D} {c : Bool} (ha : Ev X ρ a da) (hb : Ev X ρ b db) (h : CmpD X op da db c) (hm : behindInMarks op b = false) : Tst X ρ (.Compare a [op] [b] pos) c := fun σ G H Q E k => by
  obtain ⟨r, hr, hk⟩ := h
  refine wT_of (pt_cmpR hr pe_w pe_w hm) (ha σ G H _ E fun x G1 H1 f1 hx => hb σ G1 H1 _ (E.frm f1) fun y G2 H2 f2 hy => ?_)
  refine hk x y G2 H2 _ f2.s (Dp.same f2.g hx) hy fun v G3 H3 f3 hv => ?_
  cases hv
  exact ⟨c, rfl, k G3 H3 (f1.trans (f2.trans f3))⟩
theorem ev_chain {a b c : Expr} {op op' : CmpOp} {da db dc : D} {p q : Bool} (ha : Ev X ρ a da) (hb : Ev X ρ b db) (hc : p = true → Ev X ρ c dc) (h : CmpD X op da db p) (h' : p = true → CmpD X op' db dc q) (hl : lastMarks [op, op'] [b, c] = false) :
    Ev X ρ (.Compare a [op, op'] [b, c] pos) (.bool (p && q)) := fun σ G H Q E k => by
  obtain ⟨r, hr, hk⟩ := h
  cases p with
  | false =>
    have h2 : OpR X (compareOp op') (fun _ _ _ _ => False) := fun _ _ _ _ _ _ _ _ _ _ _ _ z => z.elim
    refine wE_of (pe_chain hr h2 pe_w pe_w pe_w hl) (ha σ G H _ E fun x G1 H1 f1 hx => hb σ G1 H1 _ (E.frm f1) fun y G2 H2 f2 hy => ?_)
    refine hk x y G2 H2 _ f2.s (Dp.same f2.g hx) hy fun v G3 H3 f3 hv => ?_
    cases hv
    refine ⟨false, rfl, ?_⟩
    rw [if_neg (by decide)]
    exact k _ G3 H3 (f1.trans (f2.trans f3)) (.bl _)
  | true =>
    obtain ⟨r', hr', hk'⟩ := h' rfl
    refine wE_of (pe_chain hr hr' pe_w pe_w pe_w hl) (ha σ G H _ E fun x G1 H1 f1 hx => hb σ G1 H1 _ (E.frm f1) fun y G2 H2 f2 hy => ?_)
    refine hk x y G2 H2 _ f2.s (Dp.same f2.g hx) hy fun v G3 H3 f3 hv => ?_
    cases hv
    refine ⟨true, rfl, ?_⟩
    rw [if_pos rfl]
    refine hc rfl σ G3 H3 _ ((E.frm (f1.trans f2)).frm f3) fun z G4 H4 f4 hz => ?_
    exact hk' y z G4 H4 Q f4.s (Dp.same (f3.g.trans f4.g) hy) hz (k.frm ((f1.trans f2).trans (f3.trans f4)))

theorem tst_chain {a b c : Expr} {op op' : CmpOp} {da db dc : D} {p q : Bool} (ha : Ev X ρ a da) (hb : Ev X ρ b db) (hc : p = true → Ev X ρ c dc) (h : CmpD X op da db p) (h' : p = true → CmpD X op' db dc q) (hl : lastMarks [op, op'] [b, c] = false) :
    Tst X ρ (.Compare a [op, op'] [b, c] pos) (p && q) := fun σ G H Q E k => by
  obtain ⟨r, hr, hk⟩ := h
  cases p with
  | false =>
    have h2 : OpR X (compareOp op') (fun _ _ _ _ => False) := fun _ _ _ _ _ _ _ _ _ _ _ _ z => z.elim
    refine wT_of (pt_chain hr h2 pe_w pe_w pe_w hl) (ha σ G H _ E fun x G1 H1 f1 hx => hb σ G1 H1 _ (E.frm f1) fun y G2 H2 f2 hy => ?_)
    refine hk x y G2 H2 _ f2.s (Dp.same f2.g hx) hy fun v G3 H3 f3 hv => ?_
    cases hv
    refine ⟨false, rfl, ?_⟩
    rw [if_neg (by decide)]
    exact ⟨_, rfl, k G3 H3 (f1.trans (f2.trans f3))⟩
  | true =>
    obtain ⟨r', hr', hk'⟩ := h' rfl
    refine wT_of (pt_chain hr hr' pe_w pe_w pe_w hl) (ha σ G H _ E fun x G1 H1 f1 hx => hb σ G1 H1 _ (E.frm f1) fun y G2 H2 f2 hy => ?_)
    refine hk x y G2 H2 _ f2.s (Dp.same f2.g hx) hy fun v G3 H3 f3 hv => ?_
    cases hv
    refine ⟨true, rfl, ?_⟩
    rw [if_pos rfl]
    refine hc rfl σ G3 H3 _ ((E.frm (f1.trans f2)).frm f3) fun z G4 H4 f4 hz => ?_
    refine hk' y z G4 H4 _ f4.s (Dp.same (f3.g.trans f4.g) hy) hz fun v G5 H5 f5 hv => ?_
    cases hv
    exact ⟨_, rfl, k G5 H5 ((f1.trans f2).trans ((f3.trans f4).trans f5))⟩

section
variable {i j : Int}
theorem opI {f : Value → Value → Sem Value} {C : Int → Int → Prop} {g : Int → Int → V} {d : D} (hd : ∀ G, Dp X.K G (g i j) d) (hc : C i j) : OpD X.K (rI C g) (.int i) (.int j) d := fun x y G H Q s hx hy k => by
  cases hx
  cases hy
  exact ⟨i, j, rfl, rfl, hc, k.here s (hd G)⟩
theorem opI0' {g : Int → Int → V} {d : D} (hd : ∀ G, Dp X.K G (g i j) d) : OpD X.K (rI0 g) (.int i) (.int j) d := fun x y G H Q s hx hy k => by
  cases hx
  cases hy
  exact ⟨i, j, rfl, rfl, k.here s (hd G)⟩
theorem bin_add : BinD X .Add (.int i) (.int j) (.int (i + j)) := ⟨_, op_add, opI0' fun _ => .int _⟩
theorem bin_sub : BinD X .Sub (.int i) (.int j) (.int (i - j)) := ⟨_, op_sub, opI0' fun _ => .int _⟩
theorem bin_mul (h : CMul i j) : BinD X .Mult (.int i) (.int j) (.int (i * j)) := ⟨_, op_mul, opI (f := binaryOp .Mult) (fun _ => .int _) h⟩
theorem bin_fdiv (h : CDiv i j) : BinD X .FloorDiv (.int i) (.int j) (.int (i / j)) := ⟨_, op_fdiv, opI (f := binaryOp .Mult) (fun _ => .int _) h⟩
theorem bin_mod (h : 0 < j) : BinD X .Mod (.int i) (.int j) (.int (i % j)) := ⟨_, op_mod, opI (f := binaryOp .Mult) (fun _ => .int _) h⟩
theorem bin_pow (h : CPow i j) : BinD X .Pow (.int i) (.int j) (.int (i ^ j.toNat)) := ⟨_, op_pow, opI (f := binaryOp .Mult) (fun _ => .int _) h⟩
theorem bin_shl (h : CPow i j) : BinD X .LShift (.int i) (.int j) (.int (i * 2 ^ j.toNat)) := ⟨_, op_shl, opI (f := binaryOp .Mult) (fun _ => .int _) h⟩
theorem bin_shr (h : 0 ≤ j) : BinD X .RShift (.int i) (.int j) (.int (i / 2 ^ j.toNat)) := ⟨_, op_shr, opI (f := binaryOp .Mult) (fun _ => .int _) h⟩
theorem bin_and : BinD X .BitAnd (.int i) (.int j) (.int (Builtin.bitAnd i j)) := ⟨_, op_and, opI0' fun _ => .int _⟩
theorem bin_xor : BinD X .BitXor (.int i) (.int j) (.int (Builtin.bitXor i j)) := ⟨_, op_xor, opI0' fun _ => .int _⟩
theorem ip_addI : IpD X .Add (.int i) (.int j) (.int (i + j)) := ⟨_, iop_add, opI0' fun _ => .int _⟩
theorem ip_subI : IpD X .Sub (.int i) (.int j) (.int (i - j)) := ⟨_, iop_sub, opI0' fun _ => .int _⟩
theorem ip_fdivI (h : CDiv i j) : IpD X .FloorDiv (.int i) (.int j) (.int (i / j)) := ⟨_, iop_fdiv, opI (f := binaryOp .Mult) (fun _ => .int _) h⟩
theorem ip_mulI (h : CMul i j) : IpD X .Mult (.int i) (.int j) (.int (i * j)) := ⟨_, iop_mul, opI (f := binaryOp .Mult) (fun _ => .int _) h⟩
theorem cmp_lt : CmpD X .Lt (.int i) (.int j) (decide (i < j)) := ⟨_, op_lt, opI0' fun _ => .bl _⟩
theorem cmp_le : CmpD X .LtE (.int i) (.int j) (decide (i ≤ j)) := ⟨_, op_le, opI0' fun _ => .bl _⟩
theorem cmp_gt : CmpD X .Gt (.int i) (.int j) (decide (j < i)) := ⟨_, op_gt, opI0' fun _ => .bl _⟩
theorem cmp_ge : CmpD X .GtE (.int i) (.int j) (decide (j ≤ i)) := ⟨_, op_ge, opI0' fun _ => .bl _⟩
theorem cmp_eqI : CmpD X .Eq (.int i) (.int j) (decide (i = j)) := ⟨_, op_eq, fun x y G H Q s hx hy k => by
  cases hx; cases hy
  refine ⟨rfl, ?_⟩
  rw [show decide (V.int i = V.int j) = decide (i = j) from by simp]
  exact k.here s (.bl _)⟩
theorem cmp_neI : CmpD X .NotEq (.int i) (.int j) (!decide (i = j)) := ⟨_, op_ne, fun x y G H Q s hx hy k => by
  cases hx; cases hy
  refine ⟨rfl, ?_⟩
  rw [show decide (V.int i = V.int j) = decide (i = j) from by simp]
  exact k.here s (.bl _)⟩
end
section
variable {y z : Str}
theorem bin_addS (h : y.length + z.length ≤ sizeLine) : BinD X .Add (.str y) (.str z) (.str (y ++ z)) := ⟨_, op_add_str, fun a b G H Q s hx hy k => by
  cases hx; cases hy
  exact ⟨y, z, rfl, rfl, h, k.here s (.str _)⟩⟩
theorem ip_addS (h : y.length + z.length ≤ sizeLine) : IpD X .Add (.str y) (.str z) (.str (y ++ z)) := ⟨_, iop_add_str, fun a b G H Q s hx hy k => by
  cases hx; cases hy
  exact ⟨y, z, rfl, rfl, h, k.here s (.str _)⟩⟩
theorem cmp_eqS : CmpD X .Eq (.str y) (.str z) (decide (y = z)) := ⟨_, op_eq, fun a b G H Q s hx hy k => by
  cases hx; cases hy
  refine ⟨rfl, ?_⟩
  rw [show decide (V.str y = V.str z) = decide (y = z) from by simp]
  exact k.here s (.bl _)⟩
theorem cmp_neS : CmpD X .NotEq (.str y) (.str z) (!decide (y = z)) := ⟨_, op_ne, fun a b G H Q s hx hy k => by
  cases hx; cases hy
  refine ⟨rfl, ?_⟩
  rw [show decide (V.str y = V.str z) = decide (y = z) from by simp]
  exact k.here s (.bl _)⟩
end
theorem cmp_isN {d : D} (b : Bool) (h : ∀ K G v, Dp K G v d → decide (v = V.non) = b) : CmpD X .Is d .none b := ⟨_, op_isN, fun x y G H Q s hx hy k => by
  cases hy
  refine ⟨rfl, ?_⟩
  rw [h _ _ _ hx]
  exact k.here s (.bl _)⟩
theorem cmp_isnotN {d : D} (b : Bool) (h : ∀ K G v, Dp K G v d → (!decide (v = V.non)) = b) : CmpD X .IsNot d .none b := ⟨_, op_notN, fun x y G H Q s hx hy k => by
  cases hy
  refine ⟨rfl, ?_⟩
  rw [h _ _ _ hx]
  exact k.here s (.bl _)⟩
theorem cmp_eqD {d e : D} (hu : X.A.units + 64 < cLine) (h1 : SeqAt.shaped d = true) (h2 : SeqAt.shaped e = true) : CmpD X .Eq d e (PyData.eqv d e) := ⟨_, op_eqD hu, fun x y G H Q s hx hy k =>
  ⟨d, e, Dp.same s hx, Dp.same s hy, h1, h2, k.here s (.bl _)⟩⟩
theorem cmp_neD {d e : D} (hu : X.A.units + 64 < cLine) (h1 : SeqAt.shaped d = true) (h2 : SeqAt.shaped e = true) : CmpD X .NotEq d e (!PyData.eqv d e) := ⟨_, op_neD hu, fun x y G H Q s hx hy k =>
  ⟨d, e, Dp.same s hx, Dp.same s hy, h1, h2, k.here s (.bl _)⟩⟩
theorem ev_neg {a : Expr} {i : Int} (ha : Ev X ρ a (.int i)) : Ev X ρ (.UnaryOp .USub a pos) (.int (-i)) := fun σ G H Q E k =>
  wE_of (pe_un un_neg pe_w) (ha σ G H _ E fun x G1 H1 f1 hx => by
    cases hx
    exact ⟨i, rfl, k _ G1 H1 f1 (.int _)⟩)
end
end DL

namespace DL
open PySem PySem.Spec PyProof.Rows L2

section
variable {X : Cx} {ρ : Envi} {pos : Pos}
/-! ## 5. tests -/
theorem tst_val {e : Expr} {b : Bool} (he : Ev X ρ e (.bool b)) (hw : ∀ whole, isTrue e X.env whole = (do let v ← whole; standAt e.pos; holding [v] (truthy v)) := by intro _; rfl) : Tst X ρ e b := fun σ G H Q E k =>
  wT_of (pt_val pe_w hw) (he σ G H _ E fun v G1 H1 f1 hv => by
    cases hv
    exact ⟨b, rfl, k G1 H1 f1⟩)
def tru : D → Bool
  | .none => false
  | .bool b => b
  | .int i => i != 0
  | .str s => (s.length : Int) != 0
  | .list ds => !ds.isEmpty
  | .tuple ds => !ds.isEmpty
  | .dict _ => false
def truOk : D → Prop
  | .str s => s.length ≤ sizeLine
  | .dict _ => False
  | _ => True
theorem tst_truth {e : Expr} {d : D} (he : Ev X ρ e d) (hd : truOk d) (hw : ∀ whole, isTrue e X.env whole = (do let v ← whole; standAt e.pos; holding [v] (truthy v)) := by intro _; rfl) : Tst X ρ e (tru d) := fun σ G H Q E k =>
  wT_of (pt_truth pe_w hw) (he σ G H _ E fun v G1 H1 f1 hv => by
    cases hv with
    | non => exact ⟨false, rfl, k G1 H1 f1⟩
    | bl b => exact ⟨b, rfl, k G1 H1 f1⟩
    | int i => exact ⟨_, rfl, k G1 H1 f1⟩
    | str z => exact ⟨_, ⟨hd, rfl⟩, k G1 H1 f1⟩
    | lst hs ha =>
      refine ⟨_, .inl ⟨_, f1.s.seq hs, ?_⟩, k G1 H1 f1⟩
      cases ha <;> rfl
    | tup hs ha =>
      refine ⟨_, .inr (.inl ⟨_, Same.tupq f1.s hs, ?_⟩), k G1 H1 f1⟩
      cases ha <;> rfl)
theorem tst_not {a : Expr} {c : Bool} (ha : Tst X ρ a c) : Tst X ρ (.UnaryOp .Not a pos) (!c) := fun σ G H Q E k =>
  wT_of (pt_not pt_w) (ha σ G H _ E fun G1 H1 f1 => k G1 H1 f1)
theorem tst_w {e : Expr} {b : Bool} (h : TstW X ρ e b) : Tst X ρ e b := fun σ G H Q E k => by
  obtain ⟨t, ht, q⟩ := h σ G H Q E k
  exact wT_of ht.pt q
theorem tw_and1 {a : Expr} {c : Bool} (ha : Tst X ρ a c) : TstW X ρ (.BoolOp .And [a] pos) c := fun σ G H Q E k => wW_of (pw_and1 pt_w) (ha σ G H Q E k)
theorem tw_or1 {a : Expr} {c : Bool} (ha : Tst X ρ a c) : TstW X ρ (.BoolOp .Or [a] pos) c := fun σ G H Q E k => wW_of (pw_or1 pt_w) (ha σ G H Q E k)
theorem tw_and {a b : Expr} {rest : List Expr} {c d : Bool} (ha : Tst X ρ a c) (hb : c = true → TstW X ρ (.BoolOp .And (b :: rest) pos) d) : TstW X ρ (.BoolOp .And (a :: b :: rest) pos) (c && d) := fun σ G H Q E k =>
  wW_of (pw_and pt_w pw_w) (ha σ G H _ E fun G1 H1 f1 => by
    cases c with
    | false =>
      rw [if_neg (by decide)]
      exact k G1 H1 f1
    | true =>
      rw [if_pos rfl]
      exact hb rfl σ G1 H1 _ (E.frm f1) fun G2 H2 f2 => k G2 H2 (f1.trans f2))
theorem tw_or {a b : Expr} {rest : List Expr} {c d : Bool} (ha : Tst X ρ a c) (hb : c = false → TstW X ρ (.BoolOp .Or (b :: rest) pos) d) : TstW X ρ (.BoolOp .Or (a :: b :: rest) pos) (c || d) := fun σ G H Q E k =>
  wW_of (pw_or pt_w pw_w) (ha σ G H _ E fun G1 H1 f1 => by
    cases c with
    | true =>
      rw [if_pos rfl]
      exact k G1 H1 f1
    | false =>
      rw [if_neg (by decide)]
      exact hb rfl σ G1 H1 _ (E.frm f1) fun G2 H2 f2 => k G2 H2 (f1.trans f2))
/-! ### as values -/
theorem ev_one {op} {a : Expr} {d : D} (ha : Ev X ρ a d) : Ev X ρ (.BoolOp op [a] pos) d := fun σ G H Q E k => wE_of (pe_one pe_w) (ha σ G H Q E k)
theorem ev_and {a b : Expr} {rest : List Expr} {c d : Bool} (ha : Ev X ρ a (.bool c)) (hb : c = true → Ev X ρ (.BoolOp .And (b :: rest) pos) (.bool d)) : Ev X ρ (.BoolOp .And (a :: b :: rest) pos) (.bool (c && d)) := fun σ G H Q E k =>
  wE_of (pe_and pe_w pe_w) (ha σ G H _ E fun x G1 H1 f1 hx => by
    cases hx
    refine ⟨c, rfl, ?_⟩
    cases c with
    | false =>
      rw [if_neg (by decide)]
      exact k _ G1 H1 f1 (.bl _)
    | true =>
      rw [if_pos rfl]
      exact hb rfl σ G1 H1 _ (E.frm f1) fun v G2 H2 f2 hv => k v G2 H2 (f1.trans f2) hv)
theorem ev_or {a b : Expr} {rest : List Expr} {c d : Bool} (ha : Ev X ρ a (.bool c)) (hb : c = false → Ev X ρ (.BoolOp .Or (b :: rest) pos) (.bool d)) : Ev X ρ (.BoolOp .Or (a :: b :: rest) pos) (.bool (c || d)) := fun σ G H Q E k =>
  wE_of (pe_or pe_w pe_w) (ha σ G H _ E fun x G1 H1 f1 hx => by
    cases hx
    refine ⟨c, rfl, ?_⟩
    cases c with
    | true =>
      rw [if_pos rfl]
      exact k _ G1 H1 f1 (.bl _)
    | false =>
      rw [if_neg (by decide)]
      exact hb rfl σ G1 H1 _ (E.frm f1) fun v G2 H2 f2 hv => k v G2 H2 (f1.trans f2) hv)
theorem ev_not {a : Expr} {c : Bool} (ha : Ev X ρ a (.bool c)) : Ev X ρ (.UnaryOp .Not a pos) (.bool (!c)) := fun σ G H Q E k =>
  wE_of (pe_not pe_w) (ha σ G H _ E fun x G1 H1 f1 hx => by
    cases hx
    exact ⟨c, rfl, k _ G1 H1 f1 (.bl _)⟩)
theorem ev_if {c a b : Expr} {p : Bool} {da db : D} (hc : Tst X ρ c p) (ha : p = true → Ev X ρ a da) (hb : p = false → Ev X ρ b db) : Ev X ρ (.IfExp c a b pos) (if p = true then da else db) := fun σ G H Q E k =>
  wE_of (pe_ifExp pt_w pe_w pe_w) (hc σ G H _ E fun G1 H1 f1 => by
    cases p with
    | true =>
      rw [if_pos rfl]
      exact ha rfl σ G1 H1 _ (E.frm f1) fun v G2 H2 f2 hv => k v G2 H2 (f1.trans f2) hv
    | false =>
      rw [if_neg (by decide)]
      exact hb rfl σ G1 H1 _ (E.frm f1) fun v G2 H2 f2 hv => k v G2 H2 (f1.trans f2) hv)
theorem Ev.to {e : Expr} {d d' : D} (h : Ev X ρ e d) (q : d = d') : Ev X ρ e d' := q ▸ h
theorem Tst.to {e : Expr} {d d' : Bool} (h : Tst X ρ e d) (q : d = d') : Tst X ρ e d' := q ▸ h
theorem ev_ifI {c a b : Expr} {p : Bool} {i j : Int} (hc : Tst X ρ c p) (ha : p = true → Ev X ρ a (.int i)) (hb : p = false → Ev X ρ b (.int j)) : Ev X ρ (.IfExp c a b pos) (.int (if p = true then i else j)) :=
  (ev_if hc ha hb).to (by cases p <;> rfl)
theorem ev_ifS {c a b : Expr} {p : Bool} {i j : Str} (hc : Tst X ρ c p) (ha : p = true → Ev X ρ a (.str i)) (hb : p = false → Ev X ρ b (.str j)) : Ev X ρ (.IfExp c a b pos) (.str (if p = true then i else j)) :=
  (ev_if hc ha hb).to (by cases p <;> rfl)
theorem ev_ifB {c a b : Expr} {p : Bool} {i j : Bool} (hc : Tst X ρ c p) (ha : p = true → Ev X ρ a (.bool i)) (hb : p = false → Ev X ρ b (.bool j)) : Ev X ρ (.IfExp c a b pos) (.bool (if p = true then i else j)) :=
  (ev_if hc ha hb).to (by cases p <;> rfl)

/-! ## 6. arguments, displays, calls -/
theorem evs_nil : Evs X ρ [] [] := fun σ G H Q E k => wA_of pa_nil (k [] G H (.refl E.s) .nil)
theorem evs_cons {e : Expr} {es : List Expr} {d : D} {ds : List D} (he : Ev X ρ e d) (hes : Evs X ρ es ds) (hs : starEach (e :: es) X.env = (false, eval e X.env) :: starEach es X.env := by rfl) : Evs X ρ (e :: es) (d :: ds) := fun σ G H Q E k =>
  wA_of (pa_cons pe_w pa_w hs) (he σ G H _ E fun x G1 H1 f1 hx => hes σ G1 H1 _ (E.frm f1) fun vs G2 H2 f2 hv => k (x :: vs) G2 H2 (f1.trans f2) (.cons (Dp.same f2.g hx) hv))

/-- a fresh list -/
def EvL (X : Cx) (ρ : Envi) (e : Expr) (ds : List D) : Prop := ∀ σ G H Q, EnvR X.K G H σ ρ →
  (∀ a vs G' H', Frm G H G' H' → H' a = some (.lst vs) → G' a = none → H a = none → DpAll X.K G' vs ds → Q (.ref a) H') → wE X e σ H Q
theorem freezeF {K : PySem.W.Frag} {G H G' H' : Hp} {a : Addr} {vs : List V} (f : Frm G H G' H') (h1 : H' a = some (.lst vs)) (h2 : G' a = none) (h3 : H a = none) : Frm G H (upd G' a (.lst vs)) H' := by
  refine ⟨f.g.trans (same_upd h2), f.h, fun b o e => ?_, fun b o e => ?_⟩
  · by_cases q : b = a
    · subst q; rw [upd_same] at e; cases e; exact h1
    · rw [upd_ne q] at e; exact f.s _ _ e
  · rw [upd_ne (ne_of_none e h3)]; exact f.n b o e
theorem ev_ofL {e : Expr} {ds : List D} (h : EvL X ρ e ds) : Ev X ρ e (.list ds) := fun σ G H Q E k =>
  h σ G H Q E fun a vs G' H' f h1 h2 h3 h4 => k _ _ H' (freezeF (K := X.K) f h1 h2 h3) (.lst (.inl (.inl upd_same)) (DpAll.same (same_upd h2) h4))
theorem evl_lst {es : List Expr} {ds : List D} (h : Evs X ρ es ds) (hl : ds.length ≤ sizeLine) : EvL X ρ (.List es pos) ds := fun σ G H Q E k =>
  wE_of (pe_lst pa_w) (h σ G H _ E fun vs G1 H1 f1 hv => ⟨by rw [DpAll.length hv]; exact hl, fun p hp => by
    have gp : G1 p = none := f1.s.free hp
    exact k p vs G1 _ (f1.trans (Frm.priv f1.s hp)) upd_same gp (f1.h.free hp) hv⟩)
theorem ev_tup {es : List Expr} {ds : List D} {n} (h : Evs X ρ es ds) (hl : ds.length ≤ sizeLine) : Ev X ρ (.Tuple es n pos) (.tuple ds) := fun σ G H Q E k =>
  wE_of (pe_tup pa_w) (h σ G H _ E fun vs G1 H1 f1 hv => ⟨by rw [DpAll.length hv]; exact hl, fun p hp =>
    k (.ref p) _ _ (f1.trans (Frm.new f1.s hp)) (.tup (.inl (.inl upd_same)) (DpAll.same (same_upd (f1.s.free hp)) hv))⟩)

/-- what a def of one's own does with the data ds: it hands back d -/
def spOne (K : PySem.W.Frag) (ds : List D) (d : D) : Sp := fun vs H Q _ => ∃ G, Same G H ∧ DpAll K G vs ds ∧ Gets K G H d Q
structure Dfn (P : Program) (w : World) (K : PySem.W.Frag) (mg : Str → Option Value) (base : Heap) (x : Str) (ps : List Str) (k : Nat) (ds : List D) (d : D) : Prop where
  ok : ∃ f fd, mg x = some (.ref f) ∧ PySem.W.keepIn K (.ref f) = true ∧ Binds K fd ps [] ∧ FnOk P w K mg base CX0 k f fd ps (spOne K ds d)
theorem ev_call {x : Str} {p : Pos} {e : Expr} {es : List Expr} {ps : List Str} {j k : Nat} {ds : List D} {d : D} (F : Dfn X.prog X.w X.K X.mg X.base x ps j ds d) (hj : j ≤ k) (hr : Room k X.A) (hg : Gl X x) (ha : Evs X ρ (e :: es) ds)
    (hd : (x == ("__debug__" : Str)) = false := by decide) (hs : starEach (e :: es) X.env = (false, eval e X.env) :: starEach es X.env := by rfl) (hp : ((backTo pos (starEach es X.env)).any (·.1)) = false := by rfl) :
    Ev X ρ (.Call (.Name x p) (e :: es) [] pos) d := fun σ G H Q E k => by
  obtain ⟨f, fd, hm, hk, hb, F⟩ := F.ok
  refine wE_of (pe_call (F.mono hj) hr hg hm hk hb .nil pass0 pa_w hd hs hp) (ha σ G H _ E fun vs G1 H1 f1 hv => ?_)
  show spOne X.K ds d (vs ++ []) H1 Q E0
  rw [List.append_nil]
  exact ⟨G1, f1.s, hv, Gets.frm k f1⟩
theorem ev_call0 {x : Str} {p : Pos} {ps : List Str} {j k : Nat} {d : D} (F : Dfn X.prog X.w X.K X.mg X.base x ps j [] d) (hj : j ≤ k) (hr : Room k X.A) (hg : Gl X x)
    (hd : (x == ("__debug__" : Str)) = false := by decide) : Ev X ρ (.Call (.Name x p) [] [] pos) d := fun σ G H Q E k => by
  obtain ⟨f, fd, hm, hk, hb, F⟩ := F.ok
  exact wE_of (pe_call0 (F.mono hj) hr hg hm hk hb .nil pass0 hd) ⟨G, E.s, .nil, k⟩

/-- a built-in by values -/
def BltD (X : Cx) (x : Str) (ds : List D) (d : D) : Prop := ∃ r : List V → Hp → VK → Prop,
  ((∃ id, bootBuiltins x = some (.builtin id) ∧ CallR X (.builtin id) r) ∨ ∃ T, bootBuiltins x = some (.type T) ∧ CallR X (.type T) r) ∧
  ∀ vs G H Q, Same G H → DpAll X.K G vs ds → Gets X.K G H d Q → r vs H Q
theorem ev_blt {x : Str} {p : Pos} {e : Expr} {es : List Expr} {ds : List D} {d : D} (ha : Evs X ρ (e :: es) ds) (F : BltD X x ds d) (hg : Gl X x) (hm : X.mg x = none)
    (hn : x ≠ "__name__" := by decide) (hd : (x == ("__debug__" : Str)) = false := by decide) (hs : starEach (e :: es) X.env = (false, eval e X.env) :: starEach es X.env := by rfl) (hp : ((backTo pos (starEach es X.env)).any (·.1)) = false := by rfl) :
    Ev X ρ (.Call (.Name x p) (e :: es) [] pos) d := fun σ G H Q E k => by
  obtain ⟨r, hb, F⟩ := F
  rcases hb with ⟨id, hv, hc⟩ | ⟨T, hv, hc⟩
  · exact wE_of (pe_callB hc hg hm hv pa_w hn hd hs hp) (ha σ G H _ E fun vs G1 H1 f1 hv => F vs G1 H1 Q f1.s hv (Gets.frm k f1))
  · exact wE_of (pe_callTy hc hg hm hv pa_w hn hd hs hp) (ha σ G H _ E fun vs G1 H1 f1 hv => F vs G1 H1 Q f1.s hv (Gets.frm k f1))
/-- a built-in that a module brings (gcd): its name stands in the module -/
theorem ev_bltM {x : Str} {p : Pos} {e : Expr} {es : List Expr} {ds : List D} {d : D} {id : String} {r : List V → Hp → VK → Prop} (ha : Evs X ρ (e :: es) ds) (hc : CallR X (.builtin id) r) (F : ∀ vs G H Q, Same G H → DpAll X.K G vs ds → Gets X.K G H d Q → r vs H Q)
    (hg : Gl X x) (hm : X.mg x = some (.builtin id)) (hd : (x == ("__debug__" : Str)) = false := by decide) (hs : starEach (e :: es) X.env = (false, eval e X.env) :: starEach es X.env := by rfl) (hp : ((backTo pos (starEach es X.env)).any (·.1)) = false := by rfl) :
    Ev X ρ (.Call (.Name x p) (e :: es) [] pos) d := fun σ G H Q E k =>
  wE_of (pe_callBfun hc hg hm pa_w hd hs hp) (ha σ G H _ E fun vs G1 H1 f1 hv => F vs G1 H1 Q f1.s hv (Gets.frm k f1))

theorem DpAll.one {K : PySem.W.Frag} {G : Hp} {vs : List V} {d : D} (h : DpAll K G vs [d]) : ∃ v, vs = [v] ∧ Dp K G v d := by
  cases h with
  | cons a b => cases b; exact ⟨_, rfl, a⟩
theorem DpAll.two {K : PySem.W.Frag} {G : Hp} {vs : List V} {d e : D} (h : DpAll K G vs [d, e]) : ∃ v w, vs = [v, w] ∧ Dp K G v d ∧ Dp K G w e := by
  cases h with
  | cons a b =>
    obtain ⟨w, rfl, q⟩ := DpAll.one b
    exact ⟨_, w, rfl, a, q⟩

theorem blt_lenS {z : Str} (h : z.length ≤ sizeLine) : BltD X "len" [.str z] (.int z.length) := ⟨_, .inl ⟨_, PySem.boot_len, call_len_str⟩, fun vs G H Q s hv k => by
  obtain ⟨v, rfl, hx⟩ := DpAll.one hv
  cases hx
  exact ⟨z, rfl, h, k.here s (.int _)⟩⟩
theorem blt_lenL {ds : List D} : BltD X "len" [.list ds] (.int ds.length) := ⟨_, .inl ⟨_, PySem.boot_len, call_len_seq⟩, fun vs G H Q s hv k => by
  obtain ⟨v, rfl, hx⟩ := DpAll.one hv
  cases hx with
  | lst hs ha => exact ⟨_, _, rfl, .inl (s.seq hs), by rw [DpAll.length ha]; exact k.here s (.int _)⟩⟩
theorem blt_lenT {ds : List D} : BltD X "len" [.tuple ds] (.int ds.length) := ⟨_, .inl ⟨_, PySem.boot_len, call_len_seq⟩, fun vs G H Q s hv k => by
  obtain ⟨v, rfl, hx⟩ := DpAll.one hv
  cases hx with
  | tup hs ha => exact ⟨_, _, rfl, .inr (Same.tupq s hs), by rw [DpAll.length ha]; exact k.here s (.int _)⟩⟩
theorem blt_intI {i : Int} : BltD X "int" [.int i] (.int i) := ⟨_, .inr ⟨_, by decide +kernel, call_int1⟩, fun vs G H Q s hv k => by
  obtain ⟨v, rfl, hx⟩ := DpAll.one hv
  cases hx
  exact .inl ⟨i, rfl, k.here s (.int _)⟩⟩
theorem blt_intB {b : Bool} : BltD X "int" [.bool b] (.int (if b = true then 1 else 0)) := ⟨_, .inr ⟨_, by decide +kernel, call_int1⟩, fun vs G H Q s hv k => by
  obtain ⟨v, rfl, hx⟩ := DpAll.one hv
  cases hx
  exact .inr ⟨b, rfl, k.here s (.int _)⟩⟩
theorem blt_strI {i : Int} (h : i.natAbs.log2 < 1920) : BltD X "str" [.int i] (.str (toString i)) := ⟨_, .inr ⟨_, by decide +kernel, call_str_int⟩, fun vs G H Q s hv k => by
  obtain ⟨v, rfl, hx⟩ := DpAll.one hv
  cases hx
  exact ⟨i, rfl, h, k.here s (.str _)⟩⟩
theorem blt_abs {i : Int} : BltD X "abs" [.int i] (.int (if i < 0 then -i else i)) := ⟨_, .inl ⟨_, by decide +kernel, call_abs⟩, fun vs G H Q s hv k => by
  obtain ⟨v, rfl, hx⟩ := DpAll.one hv
  cases hx
  exact ⟨i, rfl, k.here s (.int _)⟩⟩
theorem blt_max2 {i j : Int} (hc : X.calm = true) : BltD X "max" [.int i, .int j] (.int (if j > i then j else i)) := ⟨_, .inl ⟨_, by decide +kernel, call_max2 hc⟩, fun vs G H Q s hv k => by
  obtain ⟨v, w, rfl, hx, hy⟩ := DpAll.two hv
  cases hx; cases hy
  exact ⟨i, j, rfl, k.here s (.int _)⟩⟩
theorem blt_min2 {i j : Int} (hc : X.calm = true) : BltD X "min" [.int i, .int j] (.int (if j < i then j else i)) := ⟨_, .inl ⟨_, by decide +kernel, call_min2 hc⟩, fun vs G H Q s hv k => by
  obtain ⟨v, w, rfl, hx, hy⟩ := DpAll.two hv
  cases hx; cases hy
  exact ⟨i, j, rfl, k.here s (.int _)⟩⟩
theorem blt_sum {ns : List Int} (hc : X.calm = true) : BltD X "sum" [.list (ns.map .int)] (.int ns.sum) := ⟨_, .inl ⟨_, by decide +kernel, cr_sum hc⟩, fun vs G H Q s hv k => by
  obtain ⟨v, rfl, hx⟩ := DpAll.one hv
  cases hx with
  | lst hs ha =>
    have e := DpAll.ints ha
    subst e
    exact ⟨_, ns, rfl, s.seq hs, k.here s (.int _)⟩⟩
theorem blt_maxL {ns : List Int} (m : Int) (hc : X.calm = true) (h0 : m ∈ ns) (hm : ∀ y, y ∈ ns → y ≤ m) : BltD X "max" [.list (ns.map .int)] (.int m) := ⟨_, .inl ⟨_, by decide +kernel, cr_max hc⟩, fun vs G H Q s hv k => by
  obtain ⟨v, rfl, hx⟩ := DpAll.one hv
  cases hx with
  | lst hs ha =>
    have e := DpAll.ints ha
    subst e
    refine ⟨_, ns, rfl, s.seq hs, List.length_pos_of_mem h0, fun m' h1 h2 => ?_⟩
    have e : m' = m := Int.le_antisymm (hm m' h1) (h2 m h0)
    rw [e]
    exact k.here s (.int _)⟩
theorem blt_minL {ns : List Int} (m : Int) (hc : X.calm = true) (h0 : m ∈ ns) (hm : ∀ y, y ∈ ns → m ≤ y) : BltD X "min" [.list (ns.map .int)] (.int m) := ⟨_, .inl ⟨_, by decide +kernel, cr_min hc⟩, fun vs G H Q s hv k => by
  obtain ⟨v, rfl, hx⟩ := DpAll.one hv
  cases hx with
  | lst hs ha =>
    have e := DpAll.ints ha
    subst e
    refine ⟨_, ns, rfl, s.seq hs, List.length_pos_of_mem h0, fun m' h1 h2 => ?_⟩
    have e : m' = m := Int.le_antisymm (h2 m h0) (hm m' h1)
    rw [e]
    exact k.here s (.int _)⟩
theorem blt_tupleL {ds : List D} : BltD X "tuple" [.list ds] (.tuple ds) := ⟨_, .inr ⟨_, by decide +kernel, call_tuple_of⟩, fun vs G H Q s hv k => by
  obtain ⟨v, rfl, hx⟩ := DpAll.one hv
  cases hx with
  | lst hs ha => exact ⟨_, _, rfl, .inl ⟨s.seq hs, fun l hl => k _ _ _ (Frm.new s hl) (.tup (.inl (.inl upd_same)) (DpAll.same (same_upd (s.free hl)) ha))⟩⟩⟩
theorem blt_tupleT {ds : List D} : BltD X "tuple" [.tuple ds] (.tuple ds) := ⟨_, .inr ⟨_, by decide +kernel, call_tuple_of⟩, fun vs G H Q s hv k => by
  obtain ⟨v, rfl, hx⟩ := DpAll.one hv
  cases hx with
  | tup hs ha => exact ⟨_, _, rfl, .inr ⟨Same.tupq s hs, k.here s (.tup hs ha)⟩⟩⟩
theorem blt_listL {ds : List D} : BltD X "list" [.list ds] (.list ds) := ⟨_, .inr ⟨_, by decide +kernel, call_list_of⟩, fun vs G H Q s hv k => by
  obtain ⟨v, rfl, hx⟩ := DpAll.one hv
  cases hx with
  | lst hs ha => exact ⟨_, _, rfl, .inl (s.seq hs), fun l hl => k _ _ _ (Frm.new s hl) (.lst (.inl (.inl upd_same)) (DpAll.same (same_upd (s.free hl)) ha))⟩⟩
theorem blt_listT {ds : List D} : BltD X "list" [.tuple ds] (.list ds) := ⟨_, .inr ⟨_, by decide +kernel, call_list_of⟩, fun vs G H Q s hv k => by
  obtain ⟨v, rfl, hx⟩ := DpAll.one hv
  cases hx with
  | tup hs ha => exact ⟨_, _, rfl, .inr (Same.tupq s hs), fun l hl => k _ _ _ (Frm.new s hl) (.lst (.inl (.inl upd_same)) (DpAll.same (same_upd (s.free hl)) ha))⟩⟩
theorem blt_sortedI {ns ms : List Int} (hp : ms.Perm ns) (hs : ms.Pairwise (· ≤ ·)) : BltD X "sorted" [.list (ns.map .int)] (.list (ms.map .int)) := ⟨_, .inl ⟨_, by decide +kernel, cr_sortedI⟩, fun vs G H Q s hv k => by
  obtain ⟨v, rfl, hx⟩ := DpAll.one hv
  cases hx with
  | lst hq ha =>
    have e := DpAll.ints ha
    subst e
    refine ⟨_, ns, rfl, s.seq hq, fun ns' p h1 h2 hp' => ?_⟩
    have e : ns' = ms := List.Perm.eq_of_pairwise (le := (· ≤ ·)) (fun a b _ _ h1 h2 => Int.le_antisymm h1 h2) h2 hs (h1.trans hp.symm)
    subst e
    exact k _ _ _ (Frm.new s hp') (.lst (.inl (.inl upd_same)) (DpAll.ofInts _))⟩

/-! ### methods of texts -/
def MthD (X : Cx) (x : Str) (z : Str) (ds : List D) (d : D) : Prop := ∃ (id : String) (r : V → List V → Hp → VK → Prop), Slot "str" x id ∧ typeOf (.builtin id) = pure (.type "method_descriptor") ∧ MtR X id r ∧
  ∀ vs G H Q, Same G H → DpAll X.K G vs ds → Gets X.K G H d Q → r (.str z) vs H Q
theorem ev_m0 {o : Expr} {x : Str} {apos : Pos} {z : Str} {d : D} (ho : Ev X ρ o (.str z)) (F : MthD X x z [] d) (hb : attributeBase o x X.env (eval o X.env) = eval o X.env := by rfl) (hl : (apos.endLine == pos.line) = true := by rfl) :
    Ev X ρ (.Call (.Attribute o x apos) [] [] pos) d := fun σ G H Q E k => by
  obtain ⟨id, r, h1, h2, h3, F⟩ := F
  refine wE_of (pe_m0 h1 h2 h3 pe_w hb hl) (ho σ G H _ E fun v G1 H1 f1 hv => ?_)
  cases hv
  exact ⟨⟨z, rfl⟩, F [] G1 H1 Q f1.s .nil (Gets.frm k f1)⟩
theorem ev_m {o e : Expr} {es : List Expr} {x : Str} {apos : Pos} {z : Str} {d : D} {ds : List D} (ho : Ev X ρ o (.str z)) (ha : Evs X ρ (e :: es) ds) (F : MthD X x z ds d) (hb : attributeBase o x X.env (eval o X.env) = eval o X.env := by rfl)
    (h2 : ((((backTo pos (starEach (e :: es) X.env)).all fun x => !x.1) && (backToKw pos (keywordEach [] X.env)).all fun x => x.1.isSome) && decide (((e :: es).length + ([] : List Keyword).length + if ([] : List Keyword).isEmpty = true then 0 else 1) < 30)) = true := by rfl)
    (hl : (apos.endLine == pos.line) = true := by rfl) (hs : starEach (e :: es) X.env = (false, eval e X.env) :: starEach es X.env := by rfl) (h5 : ((backTo pos (starEach es X.env)).any fun x => x.1) = false := by rfl) :
    Ev X ρ (.Call (.Attribute o x apos) (e :: es) [] pos) d := fun σ G H Q E k => by
  obtain ⟨id, r, q1, q2, q3, F⟩ := F
  refine wE_of (pe_bm (T := "str") PySem.F.plainAttrs_str q1 q2 q3 pe_w pa_w hb h2 hl hs h5) (ho σ G H _ E fun v G1 H1 f1 hv => ?_)
  cases hv
  refine ⟨rfl, ha σ G1 H1 _ (E.frm f1) fun vs G2 H2 f2 hv => ?_⟩
  exact F vs G2 H2 Q f2.s hv (Gets.frm k (f1.trans f2))
theorem mth_join {z : Str} {ys : List Str} (h : (ys.map (·.length)).sum + ys.length * z.length ≤ 16777216) : MthD X "join" z [.list (ys.map .str)] (.str (Txt.join z ys)) := ⟨"str.join", _, PySem.F.slot_str_join, PySem.F.type_str_join, mt_join, fun vs G H Q s hv k => by
  obtain ⟨v, rfl, hx⟩ := DpAll.one hv
  cases hx with
  | lst hs ha =>
    have e := DpAll.strs ha
    subst e
    exact ⟨z, _, ys, rfl, rfl, .inl (s.seq hs), h, k.here s (.str _)⟩⟩
theorem mth_find {y z : Str} : MthD X "find" z [.str y] (.int (Txt.find z y)) := ⟨"str.find", _, PySem.F.slot_str_find, PySem.F.type_str_find, mt_find, fun vs G H Q s hv k => by
  obtain ⟨v, rfl, hx⟩ := DpAll.one hv
  cases hx
  exact ⟨z, y, rfl, rfl, k.here s (.int _)⟩⟩
theorem mth_rfind {y z : Str} : MthD X "rfind" z [.str y] (.int (Txt.rfind z y)) := ⟨"str.rfind", _, PySem.F.slot_str_rfind, PySem.F.type_str_rfind, mt_rfind, fun vs G H Q s hv k => by
  obtain ⟨v, rfl, hx⟩ := DpAll.one hv
  cases hx
  exact ⟨z, y, rfl, rfl, k.here s (.int _)⟩⟩
theorem mth_count {y z : Str} : MthD X "count" z [.str y] (.int (Txt.count z y)) := ⟨"str.count", _, PySem.F.slot_str_count, PySem.F.type_str_count, mt_count, fun vs G H Q s hv k => by
  obtain ⟨v, rfl, hx⟩ := DpAll.one hv
  cases hx
  exact ⟨z, y, rfl, rfl, k.here s (.int _)⟩⟩
theorem mth_split {y z : Str} (hy : (y.length == 0) = false) (h : z.length + 2 ≤ sizeLine) : MthD X "split" z [.str y] (.list ((Txt.split z y).map .str)) := ⟨"str.split", _, PySem.F.slot_str_split, PySem.F.type_str_split, mt_split, fun vs G H Q s hv k => by
  obtain ⟨v, rfl, hx⟩ := DpAll.one hv
  cases hx
  exact ⟨z, y, rfl, rfl, hy, h, fun p hp => k _ _ _ (Frm.new s hp) (.lst (.inl (.inl upd_same)) (DpAll.ofStrs _))⟩⟩

/-! ### subscripts -/
def IxD (X : Cx) (da db d : D) : Prop := ∃ r, IxR X r ∧ OpD X.K r da db d
theorem ev_ix {a b : Expr} {da db d : D} (ha : Ev X ρ a da) (hb : Ev X ρ b db) (h : IxD X da db d) (hp : PlainIx b) : Ev X ρ (.Subscript a b pos) d := fun σ G H Q E k => by
  obtain ⟨r, hr, hk⟩ := h
  refine wE_of (pe_ix hr pe_w pe_w hp) (ha σ G H _ E fun x G1 H1 f1 hx => hb σ G1 H1 _ (E.frm f1) fun y G2 H2 f2 hy => ?_)
  exact hk x y G2 H2 Q f2.s (Dp.same f2.g hx) hy (k.frm (f1.trans f2))
theorem DpAll.atI {K : PySem.W.Frag} {G : Hp} {vs : List V} {ds : List D} {i : Int} {d : D} (h : DpAll K G vs ds) (e : L2.atI ds i = some d) : ∃ v, L2.atI vs i = some v ∧ Dp K G v d := by
  unfold L2.atI at e ⊢
  rw [DpAll.length h]
  cases q : ixN ds.length i with
  | none => rw [q] at e; cases e
  | some j =>
    rw [q] at e
    exact DpAll.get h e
theorem ix_l {ds : List D} {i : Int} {d : D} (h : L2.atI ds i = some d) : IxD X (.list ds) (.int i) d := ⟨_, ix_list, fun x y G H Q s hx hy k => by
  cases hy
  cases hx with
  | lst hs ha =>
    obtain ⟨v, h1, h2⟩ := DpAll.atI ha h
    exact ⟨_, _, i, v, rfl, rfl, s.seq hs, h1, k.here s h2⟩⟩
theorem ix_t {ds : List D} {i : Int} {d : D} (h : L2.atI ds i = some d) : IxD X (.tuple ds) (.int i) d := ⟨_, ix_tup, fun x y G H Q s hx hy k => by
  cases hy
  cases hx with
  | tup hs ha =>
    obtain ⟨v, h1, h2⟩ := DpAll.atI ha h
    exact ⟨_, _, i, v, rfl, rfl, Same.tupq s hs, h1, k.here s h2⟩⟩
theorem ix_s {z : Str} {i : Int} {c : Nat} (hz : z.length ≤ sizeLine) (h : L2.atI z.cps.toList i = some c) : IxD X (.str z) (.int i) (.str ⟨#[c]⟩) := ⟨_, ix_str, fun x y G H Q s hx hy k => by
  cases hy
  cases hx
  exact ⟨z, i, c, rfl, rfl, hz, h, k.here s (.str _)⟩⟩
/-- parts of a slice -/
def Pt (X : Cx) (ρ : Envi) (o : Option Expr) (i : Option Int) : Prop := ∀ σ G H Q, EnvR X.K G H σ ρ → (∀ G' H', Frm G H G' H' → Q i H') → wP X o σ H Q
theorem pt_none : Pt X ρ none none := fun σ G H Q E k => ⟨_, po_none, k G H (.refl E.s)⟩
theorem pt_some {e : Expr} {i : Int} (h : Ev X ρ e (.int i)) : Pt X ρ (some e) (some i) := fun σ G H Q E k => ⟨_, po_some pe_w, h σ G H _ E fun v G1 H1 f1 hv => by
  cases hv
  exact ⟨i, rfl, k G1 H1 f1⟩⟩
def SlD (X : Cx) (da : D) (lo hi : Option Int) (d : D) : Prop := ∃ r, SlR X r ∧ ∀ x G H Q, Same G H → Dp X.K G x da → Gets X.K G H d Q → r x lo hi H Q
theorem po_w {o : Option Expr} : PO X o (wP X o) := ⟨fun pins s σ H Q I ⟨_, h, q⟩ => h.run pins s σ H Q I q⟩
theorem ev_slice {e : Expr} {lo hi : Option Expr} {p2 : Pos} {da d : D} {l h : Option Int} (ha : Ev X ρ e da) (hl : Pt X ρ lo l) (hh : Pt X ρ hi h) (F : SlD X da l h d) : Ev X ρ (.Subscript e (.Slice lo hi none p2) pos) d := fun σ G H Q E k => by
  obtain ⟨r, hr, F⟩ := F
  refine wE_of (pe_slice hr pe_w po_w po_w) (ha σ G H _ E fun x G1 H1 f1 hx => hl σ G1 H1 _ (E.frm f1) fun G2 H2 f2 => hh σ G2 H2 _ ((E.frm f1).frm f2) fun G3 H3 f3 => ?_)
  exact F x G3 H3 Q f3.s (Dp.same (f2.g.trans f3.g) hx) (k.frm (f1.trans (f2.trans f3)))
def cutD (xs : List D) (lo hi : Option Int) : List D := (xs.drop (HT.sIx xs.length 0 lo)).take (HT.sIx xs.length xs.length hi - HT.sIx xs.length 0 lo)
theorem DpAll.cut {K : PySem.W.Frag} {G : Hp} {vs : List V} {ds : List D} (h : DpAll K G vs ds) (lo hi : Option Int) : DpAll K G (cutV vs lo hi) (cutD ds lo hi) := by
  unfold cutV cutD
  rw [DpAll.length h]
  exact DpAll.take _ (DpAll.drop _ h)
theorem sl_l {ds : List D} {lo hi : Option Int} : SlD X (.list ds) lo hi (.list (cutD ds lo hi)) := ⟨_, sl_list, fun x G H Q s hx k => by
  cases hx with
  | lst hs ha => exact ⟨_, _, rfl, s.seq hs, fun p hp => k _ _ _ (Frm.new s hp) (.lst (.inl (.inl upd_same)) (DpAll.same (same_upd (s.free hp)) (DpAll.cut ha lo hi)))⟩⟩
theorem cutV_all {vs : List V} {lo hi : Option Int} (h : HT.sIx vs.length 0 lo = 0 ∧ HT.sIx vs.length vs.length hi = vs.length) : cutV vs lo hi = vs := by
  unfold cutV
  rw [h.1, h.2, List.drop_zero, Nat.sub_zero, List.take_length]
theorem sl_t {ds : List D} {lo hi : Option Int} : SlD X (.tuple ds) lo hi (.tuple (cutD ds lo hi)) := ⟨_, sl_tupA, fun x G H Q s hx k => by
  cases hx with
  | tup hs ha =>
    refine ⟨_, _, rfl, Same.tupq s hs, fun e => ?_, fun _ p hp => k _ _ _ (Frm.new s hp) (.tup (.inl (.inl upd_same)) (DpAll.same (same_upd (s.free hp)) (DpAll.cut ha lo hi)))⟩
    have q := DpAll.cut ha lo hi
    rw [cutV_all e] at q
    exact k.here s (.tup hs q)⟩
theorem sl_s {z : Str} {lo hi : Option Int} (hz : z.length ≤ sizeLine) : SlD X (.str z) lo hi (.str (cutS z lo hi)) := ⟨_, sl_str, fun x G H Q s hx k => by
  cases hx
  exact ⟨z, rfl, hz, k.here s (.str _)⟩⟩
end
end DL

namespace DL
open PySem PySem.Spec PyProof.Rows L2

/-! ## 7. what a for walks -/
structure Yld (K : PySem.W.Frag) (J : It) (G : Hp) (ds : List D) : Prop where
  go : ∀ i H, Same G H → i < ds.length → J.go i H
  stop : ∀ i H, Same G H → ds.length ≤ i → J.stop i H
  item : ∀ i G1 H x H' d, Same G G1 → Same G1 H → J.yld i H x H' → ds[i]? = some d → ∃ G', Frm G1 H G' H' ∧ Dp K G' x d
def Iter (X : Cx) (ρ : Envi) (tg it : Expr) (ds : List D) : Prop := ∀ σ G H R, EnvR X.K G H σ ρ → (∀ J G' H', Frm G H G' H' → Yld X.K J G' ds → R J H') → wI X tg it σ H R
section
variable {X : Cx} {ρ : Envi} {pos : Pos} {tg : Expr}
theorem yld_list {K : PySem.W.Frag} {G : Hp} {a : Addr} {vs : List V} {ds : List D} (hs : SqL K G a vs) (ha : DpAll K G vs ds) : Yld K (Itl K a) G ds where
  go := fun i H s hi => by
    obtain ⟨v, h1, _⟩ := DpAll.get ha (List.getElem?_eq_getElem hi)
    exact ⟨vs, v, s.seq hs, h1⟩
  stop := fun i H s hi => ⟨vs, s.seq hs, by rw [DpAll.length ha]; exact hi⟩
  item := fun i G1 H x H' d s1 s2 hy hd => by
    obtain ⟨rfl, hx⟩ := hy
    obtain ⟨v, h1, h2⟩ := DpAll.get ha hd
    have e := hx vs (s2.seq (s1.seq hs))
    rw [h1] at e
    cases e
    exact ⟨G1, .refl s2, Dp.same s1 h2⟩
theorem yld_tup {K : PySem.W.Frag} {G : Hp} {a : Addr} {vs : List V} {ds : List D} (hs : SqT K G a vs) (ha : DpAll K G vs ds) : Yld K (Itt K a) G ds where
  go := fun i H s hi => by
    obtain ⟨v, h1, _⟩ := DpAll.get ha (List.getElem?_eq_getElem hi)
    exact ⟨vs, v, Same.tupq s hs, h1⟩
  stop := fun i H s hi => ⟨vs, Same.tupq s hs, by rw [DpAll.length ha]; exact hi⟩
  item := fun i G1 H x H' d s1 s2 hy hd => by
    obtain ⟨rfl, hx⟩ := hy
    obtain ⟨v, h1, h2⟩ := DpAll.get ha hd
    have e := hx vs (Same.tupq s2 (Same.tupq s1 hs))
    rw [h1] at e
    cases e
    exact ⟨G1, .refl s2, Dp.same s1 h2⟩
theorem iter_list {e : Expr} {ds : List D} (he : Ev X ρ e (.list ds)) : Iter X ρ tg e ds := fun σ G H R E k =>
  wI_of (pi_list pe_w) (he σ G H _ E fun v G1 H1 f1 hv => by
    cases hv with
    | lst hs ha => exact ⟨_, rfl, ⟨_, f1.s.seq hs⟩, k _ G1 H1 f1 (yld_list hs ha)⟩)
theorem iter_tup {e : Expr} {ds : List D} (he : Ev X ρ e (.tuple ds)) : Iter X ρ tg e ds := fun σ G H R E k =>
  wI_of (pi_tup pe_w) (he σ G H _ E fun v G1 H1 f1 hv => by
    cases hv with
    | tup hs ha => exact ⟨_, rfl, ⟨_, Same.tupq f1.s hs⟩, k _ G1 H1 f1 (yld_tup hs ha)⟩)
def chD (c : Nat) : D := .str ⟨#[c]⟩
theorem iter_str {e : Expr} {z : Str} (he : Ev X ρ e (.str z)) : Iter X ρ tg e (z.cps.toList.map chD) := fun σ G H R E k =>
  wI_of (pi_str pe_w) (he σ G H _ E fun v G1 H1 f1 hv => by
    cases hv
    refine ⟨z, rfl, k _ G1 H1 f1 ⟨fun i H s hi => ?_, fun i H s hi => ?_, fun i G2 H x H' d s1 s2 hy hd => ?_⟩⟩
    · show i < z.cps.size; simpa using hi
    · show z.cps.size ≤ i; simpa using hi
    · obtain ⟨rfl, c, hc, rfl⟩ := hy
      rw [List.getElem?_map, Array.getElem?_toList, hc] at hd
      cases hd
      exact ⟨G2, .refl s2, .str _⟩)
theorem yld_range {K : PySem.W.Frag} {G : Hp} {lo : Int} {n : Nat} : Yld K (Itr lo n) G ((List.range n).map fun (i : Nat) => PyData.int (lo + (i : Nat))) where
  go := fun i H s hi => by show i < n; simpa using hi
  stop := fun i H s hi => by show n ≤ i; simpa using hi
  item := fun i G1 H x H' d s1 s2 hy hd => by
    obtain ⟨rfl, rfl⟩ := hy
    rw [List.getElem?_map] at hd
    cases q : (List.range n)[i]? with
    | none => rw [q] at hd; cases hd
    | some j =>
      rw [q] at hd
      have e : i = j := by
        obtain ⟨h1, h2⟩ := List.getElem?_eq_some_iff.mp q
        simpa using h2
      subst e
      cases hd
      exact ⟨G1, .refl s2, .int _⟩
def b62 (j : Int) : Prop := -(2 ^ 62) ≤ j ∧ j < 2 ^ 62
theorem iter_range1 {a : Expr} {p : Pos} {j : Int} (ha : Ev X ρ a (.int j)) (hj : b62 j) (hg : Gl X "range") (hm : X.mg "range" = none) (hs : starEach [a] X.env = (false, eval a X.env) :: starEach [] X.env := by rfl) :
    Iter X ρ tg (.Call (.Name "range" p) [a] [] pos) ((List.range j.toNat).map fun (i : Nat) => PyData.int (0 + (i : Nat))) := fun σ G H R E k =>
  wI_of (pi_range1 hg hm pa_w hs) (evs_cons ha evs_nil hs σ G H _ E fun vs G1 H1 f1 hv => by
    obtain ⟨v, rfl, hx⟩ := DpAll.one hv
    cases hx
    exact ⟨j, rfl, hj.1, hj.2, k _ G1 H1 f1 yld_range⟩)
theorem iter_range2 {a b : Expr} {p : Pos} {i j : Int} (ha : Ev X ρ a (.int i)) (hb : Ev X ρ b (.int j)) (hi : b62 i) (hj : b62 j) (hg : Gl X "range") (hm : X.mg "range" = none) (hs : starEach [a, b] X.env = (false, eval a X.env) :: starEach [b] X.env := by rfl) (hs2 : starEach [b] X.env = (false, eval b X.env) :: starEach [] X.env := by rfl) :
    Iter X ρ tg (.Call (.Name "range" p) [a, b] [] pos) ((List.range (j - i).toNat).map fun (n : Nat) => PyData.int (i + (n : Nat))) := fun σ G H R E k =>
  wI_of (pi_range2 hg hm pa_w (by rw [hs, hs2]; rfl) hs2) (evs_cons ha (evs_cons hb evs_nil hs2) hs σ G H _ E fun vs G1 H1 f1 hv => by
    obtain ⟨v, w, rfl, hx, hy⟩ := DpAll.two hv
    cases hx
    cases hy
    exact ⟨i, j, rfl, ⟨hi.1, hi.2, hj.1, hj.2⟩, k _ G1 H1 f1 yld_range⟩)
theorem yld_rangeC {K : PySem.W.Frag} {G : Hp} {lo c : Int} {n : Nat} : Yld K (Itc lo c n) G ((List.range n).map fun (i : Nat) => PyData.int (lo + (i : Nat) * c)) where
  go := fun i H s hi => by show i < n; simpa using hi
  stop := fun i H s hi => by show n ≤ i; simpa using hi
  item := fun i G1 H x H' d s1 s2 hy hd => by
    obtain ⟨rfl, rfl⟩ := hy
    rw [List.getElem?_map] at hd
    cases q : (List.range n)[i]? with
    | none => rw [q] at hd; cases hd
    | some j =>
      rw [q] at hd
      have e : i = j := by
        obtain ⟨h1, h2⟩ := List.getElem?_eq_some_iff.mp q
        simpa using h2
      subst e
      cases hd
      exact ⟨G1, .refl s2, .int _⟩
theorem iter_revrange1 {a : Expr} {p p2 pos2 : Pos} {j : Int} (ha : Ev X ρ a (.int j)) (hj : b62 j) (hg : Gl X "reversed") (hm : X.mg "reversed" = none) (hg2 : Gl X "range") (hm2 : X.mg "range" = none) (hs2 : starEach [a] X.env = (false, eval a X.env) :: starEach [] X.env := by rfl)
    (hs : starEach [.Call (.Name "range" p2) [a] [] pos2] X.env = (false, eval (.Call (.Name "range" p2) [a] [] pos2) X.env) :: starEach [] X.env := by rfl) :
    Iter X ρ tg (.Call (.Name "reversed" p) [.Call (.Name "range" p2) [a] [] pos2] [] pos) ((List.range j.toNat).map fun (i : Nat) => PyData.int (0 + (j - 0).toNat - 1 + (i : Nat) * -1)) := fun σ G H R E k =>
  wI_of (pi_revR hg hm (prg_1 hg2 hm2 pe_w hs2) hs) (ha σ G H _ E fun v G1 H1 f1 hx => by
    cases hx
    refine ⟨j, rfl, by decide, by decide, hj.1, hj.2, k _ G1 H1 f1 ?_⟩
    have e : (j - 0).toNat = j.toNat := by omega
    rw [e]
    exact yld_rangeC)
theorem iter_enumL {e : Expr} {ds : List D} {p tpos : Pos} {elts : List Expr} {kk : Nat} (he : Ev X ρ e (.list ds)) (hg : Gl X "enumerate") (hm : X.mg "enumerate" = none) (hs : starEach [e] X.env = (false, eval e X.env) :: starEach [] X.env := by rfl) :
    Iter X ρ (.Tuple elts kk tpos) (.Call (.Name "enumerate" p) [e] [] pos) (ds.zipIdx.map fun (q : D × Nat) => PyData.tuple [.int ((q.2 : Nat) : Int), q.1]) := fun σ G H R E k =>
  wI_of (pi_enum hg hm pa_w hs) (evs_cons he evs_nil hs σ G H _ E fun vs G1 H1 f1 hv => by
    obtain ⟨v, rfl, hx⟩ := DpAll.one hv
    cases hx with
    | lst hs ha =>
      refine ⟨_, _, rfl, f1.s.seq hs, k _ G1 H1 f1 ⟨fun i H s hi => ?_, fun i H s hi => ?_, fun i G2 H x H' d s1 s2 hy hd => ?_⟩⟩
      · obtain ⟨v, h1, _⟩ := DpAll.get ha (List.getElem?_eq_getElem (show i < ds.length by simpa using hi))
        exact ⟨_, v, s.seq hs, h1⟩
      · refine ⟨_, s.seq hs, ?_⟩
        rw [DpAll.length ha]
        simpa using hi
      · obtain ⟨T, x0, rfl, hT, rfl, hall⟩ := hy
        rw [List.getElem?_map, List.getElem?_zipIdx] at hd
        cases q : ds[i]? with
        | none => rw [q] at hd; cases hd
        | some d0 =>
          rw [q] at hd
          obtain ⟨v, h1, h2⟩ := DpAll.get ha q
          have e := hall _ (s2.seq (s1.seq hs))
          rw [h1] at e
          cases e
          simp only [Option.map_some, Nat.zero_add, Option.some.injEq] at hd
          subst hd
          exact ⟨_, Frm.new s2 hT, .tup (.inl (.inl upd_same)) (.cons (.int _) (.cons (Dp.same (s1.trans (same_upd (s2.free hT))) h2) .nil))⟩)
theorem iter_zipL {e e2 : Expr} {ds es : List D} {p tpos : Pos} {elts : List Expr} {kk : Nat} (he : Ev X ρ e (.list ds)) (he2 : Ev X ρ e2 (.list es)) (hg : Gl X "zip") (hm : X.mg "zip" = none) (hs : starEach [e, e2] X.env = (false, eval e X.env) :: starEach [e2] X.env := by rfl)
    (hs2 : starEach [e2] X.env = (false, eval e2 X.env) :: starEach [] X.env := by rfl) (hp : ((backTo pos (starEach [e2] X.env)).any (·.1)) = false := by rfl) :
    Iter X ρ (.Tuple elts kk tpos) (.Call (.Name "zip" p) [e, e2] [] pos) ((ds.zip es).map fun (q : D × D) => PyData.tuple [q.1, q.2]) := fun σ G H R E k =>
  wI_of (pi_zip hg hm pa_w hs hp) (evs_cons he (evs_cons he2 evs_nil hs2) hs σ G H _ E fun vs G1 H1 f1 hv => by
    obtain ⟨v, w, rfl, hx, hy⟩ := DpAll.two hv
    cases hx with
    | lst hs1 ha1 =>
      cases hy with
      | lst hs2 ha2 =>
        refine ⟨_, _, _, _, rfl, f1.s.seq hs1, f1.s.seq hs2, k _ G1 H1 f1 ⟨fun i H s hi => ?_, fun i H s hi => ?_, fun i G2 H x H' d s1 s2 hy hd => ?_⟩⟩
        · simp only [List.length_map, List.length_zip] at hi
          obtain ⟨v, h1, _⟩ := DpAll.get ha1 (List.getElem?_eq_getElem (show i < ds.length by omega))
          obtain ⟨v2, h2, _⟩ := DpAll.get ha2 (List.getElem?_eq_getElem (show i < es.length by omega))
          exact ⟨_, _, v, v2, s.seq hs1, s.seq hs2, h1, h2⟩
        · simp only [List.length_map, List.length_zip] at hi
          refine ⟨_, _, s.seq hs1, s.seq hs2, ?_⟩
          rw [DpAll.length ha1, DpAll.length ha2]
          omega
        · obtain ⟨T, x0, y0, rfl, hT, rfl, hall1, hall2⟩ := hy
          rw [List.getElem?_map] at hd
          cases q : (ds.zip es)[i]? with
          | none => rw [q] at hd; cases hd
          | some dd =>
            rw [q] at hd
            obtain ⟨d1, d2⟩ := dd
            obtain ⟨q1, q2⟩ := List.getElem?_zip_eq_some.mp q
            obtain ⟨v1, a1, b1⟩ := DpAll.get ha1 q1
            obtain ⟨v2, a2, b2⟩ := DpAll.get ha2 q2
            have e1 := hall1 _ (s2.seq (s1.seq hs1))
            have e2 := hall2 _ (s2.seq (s1.seq hs2))
            rw [a1] at e1
            rw [a2] at e2
            cases e1
            cases e2
            simp only [Option.map_some, Option.some.injEq] at hd
            subst hd
            have st := s1.trans (same_upd (o := .tup [x0, y0]) (s2.free hT))
            exact ⟨_, Frm.new s2 hT, .tup (.inl (.inl upd_same)) (.cons (Dp.same st b1) (.cons (Dp.same st b2) .nil))⟩)

/-! ## 8. targets -/
def KeepO (ρ : Envi) (σ : L2.St) (ρ' : Envi) (σ' : L2.St) : Prop := ∀ (i : Nat) (ds : List D), ρ'[i]? = some (.own ds) → ρ[i]? = some (.own ds) ∧ σ'[i]? = σ[i]?
theorem KeepO.refl {ρ : Envi} {σ : L2.St} : KeepO ρ σ ρ σ := fun _ _ h => ⟨h, rfl⟩
theorem KeepO.trans {ρ ρ1 ρ2 : Envi} {σ σ1 σ2 : L2.St} (a : KeepO ρ σ ρ1 σ1) (b : KeepO ρ1 σ1 ρ2 σ2) : KeepO ρ σ ρ2 σ2 := fun i ds h => by
  obtain ⟨h1, e1⟩ := b i ds h
  obtain ⟨h2, e2⟩ := a i ds h1
  exact ⟨h2, e1.trans e2⟩
theorem EnvR.set {K : PySem.W.Frag} {G H : Hp} {σ : L2.St} {ρ : Envi} (E : EnvR K G H σ ρ) {v : V} {d : D} (hv : Dp K G v d) (i : Nat) : EnvR K G H (σ.set i (some v)) (ρ.set i (.dat d)) := by
  by_cases hi : i < ρ.length
  · have hi' : i < σ.length := by rw [E.len]; exact hi
    refine ⟨E.s, by simp [E.len], fun j d' h => ?_, fun j ds h => ?_, fun j l ds es a h1 h2 h3 h4 => ?_, fun j φ h => ?_⟩
    · by_cases q : i = j
      · subst q
        rw [List.getElem?_set_self hi] at h
        cases h
        exact ⟨v, List.getElem?_set_self hi', hv⟩
      · rw [List.getElem?_set_ne q] at h ⊢
        exact E.dat j d' h
    · by_cases q : i = j
      · subst q
        rw [List.getElem?_set_self hi] at h
        cases h
      · rw [List.getElem?_set_ne q] at h ⊢
        exact E.own j ds h
    · by_cases q : i = j
      · subst q
        rw [List.getElem?_set_self hi] at h1
        cases h1
      · by_cases q2 : i = l
        · subst q2
          rw [List.getElem?_set_self hi] at h2
          cases h2
        · rw [List.getElem?_set_ne q] at h1 h3
          rw [List.getElem?_set_ne q2] at h2 h4
          exact E.inj j l ds es a h1 h2 h3 h4
    · by_cases q : i = j
      · subst q
        rw [List.getElem?_set_self hi] at h
        cases h
      · rw [List.getElem?_set_ne q] at h ⊢
        exact E.raw j φ h
  · rw [List.set_eq_of_length_le (l := σ) (by rw [E.len]; omega), List.set_eq_of_length_le (l := ρ) (by omega)]
    exact E
theorem KeepO.set {ρ : Envi} {σ : L2.St} {i : Nat} {v : Option V} {d : D} (hl : σ.length = ρ.length) : KeepO ρ σ (ρ.set i (.dat d)) (σ.set i v) := fun j ds h => by
  by_cases q : i = j
  · subst q
    by_cases hi : i < ρ.length
    · rw [List.getElem?_set_self hi] at h
      cases h
    · rw [List.set_eq_of_length_le (by omega)] at h
      rw [List.set_eq_of_length_le (by omega)]
      exact ⟨h, rfl⟩
  · rw [List.getElem?_set_ne q] at h ⊢
    exact ⟨h, rfl⟩
theorem wipe_set {σ : L2.St} {i : Nat} {v : Option V} : ∀ {vs : List Nat}, i ∈ vs → wipe (σ.set i v) vs = wipe σ vs
  | [], h => by simp at h
  | j :: vs, h => by
    unfold wipe
    by_cases q : i ∈ vs
    · rw [wipe_set q]
    · have e : i = j := by
        rcases List.mem_cons.mp h with e | e
        · exact e
        · exact absurd e q
      subst e
      have aux : ∀ ws : List Nat, i ∉ ws → wipe (σ.set i v) ws = (wipe σ ws).set i v := by
        intro ws
        induction ws with
        | nil => intro _; rfl
        | cons w ws ih =>
          intro hw
          simp only [List.mem_cons, not_or] at hw
          unfold wipe
          rw [ih hw.2, List.set_comm _ _ (fun e => hw.1 e)]
      rw [aux vs q, List.set_set]
/-- the target tg is given d: from ρ to ρ', the slots is alone -/
def Tg (X : Cx) (tg : Expr) (d : D) (ρ ρ' : Envi) (is : List Nat) : Prop := ∀ σ G H v Q, EnvR X.K G H σ ρ → Dp X.K G v d →
  (∀ σ', EnvR X.K G H σ' ρ' → (∀ vs : List Nat, (∀ i ∈ is, i ∈ vs) → wipe σ' vs = wipe σ vs) → KeepO ρ σ ρ' σ' → Q σ' H) → wG X tg v σ H Q
def Tgs (X : Cx) (tgs : List Expr) (ds : List D) (ρ ρ' : Envi) (is : List Nat) : Prop := ∀ σ G H vs Q, EnvR X.K G H σ ρ → DpAll X.K G vs ds →
  (∀ σ', EnvR X.K G H σ' ρ' → (∀ vs : List Nat, (∀ i ∈ is, i ∈ vs) → wipe σ' vs = wipe σ vs) → KeepO ρ σ ρ' σ' → Q σ' H) → wGs X tgs vs σ H Q
theorem tg_name {x : Str} {i : Nat} {d : D} (hN : X.N.Nodup) (hi : X.N[i]? = some x) (hx : Loc X.env.scope x) (hf : X.fn x = true ∨ X.env.scope.names.lookup x = some .local) : Tg X (.Name x pos) d ρ (ρ.set i (.dat d)) [i] := fun σ G H v Q E hv k =>
  wG_of (pg_name hN hi hx hf) (k _ (E.set hv i) (fun vs h => wipe_set (h i (by simp))) (KeepO.set E.len))
theorem tgs_nil : Tgs X [] [] ρ ρ [] := fun σ G H vs Q E hv k => by
  cases hv
  exact wGs_of pgs_nil ⟨rfl, k σ E (fun _ _ => rfl) .refl⟩
theorem tgs_cons {e : Expr} {es : List Expr} {d : D} {ds : List D} {ρ1 ρ2 : Envi} {i1 i2 : List Nat} (h1 : Tg X e d ρ ρ1 i1) (h2 : Tgs X es ds ρ1 ρ2 i2) (ha : (assignEach (e :: es) X.env).map (·.2) = assign e X.env :: (assignEach es X.env).map (·.2) := by rfl) :
    Tgs X (e :: es) (d :: ds) ρ ρ2 (i1 ++ i2) := fun σ G H vs Q E hv k => by
  cases hv with
  | cons a b =>
    refine wGs_of (pgs_cons pg_w pgs_w ha) ⟨_, _, rfl, h1 σ G H _ _ E a fun σ1 E1 w1 k1 => h2 σ1 G H _ _ E1 b fun σ2 E2 w2 k2 => k σ2 E2 (fun ws hw => ?_) (k1.trans k2)⟩
    rw [w2 ws fun i hi => hw i (by simp [hi]), w1 ws fun i hi => hw i (by simp [hi])]
theorem tg_tup {es : List Expr} {n : Nat} {ds : List D} {ρ' : Envi} {is : List Nat} (hc : X.calm = true) (h : Tgs X es ds ρ ρ' is) (hn : (assignEach es X.env).length = ds.length := by rfl) (hf : List.findIdx? (fun x => x.1) (assignEach es X.env) = none := by rfl) :
    Tg X (.Tuple es n pos) (.tuple ds) ρ ρ' is := fun σ G H v Q E hv k => by
  cases hv with
  | tup hs ha => exact wG_of (pg_tup hc pgs_w hn hf) ⟨_, _, rfl, Same.tupq E.s hs, DpAll.length ha, h σ G H _ _ E ha k⟩

/-! ## 9. list comprehensions -/
def wipeR (ρ : Envi) : List Nat → Envi
  | [] => ρ
  | v :: vs => (wipeR ρ vs).set v .un
theorem EnvR.un {K : PySem.W.Frag} {G H : Hp} {σ : L2.St} {ρ : Envi} (E : EnvR K G H σ ρ) (i : Nat) (v : Option V) : EnvR K G H (σ.set i v) (ρ.set i .un) := by
  have key : ∀ (j : Nat) (s : SV), s ≠ .un → (ρ.set i .un)[j]? = some s → i ≠ j ∧ ρ[j]? = some s := fun j s hs h => by
    by_cases q : i = j
    · subst q
      by_cases hi : i < ρ.length
      · rw [List.getElem?_set_self hi] at h
        cases h
        exact absurd rfl hs
      · rw [List.getElem?_eq_none (by simp; omega)] at h
        cases h
    · rw [List.getElem?_set_ne q] at h
      exact ⟨q, h⟩
  refine ⟨E.s, by simp [E.len], fun j d h => ?_, fun j ds h => ?_, fun j l ds es a h1 h2 h3 h4 => ?_, fun j φ h => ?_⟩
  · obtain ⟨q, h⟩ := key j _ (by intro z; cases z) h
    rw [List.getElem?_set_ne q]
    exact E.dat j d h
  · obtain ⟨q, h⟩ := key j _ (by intro z; cases z) h
    rw [List.getElem?_set_ne q]
    exact E.own j ds h
  · obtain ⟨q, h1⟩ := key j _ (by intro z; cases z) h1
    obtain ⟨q2, h2⟩ := key l _ (by intro z; cases z) h2
    rw [List.getElem?_set_ne q] at h3
    rw [List.getElem?_set_ne q2] at h4
    exact E.inj j l ds es a h1 h2 h3 h4
  · obtain ⟨q, h⟩ := key j _ (by intro z; cases z) h
    rw [List.getElem?_set_ne q]
    exact E.raw j φ h
theorem EnvR.wipe {K : PySem.W.Frag} {G H : Hp} {σ : L2.St} {ρ : Envi} (E : EnvR K G H σ ρ) : ∀ vs : List Nat, EnvR K G H (L2.wipe σ vs) (wipeR ρ vs)
  | [] => E
  | v :: vs => (EnvR.wipe E vs).un v _
/-- in each block of the comprehension -/
abbrev Blk (X : Cx) (scope : Scope) (φ : Cx → Prop) : Prop := ∀ (s : Shared) (H : Hp) (C : Addr) (cl : List (Str × Addr)) (fp : List Addr), φ (X.blk s H scope (compEnvC scope cl C X.env) fp)
def wTs (X : Cx) (ifs : List Expr) : TT := fun σ H Q => ∃ t, PTs X ifs t ∧ t σ H Q
theorem pts_w {ifs : List Expr} : PTs X ifs (wTs X ifs) := ⟨fun pins s σ H Q I ⟨_, h, q⟩ => h.run pins s σ H Q I q⟩
def Tsts (X : Cx) (ρ : Envi) (ifs : List Expr) (b : Bool) : Prop := ∀ σ G H Q, EnvR X.K G H σ ρ → (∀ G' H', Frm G H G' H' → Q b H') → wTs X ifs σ H Q
theorem tsts_nil : Tsts X ρ [] true := fun σ G H Q E k => ⟨_, pts_nil, k G H (.refl E.s)⟩
theorem tsts_one {c : Expr} {b : Bool} (h : Tst X ρ c b) : Tsts X ρ [c] b := fun σ G H Q E k => ⟨_, pts_one pt_w, h σ G H Q E k⟩

theorem lc_core {α : Type} {items : List α} {g : α → D} {c : α → Bool} {f : α → D} {elt it : Expr} {ifs : List Expr} {scope : Scope} {vs : List Nat} {is : α → List Nat} (hi : Iter X ρ tg it (items.map g))
    (el : ∀ x, x ∈ items → ∃ ρ1, Blk X scope (fun Y => Tg Y tg (g x) (wipeR ρ vs) ρ1 (is x)) ∧ (∀ i ∈ is x, i ∈ vs) ∧ Blk X scope (fun Y => Tsts Y ρ1 ifs (c x)) ∧ (c x = true → Blk X scope fun Y => Ev Y ρ1 elt (f x)))
    (hlen : items.length ≤ sizeLine) {σ : L2.St} {G H : Hp} {Q : VK} (E : EnvR X.K G H σ ρ)
    (k : ∀ a ws G' H', Frm G H G' H' → H' a = some (.lst ws) → G' a = none → H a = none → DpAll X.K G' ws ((items.filter c).map f) → Q (.ref a) H') :
    tLc (wI X tg it) (fun v σ H Q => Blk X scope fun Y => wG Y tg v σ H Q) (fun σ H Q => Blk X scope fun Y => wTs Y ifs σ H Q) (fun σ H Q => Blk X scope fun Y => wE Y elt σ H Q) vs σ H Q := by
  refine hi σ G H _ E fun J G1 H1 f1 hJ D hD => ?_
  have hDH : H D = none := f1.h.free hD
  have hG1 : G1 D = none := f1.s.free hD
  refine ⟨fun i m Hi => m = items.length - i ∧ i ≤ items.length ∧ ∃ Gi acc, Frm G H Gi Hi ∧ Same G1 Gi ∧ Gi D = none ∧ Hi D = some (.lst acc) ∧ DpAll X.K Gi acc (((items.take i).filter c).map f),
    ⟨_, rfl, Nat.zero_le _, G1, [], f1.trans (Frm.priv f1.s hD), Same.refl _, hG1, upd_same, by simp; exact .nil⟩, ?_⟩
  rintro i m Hi ⟨rfl, hle, Gi, acc, fi, si, gD, hD', hacc⟩
  by_cases hlt : i < items.length
  · refine .inr ⟨hJ.go i Hi (si.trans fi.s) (by simpa using hlt), fun H' => i + 1 ≤ items.length ∧ ∃ Gi acc, Frm G H Gi H' ∧ Same G1 Gi ∧ Gi D = none ∧ H' D = some (.lst acc) ∧ DpAll X.K Gi acc (((items.take (i + 1)).filter c).map f),
      fun H' ⟨a, b⟩ => ⟨items.length - (i + 1), by omega, rfl, a, b⟩, fun x H' hy => ?_⟩
    have hx : items[i]? = some items[i] := List.getElem?_eq_getElem hlt
    obtain ⟨G', f', hv⟩ := hJ.item i Gi Hi x H' (g items[i]) si fi.s hy (by rw [List.getElem?_map, hx]; rfl)
    obtain ⟨ρ1, h1, h2, h3, h4⟩ := el items[i] (List.getElem_mem hlt)
    have etake : items.take (i + 1) = items.take i ++ [items[i]] := by rw [List.take_add_one, hx]; rfl
    have E' : EnvR X.K G' H' σ ρ := (E.frm fi).frm f'
    intro s H0 C cl fp
    refine h1 s H0 C cl fp _ G' H' x _ (E'.wipe vs) hv fun σ2 E2 w2 _ => ⟨?_, ?_⟩
    · have e := w2 vs h2
      have idem : ∀ (us : List Nat), (∀ u ∈ us, u ∈ vs) → L2.wipe (L2.wipe σ vs) us = L2.wipe σ vs := by
        intro us
        induction us with
        | nil => intro _; rfl
        | cons u us ih =>
          intro hu
          unfold L2.wipe
          rw [ih fun z hz => hu z (by simp [hz])]
          have hm : u ∈ vs := hu u (by simp)
          have : ∀ ws : List Nat, u ∈ ws → (L2.wipe σ ws).set u none = L2.wipe σ ws := by
            intro ws
            induction ws with
            | nil => intro h; simp at h
            | cons w ws ih2 =>
              intro h
              unfold L2.wipe
              by_cases q : u = w
              · subst q; rw [List.set_set]
              · rw [List.set_comm _ _ (fun e => q e.symm), ih2 (by rcases List.mem_cons.mp h with z | z; exact absurd z q; exact z)]
          have e3 := this vs hm
          cases vs with
          | nil => simp at hm
          | cons v vs => exact e3
      rw [e, idem vs fun u h => h]
    · intro s H0 C cl fp
      refine h3 s H0 C cl fp σ2 G' H' _ E2 fun G3 H3 f3 => ?_
      cases hc : c items[i] with
      | false =>
        rw [if_neg (by decide)]
        refine ⟨hlt, G3, acc, fi.trans (f'.trans f3), si.trans (f'.g.trans f3.g), ?_, f3.h _ _ (f'.h _ _ hD'), ?_⟩
        · rw [f3.n D _ (f'.h _ _ hD'), f'.n D _ hD']
          exact gD
        · rw [etake, List.filter_append, List.filter_cons_of_neg (by rw [hc]; decide), List.filter_nil, List.append_nil]
          exact DpAll.same (f'.g.trans f3.g) hacc
      | true =>
        rw [if_pos rfl]
        intro s H0 C cl fp
        refine h4 hc s H0 C cl fp σ2 G3 H3 _ (E2.frm f3) fun y G4 H4 f4 hy4 => ?_
        have hD4 : H4 D = some (.lst acc) := f4.h _ _ (f3.h _ _ (f'.h _ _ hD'))
        have gD4 : G4 D = none := by
          rw [f4.n D _ (f3.h _ _ (f'.h _ _ hD')), f3.n D _ (f'.h _ _ hD'), f'.n D _ hD']
          exact gD
        have fa : Frm G H G4 H4 := fi.trans (f'.trans (f3.trans f4))
        have hz : acc.length ≤ i := by
          rw [DpAll.length hacc, List.length_map]
          exact Nat.le_trans (List.length_filter_le _ _) (by rw [List.length_take]; exact Nat.min_le_left _ _)
        refine ⟨acc, hD4, by omega, hlt, G4, acc ++ [y], ⟨fa.g, fun b o e => ?_, fun b o e => ?_, fa.n⟩, si.trans (f'.g.trans (f3.g.trans f4.g)), gD4, upd_same, ?_⟩
        · rw [upd_ne (ne_of_none e hDH)]
          exact fa.h _ _ e
        · rw [upd_ne (ne_of_none e gD4)]
          exact fa.s _ _ e
        · rw [etake, List.filter_append, List.filter_cons_of_pos hc, List.filter_nil, List.map_append]
          exact DpAll.append (DpAll.same (f'.g.trans (f3.g.trans f4.g)) hacc) (.cons hy4 .nil)
  · have e : i = items.length := by omega
    subst e
    refine .inl ⟨hJ.stop _ Hi (si.trans fi.s) (by simp), k D acc Gi Hi fi hD' gD hDH ?_⟩
    rw [List.take_length] at hacc
    exact hacc
theorem evl_lc {α : Type} {items : List α} {g : α → D} {c : α → Bool} {f : α → D} {elt it : Expr} {ifs : List Expr} {scope : Scope} {own : List (Str × Nat)} {is : α → List Nat} (hc : X.calm = true) (hN : X.N.Nodup) (ok : BlkOk X.N X.env.scope scope own) (hi : Iter X ρ tg it (items.map g))
    (el : ∀ x, x ∈ items → ∃ ρ1, Blk X scope (fun Y => Tg Y tg (g x) (wipeR ρ (own.map (·.2))) ρ1 (is x)) ∧ (∀ i ∈ is x, i ∈ own.map (·.2)) ∧ Blk X scope (fun Y => Tsts Y ρ1 ifs (c x)) ∧ (c x = true → Blk X scope fun Y => Ev Y ρ1 elt (f x)))
    (hlen : items.length ≤ sizeLine) (hs : ∀ x, foldedSetIterable it X.env x = pure x := by intro _; rfl) :
    EvL X ρ (.ListComp elt [⟨tg, it, ifs, 0⟩] scope pos) ((items.filter c).map f) := fun σ G H Q E k => by
  refine wE_of (pe_lc (g := fun v σ H Q => Blk X scope fun Y => wG Y tg v σ H Q) (tt := fun σ H Q => Blk X scope fun Y => wTs Y ifs σ H Q) (te := fun σ H Q => Blk X scope fun Y => wE Y elt σ H Q) hc hN pi_w ok ?_ ?_ ?_ hs) (lc_core hi el hlen E k)
  · exact fun s H C cl fp => ⟨fun pins s' σ H' v u Q I r h => pg_w.run pins s' σ H' v u Q I r (h s H C cl fp)⟩
  · exact fun s H C cl fp => ⟨fun pins s' σ H' Q I h => pts_w.run pins s' σ H' Q I (h s H C cl fp)⟩
  · exact fun s H C cl fp => ⟨fun pins s' σ H' Q I h => pe_w.run pins s' σ H' Q I (h s H C cl fp)⟩
end
end DL

namespace DL
open PySem PySem.Spec PyProof.Rows L2

/-! ## 10. statements -/
inductive Out where
  | nx (ρ : Envi)
  | rt (d : D)
  | bk (ρ : Envi)
  | ct (ρ : Envi)
  | xx (ρ : Envi) (R : Addr) (what : Str)
structure SR (K : PySem.W.Frag) (G0 H0 : Hp) (ρ : Envi) (G H : Hp) (σ : L2.St) : Prop where
  env : EnvR K G H σ ρ
  frm : Frm G0 H0 G H
  new : ∀ (i : Nat) (ds : List D) (a : Addr), ρ[i]? = some (.own ds) → σ[i]? = some (some (.ref a)) → H0 a = none
structure Post (X : Cx) (G0 H0 : Hp) (D : Ends) (O : Out → Prop) : Prop where
  nx : ∀ ρ σ G H, O (.nx ρ) → SR X.K G0 H0 ρ G H σ → D.nx σ H
  rt : ∀ d v G H, O (.rt d) → Frm G0 H0 G H → Dp X.K G v d → D.rt v H
  bk : ∀ ρ σ G H, O (.bk ρ) → SR X.K G0 H0 ρ G H σ → D.bk σ H
  ct : ∀ ρ σ G H, O (.ct ρ) → SR X.K G0 H0 ρ G H σ → D.ct σ H
  xx : ∃ W : WX, Takes X W ∧ ∀ ρ R what σ G H dx, O (.xx ρ R what) → SR X.K G0 H0 ρ G H σ → G dx = some (.xd [("what", .str what)]) → W (.ref R) (some dx) σ H
theorem Post.xxOf {X : Cx} {G0 H0 G1 H1 : Hp} {D : Ends} {O O' : Out → Prop} (P : Post X G0 H0 D O) (h : ∀ ρ R what, O' (.xx ρ R what) → O (.xx ρ R what)) (g : ∀ ρ σ G H, SR X.K G1 H1 ρ G H σ → SR X.K G0 H0 ρ G H σ) :
    ∃ W : WX, Takes X W ∧ ∀ ρ R what σ G H dx, O' (.xx ρ R what) → SR X.K G1 H1 ρ G H σ → G dx = some (.xd [("what", .str what)]) → W (.ref R) (some dx) σ H := by
  obtain ⟨W, t, k⟩ := P.xx
  exact ⟨W, t, fun ρ R what σ G H dx o S e => k ρ R what σ G H dx (h ρ R what o) (g ρ σ G H S) e⟩
theorem xx_never {X : Cx} {G0 H0 : Hp} {O : Out → Prop} (h : ∀ ρ R what, ¬ O (.xx ρ R what)) :
    ∃ W : WX, Takes X W ∧ ∀ ρ R what σ G H dx, O (.xx ρ R what) → SR X.K G0 H0 ρ G H σ → G dx = some (.xd [("what", .str what)]) → W (.ref R) (some dx) σ H :=
  ⟨fun _ _ _ _ => False, fun u s' ⟨_, _, _, _, _, _, _, _, _, _, _, _, _, _, _, _, w⟩ => w.elim, fun ρ R what _ _ _ _ o => (h ρ R what o).elim⟩
def wK (X : Cx) : List (List Stmt) → TS
  | [] => fun D σ H => D.nx σ H
  | ss :: st => fun D σ H => wB X ss { D with nx := wK X st D } σ H
/-- the blocks of st, one behind the other, from ρ on: what comes is among O -/
def Bks (X : Cx) (ρ : Envi) (st : List (List Stmt)) (O : Out → Prop) : Prop := ∀ G0 H0 G H σ D, SR X.K G0 H0 ρ G H σ → Post X G0 H0 D O → wK X st D σ H
/-- a statement that goes on, from ρ to ρ' -/
def Sm (X : Cx) (ρ : Envi) (s : Stmt) (ρ' : Envi) : Prop := ∀ G0 H0 G H σ D, SR X.K G0 H0 ρ G H σ → (∀ G' H' σ', SR X.K G0 H0 ρ' G' H' σ' → Ends.nx D σ' H') → wS X s D σ H
theorem SR.go {K : PySem.W.Frag} {G0 H0 G H G' H' : Hp} {ρ : Envi} {σ : L2.St} (S : SR K G0 H0 ρ G H σ) (f : Frm G H G' H') : SR K G0 H0 ρ G' H' σ := ⟨S.env.frm f, S.frm.trans f, S.new⟩
theorem SR.tg {K : PySem.W.Frag} {G0 H0 G H : Hp} {ρ ρ' : Envi} {σ σ' : L2.St} (S : SR K G0 H0 ρ G H σ) (E : EnvR K G H σ' ρ') (k : KeepO ρ σ ρ' σ') : SR K G0 H0 ρ' G H σ' :=
  ⟨E, S.frm, fun i ds a h1 h2 => by
    obtain ⟨h3, e⟩ := k i ds h1
    exact S.new i ds a h3 (e ▸ h2)⟩
section
variable {X : Cx} {ρ ρ' : Envi} {pos : Pos} {s : Stmt} {ss : List Stmt} {st : List (List Stmt)} {O : Out → Prop}
theorem bk_end (h : O (.nx ρ)) : Bks X ρ [] O := fun G0 H0 G H σ D S P => P.nx ρ σ G H h S
theorem bk_nil (h : Bks X ρ st O) : Bks X ρ ([] :: st) O := fun G0 H0 G H σ D S P => wB_of pss_nil (h G0 H0 G H σ D S P)
theorem bk_step (h1 : Sm X ρ s ρ') (h2 : Bks X ρ' (ss :: st) O) : Bks X ρ ((s :: ss) :: st) O := fun G0 H0 G H σ D S P =>
  wB_of (pss_cons ps_w pss_w) (h1 G0 H0 G H σ _ S fun G' H' σ' S' => h2 G0 H0 G' H' σ' D S' P)
theorem bk_if {c : Expr} {a b : List Stmt} {p : Bool} (hc : Tst X ρ c p) (h1 : p = true → Bks X ρ (a :: ss :: st) O) (h2 : p = false → Bks X ρ (b :: ss :: st) O) : Bks X ρ ((.If c a b pos :: ss) :: st) O := fun G0 H0 G H σ D S P =>
  wB_of (pss_cons (ps_if pt_w pss_w pss_w) pss_w) (hc σ G H _ S.env fun G1 H1 f1 => by
    cases p with
    | true =>
      rw [if_pos rfl]
      exact h1 rfl G0 H0 G1 H1 σ D (S.go f1) P
    | false =>
      rw [if_neg (by decide)]
      exact h2 rfl G0 H0 G1 H1 σ D (S.go f1) P)
theorem bk_ret {e : Expr} {d : D} (he : Ev X ρ e d) (h : O (.rt d)) : Bks X ρ ((.Return (some e) pos :: ss) :: st) O := fun G0 H0 G H σ D S P =>
  wB_of (pss_cons (ps_ret pe_w) pss_w) (he σ G H _ S.env fun v G1 H1 f1 hv => P.rt d v G1 H1 h (S.frm.trans f1) hv)
theorem bk_retN (h : O (.rt .none)) : Bks X ρ ((.Return none pos :: ss) :: st) O := fun G0 H0 G H σ D S P =>
  wB_of (pss_cons ps_retN pss_w) (P.rt .none .non G H h S.frm .non)
theorem bk_break (h : O (.bk ρ)) : Bks X ρ ((.Break pos :: ss) :: st) O := fun G0 H0 G H σ D S P => wB_of (pss_cons ps_break pss_w) (P.bk ρ σ G H h S)
theorem bk_cont (h : O (.ct ρ)) : Bks X ρ ((.Continue pos :: ss) :: st) O := fun G0 H0 G H σ D S P => wB_of (pss_cons ps_continue pss_w) (P.ct ρ σ G H h S)
/-- code that is not come to -/
theorem bk_false (h : False) : Bks X ρ st O := h.elim
theorem Bks.imp {O' : Out → Prop} (h : Bks X ρ st O') (k : ∀ o, O' o → O o) : Bks X ρ st O := fun G0 H0 G H σ D S P =>
  h G0 H0 G H σ D S ⟨fun _ _ _ _ o => P.nx _ _ _ _ (k _ o), fun _ _ _ _ o => P.rt _ _ _ _ (k _ o), fun _ _ _ _ o => P.bk _ _ _ _ (k _ o), fun _ _ _ _ o => P.ct _ _ _ _ (k _ o), P.xxOf (fun _ _ _ o => k _ o) fun _ _ _ _ S => S⟩

/-! ### small statements -/
theorem sm_pass : Sm X ρ (.Pass pos) ρ := fun G0 H0 G H σ D S k => wS_of ps_pass (k G H σ S)
theorem sm_doc {x j pos'} : Sm X ρ (.Expr (.Constant (.str x) j pos') pos) ρ := fun G0 H0 G H σ D S k => wS_of ps_doc (k G H σ S)
theorem sm_expr {e : Expr} {d : D} (he : Ev X ρ e d) (hs : swapsWith e none pos.line X.env = pure false := by rfl) : Sm X ρ (.Expr e pos) ρ := fun G0 H0 G H σ D S k =>
  wS_of (ps_expr pe_w hs) (he σ G H _ S.env fun v G1 H1 f1 _ => k G1 H1 σ (S.go f1))
theorem sm_set {i : Nat} {x : Str} {e : Expr} {pos' : Pos} {d : D} (he : Ev X ρ e d) (hN : X.N.Nodup) (hi : X.N[i]? = some x) (hx : Loc X.env.scope x)
    (hs : swapsWith e (some (.Name x pos')) pos.line X.env = pure false) (hf : X.fn x = true ∨ X.env.scope.names.lookup x = some .local) : Sm X ρ (.Assign [.Name x pos'] e pos) (ρ.set i (.dat d)) := fun G0 H0 G H σ D S k =>
  wS_of (ps_set hN hi hx pe_w hs hf) (he σ G H _ S.env fun v G1 H1 f1 hv => k G1 H1 _ ((S.go f1).tg ((S.env.frm f1).set hv i) (KeepO.set S.env.len)))
theorem EnvR.setOwn {K : PySem.W.Frag} {G H G' H' : Hp} {σ : L2.St} {ρ : Envi} (E : EnvR K G H σ ρ) (f : Frm G H G' H') {a : Addr} {vs : List V} {ds : List D} (h1 : H' a = some (.lst vs)) (h2 : G' a = none) (h3 : H a = none) (h4 : DpAll K G' vs ds) {i : Nat} (hi : i < ρ.length) :
    EnvR K G' H' (σ.set i (some (.ref a))) (ρ.set i (.own ds)) := by
  have E' := E.frm f
  have hi' : i < σ.length := by rw [E.len]; exact hi
  have no : ∀ (j : Nat) (es : List D), ρ[j]? = some (.own es) → σ[j]? ≠ some (some (.ref a)) := fun j es hj e => by
    obtain ⟨b, ws, q1, q2, _⟩ := E.own j es hj
    rw [q1] at e
    cases e
    rw [h3] at q2
    cases q2
  refine ⟨f.s, by simp [E.len], fun j d h => ?_, fun j es h => ?_, fun j l es fs b q1 q2 q3 q4 => ?_, fun j φ h => ?_⟩
  · by_cases q : i = j
    · subst q
      rw [List.getElem?_set_self hi] at h
      cases h
    · rw [List.getElem?_set_ne q] at h ⊢
      exact E'.dat j d h
  · by_cases q : i = j
    · subst q
      rw [List.getElem?_set_self hi] at h
      cases h
      exact ⟨a, vs, List.getElem?_set_self hi', h1, h2, h4⟩
    · rw [List.getElem?_set_ne q] at h ⊢
      exact E'.own j es h
  · by_cases z1 : i = j
    · subst z1
      by_cases z2 : i = l
      · exact z2
      · rw [List.getElem?_set_self hi'] at q3
        rw [List.getElem?_set_ne z2] at q2 q4
        cases q3
        exact absurd q4 (no l fs q2)
    · rw [List.getElem?_set_ne z1] at q1 q3
      by_cases z2 : i = l
      · subst z2
        rw [List.getElem?_set_self hi'] at q4
        cases q4
        exact absurd q3 (no j es q1)
      · rw [List.getElem?_set_ne z2] at q2 q4
        exact E.inj j l es fs b q1 q2 q3 q4
  · by_cases q : i = j
    · subst q
      rw [List.getElem?_set_self hi] at h
      cases h
    · rw [List.getElem?_set_ne q] at h ⊢
      exact E'.raw j φ h
/-- name = a fresh list, kept as one's own -/
theorem sm_own {i : Nat} {x : Str} {e : Expr} {pos' : Pos} {ds : List D} (he : EvL X ρ e ds) (hN : X.N.Nodup) (hi : X.N[i]? = some x) (hx : Loc X.env.scope x) (hl : i < ρ.length)
    (hs : swapsWith e (some (.Name x pos')) pos.line X.env = pure false) (hf : X.fn x = true ∨ X.env.scope.names.lookup x = some .local) : Sm X ρ (.Assign [.Name x pos'] e pos) (ρ.set i (.own ds)) := fun G0 H0 G H σ D S k =>
  wS_of (ps_set hN hi hx pe_w hs hf) (he σ G H _ S.env fun a vs G1 H1 f1 h1 h2 h3 h4 => k G1 H1 _ ⟨S.env.setOwn f1 h1 h2 h3 h4 hl, S.frm.trans f1, fun j es b q1 q2 => by
    have hl' : i < σ.length := by rw [S.env.len]; exact hl
    by_cases z : i = j
    · subst z
      rw [List.getElem?_set_self hl'] at q2
      cases q2
      exact S.frm.h.free h3
    · rw [List.getElem?_set_ne z] at q1 q2
      exact S.new j es b q1 q2⟩)
theorem sm_asg {tg e : Expr} {d : D} {is : List Nat} (he : Ev X ρ e d) (ht : Tg X tg d ρ ρ' is) (hs : swapsWithSole [tg] e pos.line X.env = pure false := by rfl) (hw : swappedStores [tg] e X.env = pure none := by rfl) (ha : List.map (fun x => x.2) (assignEach [tg] X.env) = [assign tg X.env] := by rfl) :
    Sm X ρ (.Assign [tg] e pos) ρ' := fun G0 H0 G H σ D S k =>
  wS_of (ps_asg pe_w pg_w hs hw ha) (he σ G H _ S.env fun v G1 H1 f1 hv => ht σ G1 H1 v _ (S.env.frm f1) hv fun σ' E' _ ko => k G1 H1 σ' ((S.go f1).tg E' ko))
/-- a, b = x, y with plain local names -/
theorem sm_par {i j : Nat} {x y : Str} {a b : Expr} {px py pt : Pos} {kt k2 : Nat} {pt2 : Pos} {d1 d2 : D} (ha : Ev X ρ a d1) (hb : Ev X ρ b d2) (hc : X.calm = true) (hN : X.N.Nodup) (hi : X.N[i]? = some x) (hj : X.N[j]? = some y) (hij : i ≠ j)
    (hx : X.env.scope.names.lookup x = some .local) (hy : X.env.scope.names.lookup y = some .local) (hs1 : starEach [a, b] X.env = (false, eval a X.env) :: starEach [b] X.env) (hs2 : starEach [b] X.env = (false, eval b X.env) :: starEach [] X.env)
    (hw : swappedStores [.Tuple [.Name x px, .Name y py] kt pt] (.Tuple [a, b] k2 pt2) X.env = pure (some [x, y])) (hs : swapsWithSole [.Tuple [.Name x px, .Name y py] kt pt] (.Tuple [a, b] k2 pt2) pos.line X.env = pure false) :
    Sm X ρ (.Assign [.Tuple [.Name x px, .Name y py] kt pt] (.Tuple [a, b] k2 pt2) pos) ((ρ.set i (.dat d1)).set j (.dat d2)) := fun G0 H0 G H σ D S k =>
  wS_of (ps_par hc hN hi hj hij hx hy pa_w hw hs) (evs_cons ha (evs_cons hb evs_nil hs2) hs1 σ G H _ S.env fun vs G1 H1 f1 hv => by
    obtain ⟨v, w, rfl, h1, h2⟩ := DpAll.two hv
    have S1 := (S.go f1).tg ((S.env.frm f1).set h1 i) (KeepO.set S.env.len)
    exact ⟨v, w, rfl, k G1 H1 _ (S1.tg (S1.env.set h2 j) (KeepO.set S1.env.len))⟩)
theorem sm_aug {i : Nat} {x : Str} {e : Expr} {op : Operator} {pos' : Pos} {d0 d1 d : D} (h0 : ρ[i]? = some (.dat d0)) (he : Ev X ρ e d1) (F : IpD X op d0 d1 d) (hN : X.N.Nodup) (hi : X.N[i]? = some x) (hx : Loc X.env.scope x)
    (hf : X.fn x = true ∨ X.env.scope.names.lookup x = some .local) : Sm X ρ (.AugAssign (.Name x pos') op e pos) (ρ.set i (.dat d)) := fun G0 H0 G H σ D S k => by
  obtain ⟨r, hr, F⟩ := F
  obtain ⟨v0, e0, hv0⟩ := S.env.dat i d0 h0
  exact wS_of (ps_aug (ti := r) hN hi hx pe_w hr hf) ⟨v0, e0, he σ G H _ S.env fun v G1 H1 f1 hv => F v0 v G1 H1 _ f1.s (Dp.same f1.g hv0) hv fun z G2 H2 f2 hz =>
    k G2 H2 _ (((S.go f1).go f2).tg (((S.env.frm f1).frm f2).set hz i) (KeepO.set S.env.len))⟩

/-! ### lists of one's own -/
theorem EnvR.upd {K : PySem.W.Frag} {G H : Hp} {σ : L2.St} {ρ : Envi} (E : EnvR K G H σ ρ) {i : Nat} {ds es : List D} {a : Addr} {ws : List V} (hi : ρ[i]? = some (.own ds)) (ha : σ[i]? = some (some (.ref a))) (hG : G a = none) (hw : DpAll K G ws es) :
    EnvR K G (L2.upd H a (.lst ws)) σ (ρ.set i (.own es)) := by
  obtain ⟨hl, _⟩ := List.getElem?_eq_some_iff.mp hi
  have key : ∀ (j : Nat) (s : SV), (ρ.set i (.own es))[j]? = some s → (i = j ∧ s = .own es) ∨ (i ≠ j ∧ ρ[j]? = some s) := fun j s h => by
    by_cases q : i = j
    · subst q
      rw [List.getElem?_set_self hl] at h
      cases h
      exact .inl ⟨rfl, rfl⟩
    · rw [List.getElem?_set_ne q] at h
      exact .inr ⟨q, h⟩
  refine ⟨fun b o e => ?_, by simp [E.len], fun j d h => ?_, fun j fs h => ?_, fun j l fs gs b q1 q2 q3 q4 => ?_, fun j φ h => ?_⟩
  · rw [upd_ne (ne_of_none e hG)]
    exact E.s _ _ e
  · rcases key j _ h with ⟨_, z⟩ | ⟨_, h⟩
    · cases z
    · exact E.dat j d h
  · rcases key j _ h with ⟨q, z⟩ | ⟨q, h⟩
    · cases z
      subst q
      exact ⟨a, ws, ha, upd_same, hG, hw⟩
    · obtain ⟨b, vs, h1, h2, h3, h4⟩ := E.own j fs h
      refine ⟨b, vs, h1, ?_, h3, h4⟩
      rw [upd_ne]
      · exact h2
      · rintro rfl
        exact q (E.inj i j ds fs b hi h ha h1)
  · rcases key j _ q1 with ⟨z1, _⟩ | ⟨z1, q1'⟩
    · subst z1
      rcases key l _ q2 with ⟨z2, _⟩ | ⟨z2, q2'⟩
      · exact z2
      · exact E.inj i l ds gs b hi q2' q3 q4
    · rcases key l _ q2 with ⟨z2, _⟩ | ⟨z2, q2'⟩
      · subst z2
        exact E.inj j i fs ds b q1' hi q3 q4
      · exact E.inj j l fs gs b q1' q2' q3 q4
  · rcases key j _ h with ⟨_, z⟩ | ⟨_, h⟩
    · cases z
    · exact E.raw j φ h
theorem SR.upd {K : PySem.W.Frag} {G0 H0 G H : Hp} {σ : L2.St} {ρ : Envi} (S : SR K G0 H0 ρ G H σ) {i : Nat} {ds es : List D} {a : Addr} {ws : List V} (hi : ρ[i]? = some (.own ds)) (ha : σ[i]? = some (some (.ref a))) (hG : G a = none) (hw : DpAll K G ws es) :
    SR K G0 H0 (ρ.set i (.own es)) G (L2.upd H a (.lst ws)) σ := by
  obtain ⟨hl, _⟩ := List.getElem?_eq_some_iff.mp hi
  have hn : H0 a = none := S.new i ds a hi ha
  have E := S.env.upd hi ha hG hw
  refine ⟨E, ⟨S.frm.g, fun b o e => ?_, E.s, S.frm.n⟩, fun j fs b h1 h2 => ?_⟩
  · rw [upd_ne (ne_of_none e hn)]
    exact S.frm.h _ _ e
  · by_cases q : i = j
    · subst q
      rw [ha] at h2
      cases h2
      exact hn
    · rw [List.getElem?_set_ne q] at h1
      exact S.new j fs b h1 h2
/-- x.append(e) -/
theorem sm_append {i : Nat} {x : Str} {e : Expr} {px apos cpos : Pos} {ds : List D} {d : D} (h0 : ρ[i]? = some (.own ds)) (he : Ev X ρ e d) (hz : ds.length < sizeLine) (hN : X.N[i]? = some x) (hv : Vis X.env.scope x)
    (h2 : ((((backTo cpos (starEach [e] X.env)).all fun x => !x.1) && (backToKw cpos (keywordEach [] X.env)).all fun x => x.1.isSome) && decide (([e] : List Expr).length + ([] : List Keyword).length + (if ([] : List Keyword).isEmpty = true then 0 else 1) < 30)) = true := by rfl)
    (hb : attributeBase (.Name x px) "append" X.env (eval (.Name x px) X.env) = eval (.Name x px) X.env := by rfl)
    (hl : (apos.endLine == cpos.line) = true := by rfl) (hs : starEach [e] X.env = (false, eval e X.env) :: starEach [] X.env := by rfl) (h5 : ((backTo cpos (starEach [] X.env)).any fun x => x.1) = false := by rfl)
    (hsw : swapsWith (.Call (.Attribute (.Name x px) "append" apos) [e] [] cpos) none pos.line X.env = pure false := by rfl) (hd : (x == ("__debug__" : Str)) = false := by decide) (hcd : (x == ("__classdict__" : Str)) = false := by decide) :
    Sm X ρ (.Expr (.Call (.Attribute (.Name x px) "append" apos) [e] [] cpos) pos) (ρ.set i (.own (ds ++ [d]))) := fun G0 H0 G H σ D S k => by
  obtain ⟨a, vs, q1, q2, q3, q4⟩ := S.env.own i ds h0
  refine wS_of (ps_expr pe_w hsw) (wE_of (pe_bm PySem.F.plainAttrs_list PySem.F.slot_list_append PySem.F.type_list_append mt_append (pe_var hN hv hd hcd) pa_w hb h2 hl hs h5) ?_)
  refine ⟨.ref a, q1, .inl ⟨rfl, vs, .inl (.inl q2)⟩, ?_⟩
  refine evs_cons he evs_nil hs σ G H _ S.env fun us G1 H1 f1 hu => ?_
  obtain ⟨u, rfl, hu1⟩ := DpAll.one hu
  have g1 : G1 a = none := (f1.n a _ q2).trans q3
  refine ⟨a, vs, u, rfl, rfl, f1.h _ _ q2, by rw [DpAll.length q4]; exact hz, ?_⟩
  exact k G1 _ σ ((S.go f1).upd h0 q1 g1 (DpAll.append (DpAll.same f1.g q4) (.cons hu1 .nil)))
/-- from now on x is data -/
theorem bk_freeze {i : Nat} {ds : List D} (h0 : ρ[i]? = some (.own ds)) (h : Bks X (ρ.set i (.dat (.list ds))) st O) : Bks X ρ st O := fun G0 H0 G H σ D S P => by
  obtain ⟨a, vs, q1, q2, q3, q4⟩ := S.env.own i ds h0
  obtain ⟨hl, _⟩ := List.getElem?_eq_some_iff.mp h0
  have hn : H0 a = none := S.new i ds a h0 q1
  have sg : Same G (L2.upd G a (.lst vs)) := same_upd q3
  have sh : Same (L2.upd G a (.lst vs)) H := fun b o e => by
    by_cases q : b = a
    · subst q; rw [upd_same] at e; cases e; exact q2
    · rw [upd_ne q] at e; exact S.env.s _ _ e
  have key : ∀ (j : Nat) (es : List DL.D), (ρ.set i (.dat (.list ds)))[j]? = some (.own es) → i ≠ j ∧ ρ[j]? = some (.own es) := fun j es e => by
    by_cases q : i = j
    · subst q
      rw [List.getElem?_set_self hl] at e
      cases e
    · rw [List.getElem?_set_ne q] at e
      exact ⟨q, e⟩
  refine h G0 H0 (L2.upd G a (.lst vs)) H σ D ⟨⟨sh, by simp [S.env.len], fun j d e => ?_, fun j es e => ?_, fun j l es fs b z1 z2 z3 z4 => ?_, fun j φ e => ?_⟩, ⟨S.frm.g.trans sg, S.frm.h, sh, fun b o e => ?_⟩, fun j es b z1 z2 => S.new j es b (key j es z1).2 z2⟩ P
  · by_cases q : i = j
    · subst q
      rw [List.getElem?_set_self hl] at e
      cases e
      exact ⟨.ref a, q1, .lst (.inl (.inl upd_same)) (DpAll.same sg q4)⟩
    · rw [List.getElem?_set_ne q] at e
      obtain ⟨v, e1, e2⟩ := S.env.dat j d e
      exact ⟨v, e1, Dp.same sg e2⟩
  · obtain ⟨q, e⟩ := key j es e
    obtain ⟨b, ws, e1, e2, e3, e4⟩ := S.env.own j es e
    refine ⟨b, ws, e1, e2, ?_, DpAll.same sg e4⟩
    rw [upd_ne]
    · exact e3
    · rintro rfl
      exact q (S.env.inj i j ds es b h0 e q1 e1)
  · exact S.env.inj j l es fs b (key j es z1).2 (key l fs z2).2 z3 z4
  · have e' : ρ[j]? = some (.raw φ) := by
      by_cases q : i = j
      · subst q
        rw [List.getElem?_set_self hl] at e
        cases e
      · rw [List.getElem?_set_ne q] at e
        exact e
    obtain ⟨m, v, e1, e2⟩ := S.env.raw j φ e'
    exact ⟨m, v, e1, m _ _ v sg e2⟩
  · rw [upd_ne (ne_of_none e hn)]
    exact S.frm.n b o e

/-! ### borrowing: one's own lists are read, the answer holds no list -/
mutual
def noList : D → Bool
  | .list _ => false
  | .dict _ => false
  | .tuple ds => noLists ds
  | _ => true
def noLists : List D → Bool
  | [] => true
  | d :: ds => noList d && noLists ds
end
def thaw1 : SV → SV
  | .own ds => .dat (.list ds)
  | s => s
def thaw (ρ : Envi) : Envi := ρ.map thaw1
mutual
theorem noList_dp {K : PySem.W.Frag} {G G' : Hp} (s : ∀ a xs, SqT K G a xs → SqT K G' a xs) : ∀ {d : D} {v : V}, noList d = true → Dp K G v d → Dp K G' v d
  | .none, _, _, h => by cases h; exact .non
  | .bool b, _, _, h => by cases h; exact .bl b
  | .int i, _, _, h => by cases h; exact .int i
  | .str z, _, _, h => by cases h; exact .str z
  | .list ds, _, n, h => by simp [noList] at n
  | .tuple ds, _, n, h => by
    cases h with
    | tup hs ha => exact .tup (s _ _ hs) (noList_dps s (by simpa [noList] using n) ha)
  | .dict _, _, _, h => nomatch h
theorem noList_dps {K : PySem.W.Frag} {G G' : Hp} (s : ∀ a xs, SqT K G a xs → SqT K G' a xs) : ∀ {ds : List D} {vs : List V}, noLists ds = true → DpAll K G vs ds → DpAll K G' vs ds
  | [], _, _, h => by cases h; exact .nil
  | d :: ds, _, n, h => by
    simp only [noLists, Bool.and_eq_true] at n
    cases h with
    | cons a b => exact .cons (noList_dp s n.1 a) (noList_dps s n.2 b)
end
open Classical in
/-- the data with one's own lists among them -/
noncomputable def lent (ρ : Envi) (σ : L2.St) (G H : Hp) : Hp := fun a => if G a = none ∧ (∃ (i : Nat) (ds : List D), ρ[i]? = some (.own ds) ∧ σ[i]? = some (some (.ref a))) then H a else G a
theorem lent_same {K : PySem.W.Frag} {G H : Hp} {σ : L2.St} {ρ : Envi} (E : EnvR K G H σ ρ) : Same G (lent ρ σ G H) := fun a o e => by
  unfold lent
  rw [if_neg (fun h => by rw [h.1] at e; cases e)]
  exact e
theorem lent_sub {K : PySem.W.Frag} {G H : Hp} {σ : L2.St} {ρ : Envi} (E : EnvR K G H σ ρ) : Same (lent ρ σ G H) H := fun a o e => by
  unfold lent at e
  split at e
  · exact e
  · exact E.s _ _ e
theorem lent_env {K : PySem.W.Frag} {G H : Hp} {σ : L2.St} {ρ : Envi} (E : EnvR K G H σ ρ) : EnvR K (lent ρ σ G H) H σ (thaw ρ) := by
  have sg := lent_same E
  have no : ∀ (j : Nat) (es : List D), ¬ (thaw ρ)[j]? = some (.own es) := fun j es h => by
    unfold thaw at h
    rw [List.getElem?_map] at h
    cases q : ρ[j]? with
    | none => rw [q] at h; cases h
    | some s =>
      rw [q] at h
      cases s <;> simp [thaw1] at h
  refine ⟨lent_sub E, by simp [thaw, E.len], fun j d h => ?_, fun j es h => absurd h (no j es), fun j l es fs a h1 => absurd h1 (no j es), fun j φ h => ?_⟩
  rotate_left
  · unfold thaw at h
    rw [List.getElem?_map] at h
    cases q : ρ[j]? with
    | none => rw [q] at h; cases h
    | some s =>
      rw [q] at h
      cases s with
      | un => simp [thaw1] at h
      | dat d0 => simp [thaw1] at h
      | own ds => simp [thaw1] at h
      | raw ψ =>
        simp only [thaw1, Option.map_some, Option.some.injEq, SV.raw.injEq] at h
        subst h
        obtain ⟨m, v, e1, e2⟩ := E.raw j _ q
        exact ⟨m, v, e1, m _ _ v sg e2⟩
  unfold thaw at h
  rw [List.getElem?_map] at h
  cases q : ρ[j]? with
  | none => rw [q] at h; cases h
  | some s =>
    rw [q] at h
    cases s with
    | un => simp [thaw1] at h
    | raw φ => simp [thaw1] at h
    | dat d0 =>
      simp only [thaw1, Option.map_some, Option.some.injEq, SV.dat.injEq] at h
      subst h
      obtain ⟨v, e1, e2⟩ := E.dat j _ q
      exact ⟨v, e1, Dp.same sg e2⟩
    | own ds =>
      simp only [thaw1, Option.map_some, Option.some.injEq, SV.dat.injEq] at h
      subst h
      obtain ⟨a, vs, e1, e2, e3, e4⟩ := E.own j _ q
      refine ⟨.ref a, e1, .lst (.inl (.inl ?_)) (DpAll.same sg e4)⟩
      unfold lent
      rw [if_pos ⟨e3, j, ds, q, e1⟩]
      exact e2
open Classical in
theorem unlend {K : PySem.W.Frag} {G H G1 H1 : Hp} {σ : L2.St} {ρ : Envi} (E : EnvR K G H σ ρ) (f : Frm (lent ρ σ G H) H G1 H1) : ∃ G2, Frm G H G2 H1 ∧ ∀ a xs, SqT K G1 a xs → SqT K G2 a xs := by
  have sG := lent_same E
  refine ⟨fun a => if (H a).isSome then G a else G1 a, ⟨fun a o e => ?_, f.h, fun a o e => ?_, fun a o e => ?_⟩, fun a xs h => ?_⟩
  · show (if (H a).isSome then G a else G1 a) = some o
    rw [if_pos (by rw [E.s _ _ e]; rfl)]
    exact e
  · have e : (if (H a).isSome then G a else G1 a) = some o := e
    split at e
    · exact f.h _ _ (E.s _ _ e)
    · exact f.s _ _ e
  · show (if (H a).isSome then G a else G1 a) = G a
    rw [if_pos (by rw [e]; rfl)]
  · have key : ∀ u, G1 a = some u → (∀ ys, u ≠ .lst ys) → (if (H a).isSome then G a else G1 a) = some u := fun u e hu => by
      cases q : H a with
      | none => rw [if_neg (by simp)]; exact e
      | some w =>
        rw [if_pos (by simp)]
        rw [f.n a w q] at e
        unfold lent at e
        split at e
        · rename_i hc
          obtain ⟨_, i, ds, h1, h2⟩ := hc
          obtain ⟨b, vs, e1, e2, _⟩ := E.own i ds h1
          rw [h2] at e1
          cases e1
          rw [e2] at e
          exact absurd (Option.some.inj e).symm (hu vs)
        · exact e
    rcases h with (h | ⟨o, h⟩) | h
    · exact .inl (.inl (key _ h (fun ys z => by cases z)))
    · exact .inl (.inr ⟨o, key _ h (fun ys z => by cases z)⟩)
    · exact .inr h
theorem ev_borrow {e : Expr} {d : D} (h : Ev X (thaw ρ) e d) (n : noList d = true) : Ev X ρ e d := fun σ G H Q E k =>
  h σ (lent ρ σ G H) H Q (lent_env E) fun v G1 H1 f1 hv => by
    obtain ⟨G2, f2, s2⟩ := unlend E f1
    exact k v G2 H1 f2 (noList_dp s2 n hv)
theorem tst_borrow {e : Expr} {b : Bool} (h : Tst X (thaw ρ) e b) : Tst X ρ e b := fun σ G H Q E k =>
  h σ (lent ρ σ G H) H Q (lent_env E) fun G1 H1 f1 => by
    obtain ⟨G2, f2, _⟩ := unlend E f1
    exact k G2 H1 f2
/-- an item of one's own list -/
theorem ev_ixOwn {x : Str} {px : Pos} {i : Nat} {b : Expr} {ds : List D} {d : D} {n : Int} (h0 : ρ[i]? = some (.own ds)) (hb : Ev X ρ b (.int n)) (hat : L2.atI ds n = some d) (hN : X.N[i]? = some x) (hv : Vis X.env.scope x) (hp : PlainIx b)
    (hd : (x == ("__debug__" : Str)) = false := by decide) (hcd : (x == ("__classdict__" : Str)) = false := by decide) : Ev X ρ (.Subscript (.Name x px) b pos) d := fun σ G H Q E k => by
  obtain ⟨a, vs, q1, q2, q3, q4⟩ := E.own i ds h0
  refine wE_of (pe_ix ix_list (pe_var hN hv hd hcd) pe_w hp) ⟨.ref a, q1, hb σ G H _ E fun y G1 H1 f1 hy => ?_⟩
  cases hy
  obtain ⟨v, h1, h2⟩ := DpAll.atI q4 hat
  exact ⟨a, vs, n, v, rfl, rfl, .inl (.inl (f1.h _ _ q2)), h1, k v G1 H1 f1 (Dp.same f1.g h2)⟩

/-! ### loops -/
theorem SR.rebase {K : PySem.W.Frag} {G0 H0 G H : Hp} {σ : L2.St} (S : SR K G0 H0 ρ G H σ) : SR K G H0 ρ G H σ := ⟨S.env, ⟨Same.refl _, S.frm.h, S.frm.s, fun _ _ _ => rfl⟩, S.new⟩
theorem Frm.base {G0 H0 G H G' H' : Hp} (f : Frm G0 H0 G H) (g : Frm G H0 G' H') : Frm G0 H0 G' H' := ⟨f.g.trans g.g, g.h, g.s, fun a o e => (g.n a o e).trans (f.n a o e)⟩
theorem SR.unbase {K : PySem.W.Frag} {G0 H0 G H G' H' : Hp} {σ : L2.St} (f : Frm G0 H0 G H) (S : SR K G H0 ρ G' H' σ) : SR K G0 H0 ρ G' H' σ := ⟨S.env, f.base S.frm, S.new⟩
theorem bk_for {tg it : Expr} {bd : List Stmt} {ds : List D} (P : Nat → Envi → Prop) (B : Envi → Prop) (hi : Iter X ρ tg it ds) (h0 : P 0 ρ)
    (body : ∀ i ρi d, ds[i]? = some d → P i ρi → ∃ ρ1 is, Tg X tg d ρi ρ1 is ∧ Bks X ρ1 [bd] (fun o => match o with | .nx r => P (i + 1) r | .ct r => P (i + 1) r | .bk r => B r | .rt v => O (.rt v) | .xx r a t => O (.xx r a t)))
    (after : ∀ r, P ds.length r ∨ B r → Bks X r (ss :: st) O) (hc : X.calm = true) (hp : PassesOwn (model X.prog X.w) X.A X.env X.xe) (hs : ∀ x, foldedSetIterable it X.env x = pure x := by intro _; rfl) :
    Bks X ρ ((.For tg it bd [] pos :: ss) :: st) O := fun G0 H0 G H σ D S Po => by
  refine wB_of (pss_cons (ps_for hp hc pi_w pg_w pss_w hs) pss_w) (hi σ G H _ S.env fun J G1 H1 f1 hJ => ?_)
  refine ⟨fun i m σ' H' => m = ds.length - i ∧ i ≤ ds.length ∧ ∃ r G', P i r ∧ SR X.K G0 H0 r G' H' σ' ∧ Same G1 G', ⟨_, rfl, Nat.zero_le _, ρ, G1, h0, S.go f1, Same.refl _⟩, ?_⟩
  rintro i m σ2 H2 ⟨rfl, hle, r, G2, hP, S2, s2⟩
  by_cases hlt : i < ds.length
  · refine .inr ⟨hJ.go i H2 (s2.trans S2.env.s) hlt, fun σ' H' => ∃ r' G', P (i + 1) r' ∧ SR X.K G0 H0 r' G' H' σ' ∧ Same G1 G', fun σ' H' ⟨r', G', a, b, c⟩ => ⟨ds.length - (i + 1), by omega, rfl, hlt, r', G', a, b, c⟩, fun x H3 hy => ?_⟩
    obtain ⟨G3, f3, hv⟩ := hJ.item i G2 H2 x H3 ds[i] s2 S2.env.s hy (List.getElem?_eq_getElem hlt)
    obtain ⟨ρ1, is, ht, hb⟩ := body i r ds[i] (List.getElem?_eq_getElem hlt) hP
    refine ht σ2 G3 H3 x _ (S2.env.frm f3) hv fun σ4 E4 _ ko => ?_
    have S4 : SR X.K G0 H0 ρ1 G3 H3 σ4 := (S2.go f3).tg E4 ko
    have sg : Same G1 G3 := s2.trans f3.g
    have fin : ∀ {r' σ5 G5 H5}, SR X.K G3 H0 r' G5 H5 σ5 → SR X.K G0 H0 r' G5 H5 σ5 ∧ Same G1 G5 := fun S5 => ⟨SR.unbase S4.frm S5, sg.trans S5.frm.g⟩
    refine hb G3 H0 G3 H3 σ4 { nx := fun σ' H' => ∃ r' G', P (i + 1) r' ∧ SR X.K G0 H0 r' G' H' σ' ∧ Same G1 G', ct := fun σ' H' => ∃ r' G', P (i + 1) r' ∧ SR X.K G0 H0 r' G' H' σ' ∧ Same G1 G', rt := D.rt, bk := wK X (ss :: st) D } S4.rebase ⟨fun r' σ5 G5 H5 o S5 => ?_, fun d v G5 H5 o f5 hv5 => ?_, fun r' σ5 G5 H5 o S5 => ?_, fun r' σ5 G5 H5 o S5 => ?_, Po.xxOf (fun _ _ _ o => o) fun _ _ _ _ S5 => (fin S5).1⟩
    · exact ⟨r', G5, o, (fin S5).1, (fin S5).2⟩
    · exact Po.rt d v G5 H5 o (S4.frm.base f5) hv5
    · exact after r' (.inr o) G0 H0 G5 H5 σ5 D (fin S5).1 Po
    · exact ⟨r', G5, o, (fin S5).1, (fin S5).2⟩
  · have e : i = ds.length := by omega
    subst e
    exact .inl ⟨hJ.stop _ H2 (s2.trans S2.env.s) (Nat.le_refl _), after r (.inl hP) G0 H0 G2 H2 σ2 D S2 Po⟩
theorem bk_while {c : Expr} {bd : List Stmt} (P : Nat → Envi → Prop) (B : Envi → Prop) {m0 : Nat} (h0 : P m0 ρ)
    (step : ∀ m r, P m r → ∃ b, Tst X r c b ∧ (b = true → Bks X r [bd] (fun o => match o with | .nx r' => ∃ m', m' < m ∧ P m' r' | .ct r' => ∃ m', m' < m ∧ P m' r' | .bk r' => B r' | .rt v => O (.rt v) | .xx r a t => O (.xx r a t))) ∧ (b = false → Bks X r (ss :: st) O))
    (after : ∀ r, B r → Bks X r (ss :: st) O) (hp : PassesOwn (model X.prog X.w) X.A X.env X.xe) : Bks X ρ ((.While c bd [] pos :: ss) :: st) O := fun G0 H0 G H σ D S Po => by
  refine wB_of (pss_cons (ps_while hp pt_w pss_w) pss_w) ?_
  refine ⟨fun m σ' H' => ∃ r G', P m r ∧ SR X.K G0 H0 r G' H' σ', ⟨m0, ρ, G, h0, S⟩, ?_⟩
  rintro m σ2 H2 ⟨r, G2, hP, S2⟩
  obtain ⟨b, hb, h1, h2⟩ := step m r hP
  refine hb σ2 G2 H2 _ S2.env fun G3 H3 f3 => ?_
  have S3 := S2.go f3
  cases b with
  | false =>
    rw [if_neg (by decide)]
    exact h2 rfl G0 H0 G3 H3 σ2 D S3 Po
  | true =>
    rw [if_pos rfl]
    refine ⟨fun σ' H' => ∃ m', m' < m ∧ ∃ r' G', P m' r' ∧ SR X.K G0 H0 r' G' H' σ', fun σ' H' ⟨m', l, r', G', a, b⟩ => ⟨m', l, r', G', a, b⟩, ?_⟩
    refine h1 rfl G0 H0 G3 H3 σ2 { nx := fun σ' H' => ∃ m', m' < m ∧ ∃ r' G', P m' r' ∧ SR X.K G0 H0 r' G' H' σ', ct := fun σ' H' => ∃ m', m' < m ∧ ∃ r' G', P m' r' ∧ SR X.K G0 H0 r' G' H' σ', rt := D.rt, bk := wK X (ss :: st) D } S3 ⟨fun r' σ5 G5 H5 o S5 => ?_, fun d v G5 H5 o f5 hv5 => Po.rt d v G5 H5 o f5 hv5, fun r' σ5 G5 H5 o S5 => after r' o G0 H0 G5 H5 σ5 D S5 Po, fun r' σ5 G5 H5 o S5 => ?_, Po.xxOf (fun _ _ _ o => o) fun _ _ _ _ S5 => S5⟩
    · obtain ⟨m', l, q⟩ := o
      exact ⟨m', l, r', G5, q, S5⟩
    · obtain ⟨m', l, q⟩ := o
      exact ⟨m', l, r', G5, q, S5⟩
/-- name = [..] on one line -/
theorem sm_setLc {α : Type} {items : List α} {g : α → D} {c : α → Bool} {f : α → D} {tg elt it : Expr} {ifs : List Expr} {scope : Scope} {own : List (Str × Nat)} {is : α → List Nat} {i : Nat} {y : Str} {py lpos : Pos} (hc : X.calm = true) (hN : X.N.Nodup) (hy : X.N[i]? = some y) (hyl : X.env.scope.names.lookup y = some .local)
    (hsw : swapsWith (.ListComp elt [⟨tg, it, ifs, 0⟩] scope lpos) (some (.Name y py)) pos.line X.env = pure true) (ok : BlkOk X.N X.env.scope scope own) (hi : Iter X ρ tg it (items.map g))
    (el : ∀ x, x ∈ items → ∃ ρ1, Blk X scope (fun Y => Tg Y tg (g x) (wipeR ρ (own.map (·.2))) ρ1 (is x)) ∧ (∀ i ∈ is x, i ∈ own.map (·.2)) ∧ Blk X scope (fun Y => Tsts Y ρ1 ifs (c x)) ∧ (c x = true → Blk X scope fun Y => Ev Y ρ1 elt (f x)))
    (hlen : items.length ≤ sizeLine) (hl : i < ρ.length) (hs : ∀ x, foldedSetIterable it X.env x = pure x := by intro _; rfl) :
    Sm X ρ (.Assign [.Name y py] (.ListComp elt [⟨tg, it, ifs, 0⟩] scope lpos) pos) (ρ.set i (.own ((items.filter c).map f))) := fun G0 H0 G H σ D S k => by
  refine wS_of (ps_setLc (g := fun v σ H Q => Blk X scope fun Y => wG Y tg v σ H Q) (tt := fun σ H Q => Blk X scope fun Y => wTs Y ifs σ H Q) (te := fun σ H Q => Blk X scope fun Y => wE Y elt σ H Q) hc hN hy hyl hsw pi_w ok ?_ ?_ ?_ hs)
    (lc_core hi el hlen S.env fun a vs G1 H1 f1 h1 h2 h3 h4 => k G1 H1 _ ⟨S.env.setOwn f1 h1 h2 h3 h4 hl, S.frm.trans f1, fun j es b q1 q2 => ?_⟩)
  · exact fun s H C cl fp => ⟨fun pins s' σ H' v u Q I r h => pg_w.run pins s' σ H' v u Q I r (h s H C cl fp)⟩
  · exact fun s H C cl fp => ⟨fun pins s' σ H' Q I h => pts_w.run pins s' σ H' Q I (h s H C cl fp)⟩
  · exact fun s H C cl fp => ⟨fun pins s' σ H' Q I h => pe_w.run pins s' σ H' Q I (h s H C cl fp)⟩
  · have hl' : i < σ.length := by rw [S.env.len]; exact hl
    by_cases z : i = j
    · subst z
      rw [List.getElem?_set_self hl'] at q2
      cases q2
      exact S.frm.h.free h3
    · rw [List.getElem?_set_ne z] at q1 q2
      exact S.new j es b q1 q2
end

/-! ## 11. a def -/
def env0 (N : List Str) (ds : List D) : Envi := ds.map .dat ++ List.replicate (N.length - ds.length) .un
/-- hands back d -/
def Rets (d : D) : Out → Prop
  | .rt v => v = d
  | .nx _ => d = .none
  | _ => False
theorem env0_ok {K : PySem.W.Frag} {G H : Hp} {N : List Str} {vs : List V} {ds : List D} (s : Same G H) (h : DpAll K G vs ds) : SR K G H (env0 N ds) G H (L2.start N vs) := by
  have hl := DpAll.length h
  have key : ∀ (i : Nat) (x : SV), (env0 N ds)[i]? = some x → x = .un ∨ ∃ d, x = .dat d ∧ ds[i]? = some d := fun i x e => by
    unfold env0 at e
    by_cases hi : i < ds.length
    · rw [List.getElem?_append_left (by simpa using hi), List.getElem?_map, List.getElem?_eq_getElem hi] at e
      cases e
      exact .inr ⟨_, rfl, List.getElem?_eq_getElem hi⟩
    · rw [List.getElem?_append_right (by simpa using hi)] at e
      have := List.mem_of_getElem? e
      exact .inl (List.eq_of_mem_replicate this)
  refine ⟨⟨s, by simp [env0, L2.start, hl], fun i d e => ?_, fun i es e => ?_, fun i j es fs a e => ?_, fun i φ e => ?_⟩, .refl s, fun i es a e => ?_⟩
  · rcases key i _ e with z | ⟨d', z, q⟩
    · cases z
    · cases z
      obtain ⟨v, h1, h2⟩ := DpAll.get h q
      refine ⟨v, ?_, h2⟩
      unfold L2.start
      obtain ⟨hi, _⟩ := List.getElem?_eq_some_iff.mp h1
      rw [List.getElem?_append_left (by simpa using hi), List.getElem?_map, h1]
      rfl
  · rcases key i _ e with z | ⟨d', z, q⟩ <;> cases z
  · rcases key i _ e with z | ⟨d', z, q⟩ <;> cases z
  · rcases key i _ e with z | ⟨d', z, q⟩ <;> cases z
  · rcases key i _ e with z | ⟨d', z, q⟩ <;> cases z
section
variable {P : Program} {w : World} {K : PySem.W.Frag} {mg : Str → Option Value} {base : Heap}
/-- the context of a def's body -/
abbrev bodyX (P : Program) (w : World) (K : PySem.W.Frag) (mg : Str → Option Value) (base : Heap) (N : List Str) (x : Str) (st : Stmt) (f : Addr) (cdv : Value) (A : Around) (outer : List Env) (s : Shared) (H : Hp) (E : XK) : Cx :=
  (cxOf CX0 P w K mg base N x (defScope st) f cdv A outer s H E).nox
theorem fnok_of {x : Str} {st : Stmt} {f : Addr} {fd : FuncData} {N ps : List Str} {k : Nat} {ds : List D} {d : D} (F : Fun K x x st f fd) (S : FnScope N ps (defScope st)) (hl : ds.length = ps.length)
    (body : ∀ (cdv : Value) (A : Around) (outer : List Env) (s : Shared) (H : Hp) (E : XK), Room k (bodyX P w K mg base N x st f cdv A outer s H E).A → Bks (bodyX P w K mg base N x st f cdv A outer s H E) (env0 N ds) [defBody st] (Rets d)) :
    FnOk P w K mg base CX0 (k + 1) f fd ps (spOne K ds d) := by
  refine F.ok S (fun vs H Q E ⟨G, s, h, _⟩ => by rw [DpAll.length h, hl]) fun cdv A outer s H vs Q E hr ⟨G, sm, hv, kq⟩ => ⟨wB _ (defBody st), pss_w, ?_⟩
  refine body cdv A outer s H E hr G H G H (L2.start N vs) { nx := fun _ H' => Q .non H', rt := Q } (env0_ok sm hv) ⟨fun ρ σ G1 H1 o S1 => ?_, fun d' v G1 H1 o f1 hv1 => ?_, fun _ _ _ _ o _ => o.elim, fun _ _ _ _ o _ => o.elim, xx_never fun _ _ _ o => o.elim⟩
  · have e : d = .none := o
    subst e
    exact kq .non G1 H1 S1.frm .non
  · have e : d' = d := o
    subst e
    exact kq v G1 H1 f1 hv1
theorem dfn_of {x : Str} {st : Stmt} {f : Addr} {fd : FuncData} {N ps : List Str} {k : Nat} {ds : List D} {d : D} (F : Fun K x x st f fd) (b : Binds K fd ps []) (g : mg x = some (.ref f)) (S : FnScope N ps (defScope st)) (hl : ds.length = ps.length)
    (body : ∀ (cdv : Value) (A : Around) (outer : List Env) (s : Shared) (H : Hp) (E : XK), Room k (bodyX P w K mg base N x st f cdv A outer s H E).A → Bks (bodyX P w K mg base N x st f cdv A outer s H E) (env0 N ds) [defBody st] (Rets d)) :
    Dfn P w K mg base x ps (k + 1) ds d := ⟨f, fd, g, F.kp, b, fnok_of F S hl body⟩
end
end DL

namespace DL
open PySem PySem.Spec PyProof.Rows L2

/-! ## 12. texts by their signs -/
abbrev S (l : List Nat) : Str := ⟨l.toArray⟩
theorem S_eta (x : Str) : S x.cps.toList = x := by cases x; simp [S]
theorem S_app (a b : List Nat) : (S a ++ S b : Str) = S (a ++ b) := by
  show (⟨a.toArray ++ b.toArray⟩ : Str) = ⟨(a ++ b).toArray⟩
  simp
theorem S_len (a : List Nat) : (S a).length = a.length := by
  show a.toArray.size = a.length
  simp
theorem S_inj {a b : List Nat} : S a = S b ↔ a = b := by
  constructor
  · intro h
    have := congrArg (fun x : Str => x.cps.toList) h
    simpa using this
  · intro h; rw [h]
theorem S_list (a : List Nat) : (S a).cps.toList = a := by simp [S]
theorem lit0 : (("0" : Str)) = S [48] := rfl
theorem lit1 : (("1" : Str)) = S [49] := rfl
theorem litE : (("" : Str)) = S [] := rfl

section
variable {X : Cx} {ρ : Envi} {pos : Pos}
/-! ## 13. a text times a number -/
theorem foldl_rep (l : Array Nat) : ∀ (n : Nat) (acc : Array Nat), (List.replicate n l).foldl (· ++ ·) acc = acc ++ (List.replicate n l.toList).flatten.toArray
  | 0, acc => by simp
  | n + 1, acc => by
    rw [List.replicate_succ, List.foldl_cons, foldl_rep l n, List.replicate_succ, List.flatten_cons]
    apply Array.ext'
    simp
def repL (l : List Nat) (n : Int) : List Nat := (List.replicate n.toNat l).flatten
theorem length_repL (l : List Nat) (n : Int) : (repL l n).length = n.toNat * l.length := by
  unfold repL; simp
theorem repL_one (c : Nat) (n : Int) : repL [c] n = List.replicate n.toNat c := by
  unfold repL; simp
/-- what a product with a text comes to, its token told -/
theorem mulS_run {M : Program} {w : World} {A : Around} {E : Value → Shared → Prop} {s : Shared} {l : List Nat} {n : Int} {t u : Tok} {Q : Value → Shared → Prop} (h1 : -(2 ^ 63) ≤ n) (h2 : n < 2 ^ 63) (h3 : l.length * n.toNat ≤ sizeLine)
    (h : ∀ tk k, (2 ≤ n → l ≠ [] → tk = s.toks ∧ k = s.toks + 1) → Q (.str (S (repL l n)) tk) { s with toks := k }) : wpAny (model M w) A (binaryOp .Mult (.str (S l) t) (.int n u)) Q E s := by
  have hs : (sizeLine : Nat) = 16777216 := by decide
  refine PySem.P.mul_str ?_ (fun hn hb => ?_) (fun hn hb => ?_) ?_
  · rw [decide_eq_false (by omega), decide_eq_false (by omega)]; rfl
  · rw [S_len]
    rw [S_len] at hb
    simp only [Bool.or_eq_false_iff, beq_eq_false_iff_ne] at hb
    intro hgt
    have hn1 : 0 < n := by omega
    have : (2 ^ 63 - 1 : Int) < (l.length : Int) * n := by
      have := (Int.ediv_lt_iff_lt_mul hn1).mp hgt
      omega
    have e : (l.length : Int) * n = ((l.length * n.toNat : Nat) : Int) := by
      rw [Int.natCast_mul, Int.toNat_of_nonneg (by omega)]
    rw [e] at this
    omega
  · rw [S_len]
    unfold Builtin.Str.tooLong
    exact decide_eq_false (by omega)
  · have el : (S l).cps = l.toArray := rfl
    by_cases hn : n < 1
    · rw [if_pos hn]
      have e : Str.empty = S (repL l n) := by
        have : n.toNat = 0 := by omega
        unfold repL
        rw [this]; rfl
      refine ⟨by decide, ?_⟩
      rw [e]
      exact h _ _ (fun h2 => by omega)
    · rw [if_neg hn]
      by_cases hb : (n == 1 || (S l).length == 0) = true
      · rw [if_pos hb]
        have e : S l = S (repL l n) := by
          rw [S_len] at hb
          simp only [Bool.or_eq_true, beq_iff_eq] at hb
          rcases hb with e | e
          · subst e
            show S l = S ((List.replicate 1 l).flatten)
            simp
          · have : l = [] := List.eq_nil_of_length_eq_zero e
            subst this
            show S [] = S ((List.replicate n.toNat ([] : List Nat)).flatten)
            simp
        have hq := h t s.toks (fun h2 h0 => by
          rw [S_len] at hb
          simp only [Bool.or_eq_true, beq_iff_eq] at hb
          rcases hb with e | e
          · omega
          · exact absurd (List.eq_nil_of_length_eq_zero e) h0)
        rw [← e] at hq
        exact hq
      · rw [if_neg hb]
        have e : (⟨(List.replicate n.toNat (S l).cps).foldl (· ++ ·) #[]⟩ : Str) = S (repL l n) := by
          rw [foldl_rep]
          show (⟨#[] ++ (List.replicate n.toNat l.toArray.toList).flatten.toArray⟩ : Str) = _
          unfold repL
          simp
        rw [e]
        refine ⟨?_, h _ _ (fun _ _ => ⟨rfl, rfl⟩)⟩
        rw [S_len, length_repL, Nat.mul_comm]
        exact h3
theorem op_mulS : OpR X (binaryOp .Mult) (fun x y H Q => ∃ l n, x = .str (S l) ∧ y = .int n ∧ -(2 ^ 63) ≤ n ∧ n < 2 ^ 63 ∧ l.length * n.toNat ≤ sizeLine ∧ Q (.str (S (repL l n))) H) := by
  intro pins s σ H x y v u Q I rx ry h
  obtain ⟨l, n, rfl, rfl, h1, h2, h3, q⟩ := h
  obtain ⟨t, rfl⟩ := rx
  obtain ⟨t', rfl⟩ := ry
  exact mulS_run h1 h2 h3 fun tk k _ => ⟨.str (S (repL l n)), H, I.tok k, ⟨tk, rfl⟩, q⟩
theorem bin_mulS {l : List Nat} {n : Int} (h : n < 2 ^ 63 ∧ -(2 ^ 63) ≤ n ∧ l.length * n.toNat ≤ sizeLine) : BinD X .Mult (.str (S l)) (.int n) (.str (S (repL l n))) := ⟨_, op_mulS, fun x y G H Q s hx hy k => by
  cases hx; cases hy
  exact ⟨l, n, rfl, rfl, h.2.1, h.1, h.2.2, k.here s (.str _)⟩⟩
theorem bin_addSS {a b : List Nat} (h : a.length + b.length ≤ sizeLine) : BinD X .Add (.str (S a)) (.str (S b)) (.str (S (a ++ b))) := by
  have := bin_addS (X := X) (y := S a) (z := S b) (by rw [S_len, S_len]; exact h)
  rw [S_app] at this
  exact this
theorem ip_addSS {a b : List Nat} (h : a.length + b.length ≤ sizeLine) : IpD X .Add (.str (S a)) (.str (S b)) (.str (S (a ++ b))) := by
  have := ip_addS (X := X) (y := S a) (z := S b) (by rw [S_len, S_len]; exact h)
  rw [S_app] at this
  exact this
theorem cmp_eqSS {a b : List Nat} : CmpD X .Eq (.str (S a)) (.str (S b)) (decide (a = b)) := by
  have := cmp_eqS (X := X) (y := S a) (z := S b)
  rw [show decide (S a = S b) = decide (a = b) from by simp only [S_inj]] at this
  exact this
theorem cmp_neSS {a b : List Nat} : CmpD X .NotEq (.str (S a)) (.str (S b)) (!decide (a = b)) := by
  have := cmp_neS (X := X) (y := S a) (z := S b)
  rw [show decide (S a = S b) = decide (a = b) from by simp only [S_inj]] at this
  exact this
theorem blt_lenSS {a : List Nat} (h : a.length ≤ sizeLine) : BltD X "len" [.str (S a)] (.int a.length) := by
  have := blt_lenS (X := X) (z := S a) (by rw [S_len]; exact h)
  rw [S_len] at this
  exact this
theorem iter_strS {e : Expr} {tg : Expr} {l : List Nat} (he : Ev X ρ e (.str (S l))) : Iter X ρ tg e (l.map fun c => PyData.str (S [c])) := by
  have := iter_str (tg := tg) he
  rw [S_list] at this
  exact this
theorem ix_sS {l : List Nat} {i : Int} {c : Nat} (hz : l.length ≤ sizeLine) (h : L2.atI l i = some c) : IxD X (.str (S l)) (.int i) (.str (S [c])) :=
  ix_s (by rw [S_len]; exact hz) (by rw [S_list]; exact h)
def cutN (xs : List Nat) (lo hi : Option Int) : List Nat := (xs.drop (HT.sIx xs.length 0 lo)).take (HT.sIx xs.length xs.length hi - HT.sIx xs.length 0 lo)
theorem sl_sS {l : List Nat} {lo hi : Option Int} (hz : l.length ≤ sizeLine) : SlD X (.str (S l)) lo hi (.str (S (cutN l lo hi))) := by
  have := sl_s (X := X) (z := S l) (lo := lo) (hi := hi) (by rw [S_len]; exact hz)
  have e : cutS (S l) lo hi = S (cutN l lo hi) := by
    unfold cutS cutN
    rw [S_len, S_list]
  rw [e] at this
  exact this

/-! ## 14. texts whose token is new: for replace -/
def PF (X : Cx) (e : Expr) (t : TE) : Prop := ∀ (pins : List (Addr × Obj)) (s : Shared) (σ : L2.St) (H : Hp) (Q : VK), Inv X pins σ H s → t σ H Q →
  wpAny (model X.prog X.w) X.A (eval e X.env) (fun u s' => ∃ z tk H', u = .str z tk ∧ s.toks < tk ∧ tk < s'.toks ∧ Inv X pins σ H' s' ∧ Q (.str z) H') X.xe s
/-- 'c' * e -/
theorem pf_mul {c : List Nat} {cs : Str} {j : Nat} {p1 : Pos} {e : Expr} {te : TE} (hc : cs = S c) (h0 : c ≠ []) (he : PE X e te) :
    PF X (.BinOp (.Constant (.str cs) j p1) .Mult e pos) (fun σ H Q => te σ H fun y H1 => ∃ n : Int, y = .int n ∧ 2 ≤ n ∧ n < 2 ^ 63 ∧ c.length * n.toNat ≤ sizeLine ∧ Q (.str (S (repL c n))) H1) := fun pins s σ H Q I h => by
  subst hc
  refine wpAny_BinOp (Calls.Constant_str ?_)
  refine wpAny_mono (PySem.wpAny_toks (he.run pins _ σ H _ (I.tok (s.toks + 1)) h)) (fun v s1 ⟨hk, x, H1, I1, r1, n, e1, h1, h2, h3, q⟩ => ?_) fun _ _ z => z.2
  subst e1
  obtain ⟨t, rfl⟩ := r1
  have hk' : s.toks + 1 ≤ s1.toks := hk
  refine mulS_run (by omega) h2 h3 fun tk k hq => ?_
  obtain ⟨rfl, rfl⟩ := hq h1 h0
  exact ⟨_, _, H1, rfl, by omega, Nat.lt_succ_self _, I1.tok _, q⟩
/-- e + 'c' where e is such a text -/
theorem pf_add {c : List Nat} {cs : Str} {j : Nat} {p1 : Pos} {e : Expr} {te : TE} (hc : cs = S c) (h0 : c ≠ []) (he : PF X e te) :
    PF X (.BinOp e .Add (.Constant (.str cs) j p1) pos) (fun σ H Q => te σ H fun y H1 => ∃ a : List Nat, y = .str (S a) ∧ a ≠ [] ∧ a.length + c.length ≤ sizeLine ∧ Q (.str (S (a ++ c))) H1) := fun pins s σ H Q I h => by
  subst hc
  refine wpAny_BinOp (wpAny_mono (he pins s σ H _ I h) (fun v s1 ⟨z, tk, H1, e0, k1, k2, I1, a, e1, h1, h2, q⟩ => ?_) fun _ _ z => z)
  subst e0
  cases e1
  refine Calls.Constant_str ?_
  refine PySem.P.add_str ?_
  rw [if_neg (by rw [S_len]; simpa using h1), if_neg (by rw [S_len]; simpa using h0), S_app]
  refine ⟨by rw [S_len, List.length_append]; exact h2, _, _, H1, rfl, ?_, Nat.lt_succ_self _, I1.tok _, q⟩
  exact Nat.lt_succ_of_lt (Nat.lt_trans k1 k2)
/-- the rule for o.replace(a, b) where both are such texts, not the same -/
def tRepl (to ta tb : TE) : TE := fun σ H Q => to σ H fun x H1 => (∃ z, x = .str z) ∧ ta σ H1 fun y H2 => tb σ H2 fun u H3 => ∃ a b c : List Nat, x = .str (S a) ∧ y = .str (S b) ∧ u = .str (S c) ∧ b ≠ c ∧ a.length + (a.length + 1) * c.length ≤ 16777216 ∧ Q (.str (Txt.replace (S a) (S b) (S c))) H3
theorem pe_replace {o a b : Expr} {to ta tb : TE} {apos cpos : Pos} (ho : PE X o to) (ha : PF X a ta) (hb : PF X b tb)
    (hbase : attributeBase o "replace" X.env (eval o X.env) = eval o X.env)
    (hfew : ((((backTo cpos (starEach [a, b] X.env)).all fun x => !x.1) && (backToKw cpos (keywordEach [] X.env)).all fun x => x.1.isSome) && decide (([a, b] : List Expr).length + ([] : List Keyword).length + (if ([] : List Keyword).isEmpty then 0 else 1) < 30)) = true)
    (hline : (apos.endLine == cpos.line) = true) (hs : starEach [a, b] X.env = [(false, eval a X.env), (false, eval b X.env)]) :
    PE X (.Call (.Attribute o "replace" apos) [a, b] [] cpos) (tRepl to ta tb) := by
  refine ⟨fun pins s σ H Q I h => ?_⟩
  refine wpAny_Call_method_late hbase hfew hline rfl (thn (ho.run pins s σ H _ I h) fun v s1 ⟨x, H1, I1, r1, ⟨zz, ex⟩, q1⟩ => ?_)
  subst ex
  have ty : tyV X.K "str" (.str zz) H1 := rfl
  obtain ⟨h1, h2⟩ := tyV_is I1 r1 ty
  refine ⟨"str", "str.replace", PySem.F.plainAttrs_str, PySem.F.slot_str_replace, PySem.F.type_str_replace, h1, h2, ?_⟩
  rw [hs]
  refine Calls.callWith_builtin rfl (Calls.evalArgs_plain ?_)
  refine Calls.spliced_cons (wpAny_mono (ha pins s1 σ H1 _ I1 q1) (fun u2 s2 ⟨z2, tk2, H2, e2, k1, k2, I2, q2⟩ => ?_) fun _ _ z => z)
  subst e2
  refine Calls.spliced_cons (wpAny_mono (hb pins s2 σ H2 _ I2 q2) (fun u3 s3 ⟨z3, tk3, H3, e3, k3, k4, I3, q3⟩ => ?_) fun _ _ z => z)
  subst e3
  refine Calls.spliced_nil ?_
  obtain ⟨aa, bb, cc, ea, eb, ec, hne, hsz, q⟩ := q3
  cases ea
  cases eb
  cases ec
  obtain ⟨t, rfl⟩ := r1
  refine PySem.SC.replace (Nat.ne_of_gt (Nat.lt_of_le_of_lt (Nat.zero_le _) k1)) (Nat.ne_of_gt (Nat.lt_of_le_of_lt (Nat.zero_le _) k3)) (Nat.ne_of_lt (Nat.lt_trans k2 k3)) ?_ ?_ fun t' k => ⟨.str (Txt.replace (S aa) (S bb) (S cc)), H3, I3.tok k, ⟨t', rfl⟩, q⟩
  · rw [beq_eq_false_iff_ne]
    intro e
    exact hne (S_inj.mp e)
  · rw [S_len, S_len]
    exact hsz
theorem ev_replace {o a b : Expr} {apos cpos : Pos} {la lb lc : List Nat} {ta tb : TE} (ho : Ev X ρ o (.str (S la))) (pa : PF X a ta) (pb : PF X b tb)
    (fa : ∀ σ G H Q, EnvR X.K G H σ ρ → (∀ G' H', Frm G H G' H' → Q (.str (S lb)) H') → ta σ H Q) (fb : ∀ σ G H Q, EnvR X.K G H σ ρ → (∀ G' H', Frm G H G' H' → Q (.str (S lc)) H') → tb σ H Q) (hne : lb ≠ lc) (hsz : la.length + (la.length + 1) * lc.length ≤ 16777216)
    (hbase : attributeBase o "replace" X.env (eval o X.env) = eval o X.env := by rfl)
    (hfew : ((((backTo cpos (starEach [a, b] X.env)).all fun x => !x.1) && (backToKw cpos (keywordEach [] X.env)).all fun x => x.1.isSome) && decide (([a, b] : List Expr).length + ([] : List Keyword).length + (if ([] : List Keyword).isEmpty then 0 else 1) < 30)) = true := by rfl)
    (hline : (apos.endLine == cpos.line) = true := by rfl) (hs : starEach [a, b] X.env = [(false, eval a X.env), (false, eval b X.env)] := by rfl) :
    Ev X ρ (.Call (.Attribute o "replace" apos) [a, b] [] cpos) (.str (Txt.replace (S la) (S lb) (S lc))) := fun σ G H Q E k =>
  wE_of (pe_replace pe_w pa pb hbase hfew hline hs) (ho σ G H _ E fun v G1 H1 f1 hv => by
    cases hv
    refine ⟨⟨_, rfl⟩, fa σ G1 H1 _ (E.frm f1) fun G2 H2 f2 => fb σ G2 H2 _ ((E.frm f1).frm f2) fun G3 H3 f3 => ⟨la, lb, lc, rfl, rfl, rfl, hne, hsz, ?_⟩⟩
    exact k _ G3 H3 (f1.trans (f2.trans f3)) (.str _))
/-- the readings of 'c' * e and 'c' * e + 'd' -/
theorem f_mul {c : List Nat} {e : Expr} {n : Int} (he : Ev X ρ e (.int n)) (h2 : 2 ≤ n) (h3 : n < 2 ^ 63) (h4 : c.length * n.toNat ≤ sizeLine) : ∀ σ G H (Q : VK), EnvR X.K G H σ ρ → (∀ G' H', Frm G H G' H' → Q (.str (S (repL c n))) H') →
    (fun (σ : L2.St) H (Q : VK) => wE X e σ H fun y H1 => ∃ n : Int, y = .int n ∧ 2 ≤ n ∧ n < 2 ^ 63 ∧ c.length * n.toNat ≤ sizeLine ∧ Q (.str (S (repL c n))) H1) σ H Q := fun σ G H Q E k =>
  he σ G H _ E fun v G1 H1 f1 hv => by
    cases hv
    exact ⟨n, rfl, h2, h3, h4, k G1 H1 f1⟩
theorem f_add {a c : List Nat} {t : TE} (ht : ∀ σ G H Q, EnvR X.K G H σ ρ → (∀ G' H', Frm G H G' H' → Q (.str (S a)) H') → t σ H Q) (h0 : a ≠ []) (h : a.length + c.length ≤ sizeLine) : ∀ σ G H (Q : VK), EnvR X.K G H σ ρ → (∀ G' H', Frm G H G' H' → Q (.str (S (a ++ c))) H') →
    (fun (σ : L2.St) H (Q : VK) => t σ H fun y H1 => ∃ a : List Nat, y = .str (S a) ∧ a ≠ [] ∧ a.length + c.length ≤ sizeLine ∧ Q (.str (S (a ++ c))) H1) σ H Q := fun σ G H Q E k =>
  ht σ G H _ E fun G1 H1 f1 => ⟨a, rfl, h0, h, k G1 H1 f1⟩

/-! ## 15. lists that one may add -/
def EvX (X : Cx) (ρ : Envi) (e : Expr) (ds : List D) : Prop := ∀ σ G H Q, EnvR X.K G H σ ρ → (∀ a vs G' H', Frm G H G' H' → H' a = some (.lst vs) → DpAll X.K G' vs ds → Q (.ref a) H') → wE X e σ H Q
theorem evx_ofL {e : Expr} {ds : List D} (h : EvL X ρ e ds) : EvX X ρ e ds := fun σ G H Q E k => h σ G H Q E fun a vs G' H' f h1 _ _ h4 => k a vs G' H' f h1 h4
theorem evx_own {x : Str} {i : Nat} {ds : List D} (h : ρ[i]? = some (.own ds)) (hN : X.N[i]? = some x) (hv : Vis X.env.scope x) (hd : (x == ("__debug__" : Str)) = false := by decide) (hcd : (x == ("__classdict__" : Str)) = false := by decide) : EvX X ρ (.Name x pos) ds := fun σ G H Q E k => by
  obtain ⟨a, vs, q1, q2, q3, q4⟩ := E.own i ds h
  exact wE_of (pe_var hN hv hd hcd) ⟨_, q1, k a vs G H (.refl E.s) q2 q4⟩
theorem evl_cat {a b : Expr} {ds es : List D} (ha : EvX X ρ a ds) (hb : EvX X ρ b es) (hz : ds.length + es.length ≤ sizeLine) : EvL X ρ (.BinOp a .Add b pos) (ds ++ es) := fun σ G H Q E k =>
  wE_of (pe_op op_cat pe_w pe_w) (ha σ G H _ E fun l vs G1 H1 f1 q1 q2 => hb σ G1 H1 _ (E.frm f1) fun l2 vs2 G2 H2 f2 q3 q4 => by
    refine ⟨l, l2, vs, vs2, rfl, rfl, f2.h _ _ q1, q3, by rw [DpAll.length q2, DpAll.length q4]; exact hz, fun p hp => ?_⟩
    have f := f1.trans f2
    exact k p _ G2 _ (f.trans (Frm.priv f.s hp)) upd_same (f.s.free hp) (f.h.free hp) (DpAll.append (DpAll.same f2.g q2) q4))
theorem DpAll.rep {K : PySem.W.Frag} {G : Hp} {vs : List V} {ds : List D} (h : DpAll K G vs ds) : ∀ n : Nat, DpAll K G (List.replicate n vs).flatten (List.replicate n ds).flatten
  | 0 => .nil
  | n + 1 => by
    rw [List.replicate_succ, List.replicate_succ, List.flatten_cons, List.flatten_cons]
    exact DpAll.append h (DpAll.rep h n)
theorem evl_rep {a b : Expr} {ds : List D} {n : Int} (ha : EvX X ρ a ds) (hb : Ev X ρ b (.int n)) (h1 : -(2 ^ 63) ≤ n ∧ n < 2 ^ 63) (hz : ds.length * n.toNat ≤ sizeLine) : EvL X ρ (.BinOp a .Mult b pos) (List.replicate n.toNat ds).flatten := fun σ G H Q E k =>
  wE_of (pe_op op_rep pe_w pe_w) (ha σ G H _ E fun l vs G1 H1 f1 q1 q2 => hb σ G1 H1 _ (E.frm f1) fun y G2 H2 f2 hy => by
    cases hy
    refine ⟨l, n, vs, rfl, rfl, f2.h _ _ q1, h1.1, h1.2, by rw [DpAll.length q2]; exact hz, fun p hp => ?_⟩
    have f := f1.trans f2
    exact k p _ G2 _ (f.trans (Frm.priv f.s hp)) upd_same (f.s.free hp) (f.h.free hp) (DpAll.rep (DpAll.same f2.g q2) _))
theorem evl_slice {e : Expr} {lo hi : Option Expr} {p2 : Pos} {ds : List D} {l h : Option Int} (ha : Ev X ρ e (.list ds)) (hl : Pt X ρ lo l) (hh : Pt X ρ hi h) : EvL X ρ (.Subscript e (.Slice lo hi none p2) pos) (cutD ds l h) := fun σ G H Q E k =>
  wE_of (pe_slice sl_list pe_w po_w po_w) (ha σ G H _ E fun x G1 H1 f1 hx => hl σ G1 H1 _ (E.frm f1) fun G2 H2 f2 => hh σ G2 H2 _ ((E.frm f1).frm f2) fun G3 H3 f3 => by
    cases hx with
    | lst hs hda =>
      have f := f1.trans (f2.trans f3)
      have fg := f2.trans f3
      refine ⟨_, _, rfl, (fg.g.trans f3.s).seq hs, fun p hp => ?_⟩
      exact k p _ G3 _ (f.trans (Frm.priv f.s hp)) upd_same (f.s.free hp) (f.h.free hp) (DpAll.cut (DpAll.same fg.g hda) l h))
/-- list(range(a)) -/
theorem evl_range1 {a : Expr} {p p2 pos2 : Pos} {j : Int} (ha : Ev X ρ a (.int j)) (hj : j ≤ 16777216 ∧ -(2 ^ 62) ≤ j) (hc : X.calm = true) (hg : Gl X "list") (hm : X.mg "list" = none) (hg2 : Gl X "range") (hm2 : X.mg "range" = none) (hs2 : starEach [a] X.env = (false, eval a X.env) :: starEach [] X.env := by rfl)
    (hs : starEach [.Call (.Name "range" p2) [a] [] pos2] X.env = (false, eval (.Call (.Name "range" p2) [a] [] pos2) X.env) :: starEach [] X.env := by rfl) :
    EvL X ρ (.Call (.Name "list" p) [.Call (.Name "range" p2) [a] [] pos2] [] pos) ((List.range j.toNat).map fun (i : Nat) => PyData.int (i : Nat)) := fun σ G H Q E k =>
  wE_of (pe_listRg hc hg hm (prg_1 hg2 hm2 pe_w hs2) hs) (ha σ G H _ E fun v G1 H1 f1 hx => by
    cases hx
    refine ⟨j, rfl, ⟨by decide, by decide, by omega, by omega, by omega⟩, fun q hq => ?_⟩
    refine k q _ G1 _ (f1.trans (Frm.priv f1.s hq)) upd_same (f1.s.free hq) (f1.h.free hq) ?_
    unfold rgV
    have e : (j - 0).toNat = j.toNat := by omega
    rw [e]
    have aux : ∀ l : List Nat, DpAll X.K G1 (l.map fun i => V.int (0 + (i : Nat))) (l.map fun i => PyData.int ((i : Nat) : Int)) := by
      intro l
      induction l with
      | nil => exact .nil
      | cons x l ih =>
        refine .cons ?_ ih
        show Dp X.K G1 (V.int (0 + (x : Int))) (PyData.int (x : Int))
        rw [Int.zero_add]
        exact .int _
    exact aux _)

/-! ## 16. isinstance with a built-in class -/
def tyN : D → String
  | .none => "NoneType"
  | .bool _ => "bool"
  | .int _ => "int"
  | .str _ => "str"
  | .list _ => "list"
  | .tuple _ => "tuple"
  | .dict _ => "dict"
theorem Dp.ty {K : PySem.W.Frag} {G H : Hp} {d : D} {v : V} (s : Same G H) (h : Dp K G v d) : TyX K H v (.type (tyN d)) := by
  cases h with
  | non => exact .base .non
  | bl b => exact .base (.bl b)
  | int i => exact .base (.int i)
  | str x => exact .base (.str x)
  | lst hs ha =>
    rcases hs with (h | ⟨o, h⟩) | ⟨o, its, n, hk, hc, _⟩
    · exact .base (.lst (s _ _ h))
    · exact .base (.frz (s _ _ h))
    · exact .kList hk hc
  | tup hs ha =>
    rcases hs with (h | ⟨o, h⟩) | ⟨o, its, n, hk, hc, _⟩
    · exact .base (.tup (s _ _ h))
    · exact .fTuple (s _ _ h)
    · exact .kTuple hk hc
theorem ev_isi {e : Expr} {T : Str} {n : String} {d : D} {r : Bool} {p p2 : Pos} (he : Ev X ρ e d) (hk : kitB (tyN d) n = some r) (hv : bootBuiltins T = some (.type n)) (hgT : Gl X T) (hmT : X.mg T = none) (hg : Gl X "isinstance") (hm : X.mg "isinstance" = none)
    (hn : T ≠ "__name__" := by decide) (hd : (T == ("__debug__" : Str)) = false := by decide)
    (hs : starEach [e, .Name T p2] X.env = (false, eval e X.env) :: starEach [.Name T p2] X.env := by rfl) (hs2 : starEach [.Name T p2] X.env = (false, eval (.Name T p2) X.env) :: starEach [] X.env := by rfl) (hp : ((backTo pos (starEach [.Name T p2] X.env)).any (·.1)) = false := by rfl) :
    Ev X ρ (.Call (.Name "isinstance" p) [e, .Name T p2] [] pos) (.bool r) := fun σ G H Q E k =>
  wE_of (pe_callB call_isi hg hm (by decide +kernel) (pa_cons pe_w (pa_cons (pe_bltn (v := .ty n) hgT hmT hv rfl hn hd) pa_nil hs2) hs) (by decide) (by decide) hs hp)
    (he σ G H _ E fun v G1 H1 f1 hv => ⟨v, .ty n, .type (tyN d), .type n, r, rfl, .ty n, Dp.ty f1.s hv, kit_ty hk, k _ G1 H1 f1 (.bl r)⟩)
end
end DL

namespace DL
open PySem PySem.Spec PyProof.Rows L2
/-! ## 17. for the tactics -/
def HasDef (K : PySem.W.Frag) (mg : Str → Option Value) (x : Str) (ps : List Str) (st : Stmt) : Prop := ∃ f fd, mg x = some (.ref f) ∧ Fun K x x st f fd ∧ Binds K fd ps []
section
variable {P : Program} {w : World} {K : PySem.W.Frag} {mg : Str → Option Value} {base : Heap}
theorem dfn {x : Str} {st : Stmt} {N ps : List Str} {k : Nat} {ds : List D} {d : D} (h : HasDef K mg x ps st) (S : FnScope N ps (defScope st)) (hl : ds.length = ps.length)
    (body : ∀ (f : Addr) (cdv : Value) (A : Around) (outer : List Env) (s : Shared) (H : Hp) (E : XK), Room k (bodyX P w K mg base N x st f cdv A outer s H E).A → Bks (bodyX P w K mg base N x st f cdv A outer s H E) (env0 N ds) [defBody st] (Rets d)) :
    Dfn P w K mg base x ps (k + 1) ds d := by
  obtain ⟨f, fd, g, F, b⟩ := h
  exact dfn_of F b g S hl (body f)
end
theorem kit_int_int : kitB "int" "int" = some true := by decide +kernel
theorem kit_int_bool : kitB "int" "bool" = some false := by decide +kernel
theorem kit_int_str : kitB "int" "str" = some false := by decide +kernel
theorem kit_int_list : kitB "int" "list" = some false := by decide +kernel
theorem kit_int_tuple : kitB "int" "tuple" = some false := by decide +kernel
theorem kit_bool_int : kitB "bool" "int" = some true := by decide +kernel
theorem kit_bool_bool : kitB "bool" "bool" = some true := by decide +kernel
theorem kit_bool_str : kitB "bool" "str" = some false := by decide +kernel
theorem kit_bool_list : kitB "bool" "list" = some false := by decide +kernel
theorem kit_bool_tuple : kitB "bool" "tuple" = some false := by decide +kernel
theorem kit_str_int : kitB "str" "int" = some false := by decide +kernel
theorem kit_str_bool : kitB "str" "bool" = some false := by decide +kernel
theorem kit_str_str : kitB "str" "str" = some true := by decide +kernel
theorem kit_str_list : kitB "str" "list" = some false := by decide +kernel
theorem kit_str_tuple : kitB "str" "tuple" = some false := by decide +kernel
theorem kit_list_int : kitB "list" "int" = some false := by decide +kernel
theorem kit_list_bool : kitB "list" "bool" = some false := by decide +kernel
theorem kit_list_str : kitB "list" "str" = some false := by decide +kernel
theorem kit_list_list : kitB "list" "list" = some true := by decide +kernel
theorem kit_list_tuple : kitB "list" "tuple" = some false := by decide +kernel
theorem kit_tuple_int : kitB "tuple" "int" = some false := by decide +kernel
theorem kit_tuple_bool : kitB "tuple" "bool" = some false := by decide +kernel
theorem kit_tuple_str : kitB "tuple" "str" = some false := by decide +kernel
theorem kit_tuple_list : kitB "tuple" "list" = some false := by decide +kernel
theorem kit_tuple_tuple : kitB "tuple" "tuple" = some true := by decide +kernel
theorem kit_none_int : kitB "NoneType" "int" = some false := by decide +kernel
theorem kit_none_bool : kitB "NoneType" "bool" = some false := by decide +kernel
theorem kit_none_str : kitB "NoneType" "str" = some false := by decide +kernel
theorem kit_none_list : kitB "NoneType" "list" = some false := by decide +kernel
theorem kit_none_tuple : kitB "NoneType" "tuple" = some false := by decide +kernel
theorem hu64 {k : Nat} {A : Around} (r : Room k A) : A.units + 64 < cLine := by have := r.un; omega
section
variable {X : Cx} {ρ ρ' : Envi} {pos : Pos} {s : Stmt} {ss : List Stmt} {st : List (List Stmt)} {O : Out → Prop}
theorem ev_strC {x : Str} {l : List Nat} {j} (h : x = S l) : Ev X ρ (.Constant (.str x) j pos) (.str (S l)) := h ▸ ev_str
theorem ev_callF {x : Str} {p : Pos} {e : Expr} {es : List Expr} {ps : List Str} {j k : Nat} {ds : List D} {d : D} (ha : Evs X ρ (e :: es) ds) (F : Dfn X.prog X.w X.K X.mg X.base x ps j ds d) (hr : Room k X.A) (hj : j ≤ k) (hg : Gl X x)
    (hd : (x == ("__debug__" : Str)) = false) (hs : starEach (e :: es) X.env = (false, eval e X.env) :: starEach es X.env) (hp : ((backTo pos (starEach es X.env)).any (·.1)) = false) :
    Ev X ρ (.Call (.Name x p) (e :: es) [] pos) d := ev_call F hj hr hg ha hd hs hp
theorem ev_callF0 {x : Str} {p : Pos} {ps : List Str} {j k : Nat} {d : D} (F : Dfn X.prog X.w X.K X.mg X.base x ps j [] d) (hr : Room k X.A) (hj : j ≤ k) (hg : Gl X x)
    (hd : (x == ("__debug__" : Str)) = false) : Ev X ρ (.Call (.Name x p) [] [] pos) d := ev_call0 F hj hr hg hd
/-- a step of a block, where the statement's end is told -/
theorem Bks.to {r : Envi} (h : Bks X r st O) (q : ρ = r) : Bks X ρ st O := q ▸ h
theorem bk_set {i : Nat} {x : Str} {e : Expr} {pos' : Pos} {d : D} (he : Ev X ρ e d) (hN : X.N.Nodup) (hi : X.N[i]? = some x) (hx : Loc X.env.scope x)
    (hs : swapsWith e (some (.Name x pos')) pos.line X.env = pure false) (hf : X.fn x = true ∨ X.env.scope.names.lookup x = some .local) (h : Bks X (ρ.set i (.dat d)) (ss :: st) O) : Bks X ρ ((.Assign [.Name x pos'] e pos :: ss) :: st) O := bk_step (sm_set he hN hi hx hs hf) h
theorem bk_own {i : Nat} {x : Str} {e : Expr} {pos' : Pos} {ds : List D} (he : EvL X ρ e ds) (hN : X.N.Nodup) (hi : X.N[i]? = some x) (hx : Loc X.env.scope x) (hl : i < ρ.length)
    (hs : swapsWith e (some (.Name x pos')) pos.line X.env = pure false) (hf : X.fn x = true ∨ X.env.scope.names.lookup x = some .local) (h : Bks X (ρ.set i (.own ds)) (ss :: st) O) : Bks X ρ ((.Assign [.Name x pos'] e pos :: ss) :: st) O := bk_step (sm_own he hN hi hx hl hs hf) h
theorem bk_aug {i : Nat} {x : Str} {e : Expr} {op : Operator} {pos' : Pos} {d0 d1 d : D} (h0 : ρ[i]? = some (.dat d0)) (he : Ev X ρ e d1) (F : IpD X op d0 d1 d) (hN : X.N.Nodup) (hi : X.N[i]? = some x) (hx : Loc X.env.scope x)
    (hf : X.fn x = true ∨ X.env.scope.names.lookup x = some .local) (h : Bks X (ρ.set i (.dat d)) (ss :: st) O) : Bks X ρ ((.AugAssign (.Name x pos') op e pos :: ss) :: st) O := bk_step (sm_aug h0 he F hN hi hx hf) h
theorem bk_append {i : Nat} {x : Str} {e : Expr} {px apos cpos : Pos} {ds : List D} {d : D} (h0 : ρ[i]? = some (.own ds)) (he : Ev X ρ e d) (hz : ds.length < sizeLine) (hN : X.N[i]? = some x) (hv : Vis X.env.scope x)
    (h2 : ((((backTo cpos (starEach [e] X.env)).all fun x => !x.1) && (backToKw cpos (keywordEach [] X.env)).all fun x => x.1.isSome) && decide (([e] : List Expr).length + ([] : List Keyword).length + (if ([] : List Keyword).isEmpty = true then 0 else 1) < 30)) = true)
    (hb : attributeBase (.Name x px) "append" X.env (eval (.Name x px) X.env) = eval (.Name x px) X.env)
    (hl : (apos.endLine == cpos.line) = true) (hs : starEach [e] X.env = (false, eval e X.env) :: starEach [] X.env) (h5 : ((backTo cpos (starEach [] X.env)).any fun x => x.1) = false)
    (hsw : swapsWith (.Call (.Attribute (.Name x px) "append" apos) [e] [] cpos) none pos.line X.env = pure false) (hd : (x == ("__debug__" : Str)) = false) (hcd : (x == ("__classdict__" : Str)) = false)
    (h : Bks X (ρ.set i (.own (ds ++ [d]))) (ss :: st) O) : Bks X ρ ((.Expr (.Call (.Attribute (.Name x px) "append" apos) [e] [] cpos) pos :: ss) :: st) O := bk_step (sm_append h0 he hz hN hv h2 hb hl hs h5 hsw hd hcd) h
theorem bk_asg {tg e : Expr} {d : D} {is : List Nat} (he : Ev X ρ e d) (ht : Tg X tg d ρ ρ' is) (hs : swapsWithSole [tg] e pos.line X.env = pure false) (hw : swappedStores [tg] e X.env = pure none) (ha : List.map (fun x => x.2) (assignEach [tg] X.env) = [assign tg X.env])
    (h : Bks X ρ' (ss :: st) O) : Bks X ρ ((.Assign [tg] e pos :: ss) :: st) O := bk_step (sm_asg he ht hs hw ha) h
theorem bk_expr {e : Expr} {d : D} (he : Ev X ρ e d) (hs : swapsWith e none pos.line X.env = pure false) (h : Bks X ρ (ss :: st) O) : Bks X ρ ((.Expr e pos :: ss) :: st) O := bk_step (sm_expr he hs) h
theorem bk_doc {x j pos'} (h : Bks X ρ (ss :: st) O) : Bks X ρ ((.Expr (.Constant (.str x) j pos') pos :: ss) :: st) O := bk_step sm_doc h
theorem bk_pass (h : Bks X ρ (ss :: st) O) : Bks X ρ ((.Pass pos :: ss) :: st) O := bk_step sm_pass h
theorem tst_bo {op} {es : List Expr} {b : Bool} (h : TstW X ρ (.BoolOp op es pos) b) : Tst X ρ (.BoolOp op es pos) b := tst_w h
theorem ev_list {es : List Expr} {ds : List D} (h : Evs X ρ es ds) (hl : ds.length ≤ sizeLine) : Ev X ρ (.List es pos) (.list ds) := ev_ofL (evl_lst h hl)
theorem evs_consF {e : Expr} {es : List Expr} {d : D} {ds : List D} (he : Ev X ρ e d) (hes : Evs X ρ es ds) (hs : starEach (e :: es) X.env = (false, eval e X.env) :: starEach es X.env) : Evs X ρ (e :: es) (d :: ds) := evs_cons he hes hs
theorem ev_nameF {x : Str} {i : Nat} {d : D} (h : ρ[i]? = some (.dat d)) (hN : X.N[i]? = some x) (hv : Vis X.env.scope x) (hd : (x == ("__debug__" : Str)) = false) (hcd : (x == ("__classdict__" : Str)) = false) : Ev X ρ (.Name x pos) d := ev_name h hN hv hd hcd
theorem ev_bltF {x : Str} {p : Pos} {e : Expr} {es : List Expr} {ds : List D} {d : D} (ha : Evs X ρ (e :: es) ds) (F : BltD X x ds d) (hg : Gl X x) (hm : X.mg x = none)
    (hn : x ≠ "__name__") (hd : (x == ("__debug__" : Str)) = false) (hs : starEach (e :: es) X.env = (false, eval e X.env) :: starEach es X.env) (hp : ((backTo pos (starEach es X.env)).any (·.1)) = false) :
    Ev X ρ (.Call (.Name x p) (e :: es) [] pos) d := ev_blt ha F hg hm hn hd hs hp
theorem ev_m0F {o : Expr} {x : Str} {apos : Pos} {z : Str} {d : D} (ho : Ev X ρ o (.str z)) (F : MthD X x z [] d) (hb : attributeBase o x X.env (eval o X.env) = eval o X.env) (hl : (apos.endLine == pos.line) = true) : Ev X ρ (.Call (.Attribute o x apos) [] [] pos) d := ev_m0 ho F hb hl
theorem ev_mF {o e : Expr} {es : List Expr} {x : Str} {apos : Pos} {z : Str} {d : D} {ds : List D} (ho : Ev X ρ o (.str z)) (ha : Evs X ρ (e :: es) ds) (F : MthD X x z ds d) (hb : attributeBase o x X.env (eval o X.env) = eval o X.env)
    (h2 : ((((backTo pos (starEach (e :: es) X.env)).all fun x => !x.1) && (backToKw pos (keywordEach [] X.env)).all fun x => x.1.isSome) && decide (((e :: es).length + ([] : List Keyword).length + if ([] : List Keyword).isEmpty = true then 0 else 1) < 30)) = true)
    (hl : (apos.endLine == pos.line) = true) (hs : starEach (e :: es) X.env = (false, eval e X.env) :: starEach es X.env) (h5 : ((backTo pos (starEach es X.env)).any fun x => x.1) = false) :
    Ev X ρ (.Call (.Attribute o x apos) (e :: es) [] pos) d := ev_m ho ha F hb h2 hl hs h5
theorem ev_isiF {e : Expr} {T : Str} {n : String} {d : D} {r : Bool} {p p2 : Pos} (he : Ev X ρ e d) (hk : kitB (tyN d) n = some r) (hv : bootBuiltins T = some (.type n)) (hgT : Gl X T) (hmT : X.mg T = none) (hg : Gl X "isinstance") (hm : X.mg "isinstance" = none)
    (hn : T ≠ "__name__") (hd : (T == ("__debug__" : Str)) = false)
    (hs : starEach [e, .Name T p2] X.env = (false, eval e X.env) :: starEach [.Name T p2] X.env) (hs2 : starEach [.Name T p2] X.env = (false, eval (.Name T p2) X.env) :: starEach [] X.env) (hp : ((backTo pos (starEach [.Name T p2] X.env)).any (·.1)) = false) :
    Ev X ρ (.Call (.Name "isinstance" p) [e, .Name T p2] [] pos) (.bool r) := ev_isi he hk hv hgT hmT hg hm hn hd hs hs2 hp
theorem tst_valF {e : Expr} {b : Bool} (he : Ev X ρ e (.bool b)) (hw : ∀ whole, isTrue e X.env whole = (do let v ← whole; standAt e.pos; holding [v] (truthy v))) : Tst X ρ e b := tst_val he hw
theorem tst_truthF {e : Expr} {d : D} (he : Ev X ρ e d) (hd : truOk d) (hw : ∀ whole, isTrue e X.env whole = (do let v ← whole; standAt e.pos; holding [v] (truthy v))) : Tst X ρ e (tru d) := tst_truth he hd hw
theorem tg_tupF {es : List Expr} {n : Nat} {ds : List D} {is : List Nat} (hc : X.calm = true) (h : Tgs X es ds ρ ρ' is) (hn : (assignEach es X.env).length = ds.length) (hf : List.findIdx? (fun x => x.1) (assignEach es X.env) = none) :
    Tg X (.Tuple es n pos) (.tuple ds) ρ ρ' is := tg_tup hc h hn hf
theorem tgs_consF {e : Expr} {es : List Expr} {d : D} {ds : List D} {ρ1 ρ2 : Envi} {i1 i2 : List Nat} (h1 : Tg X e d ρ ρ1 i1) (h2 : Tgs X es ds ρ1 ρ2 i2) (ha : (assignEach (e :: es) X.env).map (·.2) = assign e X.env :: (assignEach es X.env).map (·.2)) :
    Tgs X (e :: es) (d :: ds) ρ ρ2 (i1 ++ i2) := tgs_cons h1 h2 ha
end
end DL

namespace DL
open PySem PySem.Spec PyProof.Rows L2
/-! ## 18. enumerate(text), zip(text, text) -/
/-- n turns, each a new tuple -/
def Ity (n : Nat) (Y : Nat → List V → Prop) : It := ⟨fun i _ => i < n, fun i H v H' => ∃ T xs, v = .ref T ∧ H T = none ∧ H' = upd H T (.tup xs) ∧ Y i xs, fun i _ => n ≤ i⟩
theorem turn_wt {P : Program} {w : World} {K : PySem.W.Frag} {elts : List Expr} {kk : Nat} {tpos : Pos} {I : Addr} {fp wr : List Addr} {n : Nat} {Pt : Nat → Array Value → Prop} {St : Nat → Heap → Prop} {Mid : Nat → Addr → Heap → Prop} {Y : Nat → List V → Prop}
    (W : ∀ A : Around, A.handled = none → WalksT P w A I fp wr n Pt St Mid) (hI : I ∈ fp) (ob : ∀ i h, St i h → ∀ b ∈ fp, ∃ o, h.get? b = some o ∧ ∀ v, o.data ≠ .cell v)
    (hY : ∀ i vals, Pt i vals → ∃ xs : List V, Vals xs vals.toList ∧ xs.length ≤ sizeLine ∧ Y i xs)
    (fr : ∀ i h h', St i h → (∀ b ∈ fp, ∀ o, h.get? b = some o → h'.get? b = some o) → St i h')
    (self : ∀ (A : Around) (i : Nat) (s : Shared) (Q : Value → Shared → Prop) (E : Value → Shared → Prop), St i s.heap → Q (.ref I) s → wpAny (model P w) A (pyIter (.ref I)) Q E s) :
    Turn P w K (.Tuple elts kk tpos) (Ity n Y) fp I (fun i h => St i h ∧ i ≤ n) where
  mem := hI
  obj := fun i h st b hb => ob i h st.1 b hb
  keep := fun i h h' st k => ⟨fr i h h' st.1 k, st.2⟩
  item := by
    intro X hP hw hK hc i pins s σ H E I0 hf st hg
    subst hP hw hK
    have hh := I0.ok.hd hc
    refine (W X.A hh).item i s _ _ hg st.1 fun T vals h' tk hPt hT hTup hm hk => ⟨.ref T, rfl, ?_⟩
    refine (W X.A hh).go elts kk tpos i T { s with heap := h', toks := tk } _ _ hm fun h2 st2 hk2 => ?_
    obtain ⟨xs, rv, hz, hy⟩ := hY i vals hPt
    have hTup2 : h2.IsTuple T vals := by
      obtain ⟨o, e1, e2, e3⟩ := hTup
      exact ⟨o, hk2 T o ((W X.A hh).apart i T h' hm) e1, e2, e3⟩
    have fpT : ∀ b ∈ fp, b ≠ T := fun b hb e => by
      obtain ⟨o, ho, _⟩ := ob i s.heap st.1 b hb
      rw [e] at ho
      exact Nat.lt_irrefl _ (Nat.lt_of_lt_of_le (Heap.lt_size ho) hT)
    have new : ObjOk X.prog X.w (upd H T (.tup xs)) h2 T (.tup xs) := ⟨hz, vals.toList, rv, by rw [Array.toArray_toList]; exact hTup2⟩
    have I1 : Inv X pins σ (upd H T (.tup xs)) { s with heap := h2, toks := tk } :=
      I0.turnedNew (ch := wr) (fun b o hb q => hk2 b o hb (hk b o hb q)) (fun b hb => hf b ((W X.A hh).sub b hb)) hT new
    refine ⟨.ref T, _, I1, rfl, ⟨T, xs, rfl, I0.hok.fresh hT, rfl, hy⟩, ⟨st2, hg⟩, fun b hb => ?_⟩
    rw [upd_ne (fpT b hb)]
    exact (hf b hb).1
  done := by
    intro X hP hw hK hc i pins s σ H E I0 hf st hg
    subst hP hw hK
    have hh := I0.ok.hd hc
    have e : i = n := Nat.le_antisymm st.2 hg
    subst e
    exact (W X.A hh).done s _ _ st.1 fun h' tk hk => ⟨rfl, I0.turnedL (t' := tk) (ch := wr) (fun b o hb q => hk b o hb q) fun b hb => hf b ((W X.A hh).sub b hb)⟩
  self := fun A i s Q E st h => self A i s Q E st.1 h
theorem yld_ity {K : PySem.W.Frag} {G : Hp} {n : Nat} {Y : Nat → List V → Prop} {ds : List D} (hn : ds.length = n) (h : ∀ i xs, Y i xs → ∃ es, ds[i]? = some (.tuple es) ∧ ∀ G, DpAll K G xs es) : Yld K (Ity n Y) G ds where
  go := fun i H s hi => by show i < n; omega
  stop := fun i H s hi => by show n ≤ i; omega
  item := fun i G1 H x H' d s1 s2 hy hd => by
    obtain ⟨T, xs, rfl, hT, rfl, hY⟩ := hy
    obtain ⟨es, e1, e2⟩ := h i xs hY
    rw [e1] at hd
    cases hd
    exact ⟨_, Frm.new s2 hT, .tup (.inl (.inl upd_same)) (e2 _)⟩
section
variable {X : Cx} {ρ : Envi} {pos : Pos}
theorem isIter_ob {h : Heap} {it : Addr} {ty : String} {x : Str} {t : Tok} {i : Nat} (hit : h.IsStrIter it ty x t i) : ∃ o, h.get? it = some o ∧ ∀ v, o.data ≠ .cell v := by
  obtain ⟨o, ho, hc, hd⟩ := hit
  exact ⟨o, ho, fun v q => by rw [hd] at q; cases q⟩
def iEnumS (ta : TA) : TI := fun σ H R => ta σ H fun vs H1 => ∃ z, vs = [.str z] ∧ R (Ity z.cps.size (fun i xs => ∃ c, z.cps[i]? = some c ∧ xs = [.int (i : Nat), .str ⟨#[c]⟩])) H1
theorem pi_enumS {e : Expr} {ta : TA} {p tpos : Pos} {elts : List Expr} {kk : Nat} (hg : Gl X "enumerate") (hm : X.mg "enumerate" = none) (ha : PA X [e] ta) (hs : starEach [e] X.env = (false, eval e X.env) :: starEach [] X.env) :
    PI X (.Tuple elts kk tpos) (.Call (.Name "enumerate" p) [e] [] pos) (iEnumS ta) := by
  refine ⟨fun pins s σ H R I h => ?_⟩
  refine Call_ (ld_blt I hg hm boot_enumerate (PyProof.Rows.callWith_type1 (thn (ha.run pos pins s σ H _ I h) fun us s1 ⟨vs, H1, I1, r1, q1⟩ => ?_) hs rfl))
  obtain ⟨z, rfl, q⟩ := q1
  cases r1 with
  | cons r rr =>
    cases rr
    obtain ⟨t, rfl⟩ := r
    refine call_enumerate_str fun h' he hit hsz hk => wpAny_pyIter_enum he ?_
    have I2 : Inv X pins σ H1 { s1 with heap := h' } := I1.kept (t' := s1.toks) hk
    have hne : s1.heap.objs.size + 1 ≠ s1.heap.objs.size := Nat.succ_ne_self _
    have hef : s1.heap.objs.size + 1 ∉ [s1.heap.objs.size] := fun hm => hne (List.mem_singleton.mp hm)
    have fr0 : ∀ (i : Nat) (h h' : Heap), ((∃ old, IsEnum h (s1.heap.objs.size + 1) s1.heap.objs.size ((i : Nat) : Int) old) ∧ h.IsStrIter s1.heap.objs.size (strIterType z) z t i) →
        (∀ b ∈ (s1.heap.objs.size + 1) :: [s1.heap.objs.size], ∀ o, h.get? b = some o → h'.get? b = some o) → (∃ old, IsEnum h' (s1.heap.objs.size + 1) s1.heap.objs.size ((i : Nat) : Int) old) ∧ h'.IsStrIter s1.heap.objs.size (strIterType z) z t i :=
      fun i h h' ⟨⟨old, h1⟩, ⟨o, ho, r⟩⟩ k => ⟨⟨old, k _ (by simp) _ h1⟩, ⟨o, k _ (by simp) _ ho, r⟩⟩
    refine ⟨s1.heap.objs.size + 1, (s1.heap.objs.size + 1) :: [s1.heap.objs.size], _, _, H1, rfl, I2,
      turn_wt (fun A hh => WalksT.enumerateD (Draws.text (A := A.in1) hh s1.heap.objs.size z t) (s1.heap.objs.size + 1) hne hef (by simp)) (by simp) (fun i h st b hb => ?_) (fun i vals hP => ?_) fr0 (fun A i s Q E st hq => ?_), ⟨⟨⟨.none, he⟩, hit⟩, Nat.zero_le _⟩, fun b hb => ?_, q⟩
    · obtain ⟨⟨old, h1⟩, h2⟩ := st
      rcases List.mem_cons.mp hb with rfl | hb
      · exact ⟨_, h1, fun v q => nomatch q⟩
      · rw [List.mem_singleton.mp hb]
        exact isIter_ob h2
    · obtain ⟨t2, x, ⟨c, u, hc, rfl⟩, rfl⟩ := hP
      exact ⟨[.int (i : Nat), .str ⟨#[c]⟩], .cons ⟨_, rfl⟩ (.cons ⟨_, rfl⟩ .nil), by show 2 ≤ sizeLine; decide, c, hc, rfl⟩
    · obtain ⟨⟨old, h1⟩, _⟩ := st
      exact wpAny_pyIter_enum h1 hq
    · have hle : s1.heap.objs.size ≤ b := by
        rcases List.mem_cons.mp hb with rfl | hb
        · exact Nat.le_succ _
        · rw [List.mem_singleton.mp hb]; exact Nat.le_refl _
      exact I1.fpOk hle (I1.hok.fresh hle)
theorem iter_enumS {e : Expr} {l : List Nat} {p tpos : Pos} {elts : List Expr} {kk : Nat} (he : Ev X ρ e (.str (S l))) (hg : Gl X "enumerate") (hm : X.mg "enumerate" = none) (hs : starEach [e] X.env = (false, eval e X.env) :: starEach [] X.env) :
    Iter X ρ (.Tuple elts kk tpos) (.Call (.Name "enumerate" p) [e] [] pos) (l.zipIdx.map fun (q : Nat × Nat) => PyData.tuple [.int ((q.2 : Nat) : Int), .str (S [q.1])]) := fun σ G H R E k =>
  wI_of (pi_enumS hg hm pa_w hs) (evs_cons he evs_nil hs σ G H _ E fun vs G1 H1 f1 hv => by
    obtain ⟨v, rfl, hx⟩ := DpAll.one hv
    cases hx
    refine ⟨S l, rfl, k _ G1 H1 f1 (yld_ity (by simp [S]) fun i xs hY => ?_)⟩
    obtain ⟨c, hc, rfl⟩ := hY
    have hc' : l[i]? = some c := by simpa [S] using hc
    refine ⟨[.int (i : Nat), .str (S [c])], ?_, fun G => .cons (.int _) (.cons (.str _) .nil)⟩
    rw [List.getElem?_map, List.getElem?_zipIdx, hc']
    simp)
def iZipS (ta : TA) : TI := fun σ H R => ta σ H fun vs H1 => ∃ y z, vs = [.str y, .str z] ∧ R (Ity (min y.cps.size z.cps.size) (fun i xs => ∃ c d, y.cps[i]? = some c ∧ z.cps[i]? = some d ∧ xs = [.str ⟨#[c]⟩, .str ⟨#[d]⟩])) H1
theorem pi_zipS {e e2 : Expr} {ta : TA} {p tpos : Pos} {elts : List Expr} {kk : Nat} (hg : Gl X "zip") (hm : X.mg "zip" = none) (ha : PA X [e, e2] ta) (hs : starEach [e, e2] X.env = (false, eval e X.env) :: starEach [e2] X.env) (hp : ((backTo pos (starEach [e2] X.env)).any (·.1)) = false) :
    PI X (.Tuple elts kk tpos) (.Call (.Name "zip" p) [e, e2] [] pos) (iZipS ta) := by
  refine ⟨fun pins s σ H R I h => ?_⟩
  refine Call_ (ld_blt I hg hm PyProof.Rows.boot_zip (PyProof.Rows.callWith_type1 (thn (ha.run pos pins s σ H _ I h) fun us s1 ⟨vs, H1, I1, r1, q1⟩ => ?_) hs hp))
  obtain ⟨y, z, rfl, q⟩ := q1
  cases r1 with
  | cons r rr =>
    cases rr with
    | cons r' rr =>
      cases rr
      obtain ⟨t, rfl⟩ := r
      obtain ⟨u, rfl⟩ := r'
      refine zip_begins2 (begins_text y t) (begins_text z u) trivial trivial fun h' hz hTI hTO h1 h2 hsz hk => wpAny_pyIter_zip hz ?_
      generalize hN : s1.heap.objs.size = N at *
      have I2 : Inv X pins σ H1 { s1 with heap := h' } := I1.kept (t' := s1.toks) hk
      have sep : ZipSep2 (N + 4) (N + 2) (N + 3) N (N + 1) [N] [N + 1] := zip_sep2 (fp1 := []) (fp2 := []) (by simp) (by simp)
      have i1 : h'.IsStrIter N (strIterType y) y t 0 := ⟨_, h1, rfl, rfl⟩
      have i2 : h'.IsStrIter (N + 1) (strIterType z) z u 0 := ⟨_, h2, rfl, rfl⟩
      refine ⟨N + 4, (N + 4) :: (N + 2) :: (N + 3) :: ([N] ++ [N + 1]), _, _, H1, rfl, I2,
        turn_wt (fun A hh => WalksT.zipD2 sep (Draws.text (A := A.in1) hh N y t) (Draws.text (A := A.in1) hh (N + 1) z u)) (by simp) (fun i h st b hb => ?_) (fun i vals hP => ?_) (fun i h h' st k => ?_) (fun A i s Q E st hq => wpAny_pyIter_zip st.1 hq),
        ⟨⟨hz, hTI, ⟨_, _, hTO⟩, i1, i2⟩, Nat.zero_le _⟩, fun b hb => ?_, q⟩
      · obtain ⟨a1, a2, ⟨x1, x2, a3⟩, a4, a5⟩ := st
        simp only [List.mem_cons, List.cons_append, List.nil_append, List.not_mem_nil, or_false] at hb
        rcases hb with rfl | rfl | rfl | rfl | rfl
        · exact ⟨_, a1, fun v q => nomatch q⟩
        · exact ⟨_, a2, fun v q => nomatch q⟩
        · exact ⟨_, a3, fun v q => nomatch q⟩
        · exact isIter_ob a4
        · exact isIter_ob a5
      · obtain ⟨x1, x2, ⟨c, tc, hc, rfl⟩, ⟨d, td, hd, rfl⟩, rfl⟩ := hP
        exact ⟨[.str ⟨#[c]⟩, .str ⟨#[d]⟩], .cons ⟨_, rfl⟩ (.cons ⟨_, rfl⟩ .nil), by show 2 ≤ sizeLine; decide, c, d, hc, hd, rfl⟩
      · obtain ⟨a1, a2, ⟨x1, x2, a3⟩, ⟨o4, a4, r4⟩, ⟨o5, a5, r5⟩⟩ := st
        exact ⟨k _ (by simp) _ a1, k _ (by simp) _ a2, ⟨x1, x2, k _ (by simp) _ a3⟩, ⟨o4, k _ (by simp) _ a4, r4⟩, ⟨o5, k _ (by simp) _ a5, r5⟩⟩
      · have hle : s1.heap.objs.size ≤ b := by
          rw [hN]
          simp only [List.mem_cons, List.cons_append, List.nil_append, List.not_mem_nil, or_false] at hb
          rcases hb with rfl | rfl | rfl | rfl | rfl
          · exact Nat.le_add_right _ _
          · exact Nat.le_add_right _ _
          · exact Nat.le_add_right _ _
          · exact Nat.le_refl _
          · exact Nat.le_add_right _ _
        exact I1.fpOk hle (I1.hok.fresh hle)
theorem iter_zipS {e e2 : Expr} {l m : List Nat} {p tpos : Pos} {elts : List Expr} {kk : Nat} (he : Ev X ρ e (.str (S l))) (he2 : Ev X ρ e2 (.str (S m))) (hg : Gl X "zip") (hm : X.mg "zip" = none) (hs : starEach [e, e2] X.env = (false, eval e X.env) :: starEach [e2] X.env)
    (hs2 : starEach [e2] X.env = (false, eval e2 X.env) :: starEach [] X.env) (hp : ((backTo pos (starEach [e2] X.env)).any (·.1)) = false) :
    Iter X ρ (.Tuple elts kk tpos) (.Call (.Name "zip" p) [e, e2] [] pos) ((l.zip m).map fun (q : Nat × Nat) => PyData.tuple [.str (S [q.1]), .str (S [q.2])]) := fun σ G H R E k =>
  wI_of (pi_zipS hg hm pa_w hs hp) (evs_cons he (evs_cons he2 evs_nil hs2) hs σ G H _ E fun vs G1 H1 f1 hv => by
    obtain ⟨v, w, rfl, hx, hy⟩ := DpAll.two hv
    cases hx
    cases hy
    refine ⟨S l, S m, rfl, k _ G1 H1 f1 (yld_ity (by simp [S]) fun i xs hY => ?_)⟩
    obtain ⟨c, d, hc, hd, rfl⟩ := hY
    have hc' : l[i]? = some c := by simpa [S] using hc
    have hd' : m[i]? = some d := by simpa [S] using hd
    refine ⟨[.str (S [c]), .str (S [d])], ?_, fun G => .cons (.str _) (.cons (.str _) .nil)⟩
    rw [List.getElem?_map, (List.getElem?_zip_eq_some (z := (c, d))).mpr ⟨hc', hd'⟩]
    rfl)
end
end DL

namespace DL
open PySem PySem.Spec PyProof.Rows L2
section
variable {X : Cx} {ρ ρ' : Envi} {pos : Pos} {s : Stmt} {ss : List Stmt} {st : List (List Stmt)} {O : Out → Prop}
/-! ## 19. comprehensions, in parts -/
theorem evl_lc0 {α : Type} {items : List α} {g f : α → D} {tg elt it : Expr} {scope : Scope} {own : List (Str × Nat)} {ρ1 : α → Envi} {is : α → List Nat} (hc : X.calm = true) (hN : X.N.Nodup) (ok : BlkOk X.N X.env.scope scope own) (hi : Iter X ρ tg it (items.map g))
    (h1 : ∀ x, x ∈ items → Blk X scope (fun Y => Tg Y tg (g x) (wipeR ρ (own.map (·.2))) (ρ1 x) (is x))) (h2 : ∀ x, x ∈ items → ∀ i ∈ is x, i ∈ own.map (·.2)) (h4 : ∀ x, x ∈ items → Blk X scope fun Y => Ev Y (ρ1 x) elt (f x))
    (hlen : items.length ≤ sizeLine) (hs : ∀ x, foldedSetIterable it X.env x = pure x) :
    EvL X ρ (.ListComp elt [⟨tg, it, [], 0⟩] scope pos) (items.map f) := by
  have h := evl_lc (pos := pos) (c := fun _ => true) (f := f) hc hN ok hi (fun x hx => ⟨ρ1 x, h1 x hx, h2 x hx, fun _ _ _ _ _ => tsts_nil, fun _ => h4 x hx⟩) hlen hs
  have e : items.filter (fun _ => true) = items := List.filter_eq_self.mpr (fun _ _ => rfl)
  rw [e] at h
  exact h
theorem evl_lc1 {α : Type} {items : List α} {g f : α → D} {c : α → Bool} {tg elt it t : Expr} {scope : Scope} {own : List (Str × Nat)} {ρ1 : α → Envi} {is : α → List Nat} (hc : X.calm = true) (hN : X.N.Nodup) (ok : BlkOk X.N X.env.scope scope own) (hi : Iter X ρ tg it (items.map g))
    (h1 : ∀ x, x ∈ items → Blk X scope (fun Y => Tg Y tg (g x) (wipeR ρ (own.map (·.2))) (ρ1 x) (is x))) (h2 : ∀ x, x ∈ items → ∀ i ∈ is x, i ∈ own.map (·.2)) (h3 : ∀ x, x ∈ items → Blk X scope fun Y => Tst Y (ρ1 x) t (c x))
    (h4 : ∀ x, x ∈ items → c x = true → Blk X scope fun Y => Ev Y (ρ1 x) elt (f x))
    (hlen : items.length ≤ sizeLine) (hs : ∀ x, foldedSetIterable it X.env x = pure x) :
    EvL X ρ (.ListComp elt [⟨tg, it, [t], 0⟩] scope pos) ((items.filter c).map f) :=
  evl_lc (pos := pos) hc hN ok hi (fun x hx => ⟨ρ1 x, h1 x hx, h2 x hx, fun s H C cl fp => tsts_one (h3 x hx s H C cl fp), h4 x hx⟩) hlen hs
/-- name = [..] where the model stores it in place -/
theorem bk_lc0 {α : Type} {items : List α} {g f : α → D} {tg elt it : Expr} {scope : Scope} {own : List (Str × Nat)} {ρ1 : α → Envi} {is : α → List Nat} {i : Nat} {y : Str} {py lpos : Pos} (hc : X.calm = true) (hN : X.N.Nodup) (hy : X.N[i]? = some y) (hyl : X.env.scope.names.lookup y = some .local)
    (hsw : swapsWith (.ListComp elt [⟨tg, it, [], 0⟩] scope lpos) (some (.Name y py)) pos.line X.env = pure true) (ok : BlkOk X.N X.env.scope scope own) (hi : Iter X ρ tg it (items.map g))
    (h1 : ∀ x, x ∈ items → Blk X scope (fun Y => Tg Y tg (g x) (wipeR ρ (own.map (·.2))) (ρ1 x) (is x))) (h2 : ∀ x, x ∈ items → ∀ i ∈ is x, i ∈ own.map (·.2)) (h4 : ∀ x, x ∈ items → Blk X scope fun Y => Ev Y (ρ1 x) elt (f x))
    (hlen : items.length ≤ sizeLine) (hl : i < ρ.length) (hs : ∀ x, foldedSetIterable it X.env x = pure x) (h : Bks X (ρ.set i (.own (items.map f))) (ss :: st) O) :
    Bks X ρ ((.Assign [.Name y py] (.ListComp elt [⟨tg, it, [], 0⟩] scope lpos) pos :: ss) :: st) O := by
  have q := sm_setLc (pos := pos) (lpos := lpos) (c := fun _ => true) (f := f) hc hN hy hyl hsw ok hi (fun x hx => ⟨ρ1 x, h1 x hx, h2 x hx, fun _ _ _ _ _ => tsts_nil, fun _ => h4 x hx⟩) hlen hl hs
  have e : items.filter (fun _ => true) = items := List.filter_eq_self.mpr (fun _ _ => rfl)
  rw [e] at q
  exact bk_step q h
theorem bk_lc1 {α : Type} {items : List α} {g f : α → D} {c : α → Bool} {tg elt it t : Expr} {scope : Scope} {own : List (Str × Nat)} {ρ1 : α → Envi} {is : α → List Nat} {i : Nat} {y : Str} {py lpos : Pos} (hc : X.calm = true) (hN : X.N.Nodup) (hy : X.N[i]? = some y) (hyl : X.env.scope.names.lookup y = some .local)
    (hsw : swapsWith (.ListComp elt [⟨tg, it, [t], 0⟩] scope lpos) (some (.Name y py)) pos.line X.env = pure true) (ok : BlkOk X.N X.env.scope scope own) (hi : Iter X ρ tg it (items.map g))
    (h1 : ∀ x, x ∈ items → Blk X scope (fun Y => Tg Y tg (g x) (wipeR ρ (own.map (·.2))) (ρ1 x) (is x))) (h2 : ∀ x, x ∈ items → ∀ i ∈ is x, i ∈ own.map (·.2)) (h3 : ∀ x, x ∈ items → Blk X scope fun Y => Tst Y (ρ1 x) t (c x))
    (h4 : ∀ x, x ∈ items → c x = true → Blk X scope fun Y => Ev Y (ρ1 x) elt (f x))
    (hlen : items.length ≤ sizeLine) (hl : i < ρ.length) (hs : ∀ x, foldedSetIterable it X.env x = pure x) (h : Bks X (ρ.set i (.own ((items.filter c).map f))) (ss :: st) O) :
    Bks X ρ ((.Assign [.Name y py] (.ListComp elt [⟨tg, it, [t], 0⟩] scope lpos) pos :: ss) :: st) O :=
  bk_step (sm_setLc (pos := pos) (lpos := lpos) (f := f) hc hN hy hyl hsw ok hi (fun x hx => ⟨ρ1 x, h1 x hx, h2 x hx, fun s H C cl fp => tsts_one (h3 x hx s H C cl fp), h4 x hx⟩) hlen hl hs) h
theorem ev_lcOf {elt : Expr} {gs : List Comprehension} {scope : Scope} {ds : List D} (h : EvL X ρ (.ListComp elt gs scope pos) ds) : Ev X ρ (.ListComp elt gs scope pos) (.list ds) := ev_ofL h
/-- what is walked, by its datum -/
inductive Itd : D → List D → Prop where
  | list (ds : List D) : Itd (.list ds) ds
  | tuple (ds : List D) : Itd (.tuple ds) ds
  | str (l : List Nat) : Itd (.str (S l)) (l.map fun c => PyData.str (S [c]))
theorem iter_ev {tg e : Expr} {d : D} {ds : List D} (he : Ev X ρ e d) (h : Itd d ds) : Iter X ρ tg e ds := by
  cases h with
  | list _ => exact iter_list he
  | tuple _ => exact iter_tup he
  | str _ => exact iter_strS he
theorem iter_range1F {a tg : Expr} {p : Pos} {j : Int} (ha : Ev X ρ a (.int j)) (hj : b62 j) (hg : Gl X "range") (hm : X.mg "range" = none) (hs : starEach [a] X.env = (false, eval a X.env) :: starEach [] X.env) :
    Iter X ρ tg (.Call (.Name "range" p) [a] [] pos) ((List.range j.toNat).map fun (i : Nat) => PyData.int (i : Nat)) := by
  have h := iter_range1 (tg := tg) (pos := pos) (p := p) ha hj hg hm hs
  simp only [Int.zero_add] at h
  exact h
theorem iter_range2F {a b tg : Expr} {p : Pos} {i j : Int} (ha : Ev X ρ a (.int i)) (hb : Ev X ρ b (.int j)) (hi : b62 i) (hj : b62 j) (hg : Gl X "range") (hm : X.mg "range" = none) (hs : starEach [a, b] X.env = (false, eval a X.env) :: starEach [b] X.env) (hs2 : starEach [b] X.env = (false, eval b X.env) :: starEach [] X.env) :
    Iter X ρ tg (.Call (.Name "range" p) [a, b] [] pos) ((List.range (j - i).toNat).map fun (n : Nat) => PyData.int (i + (n : Nat))) := iter_range2 ha hb hi hj hg hm hs hs2
theorem iter_revrange1F {a tg : Expr} {p p2 pos2 : Pos} {j : Int} (ha : Ev X ρ a (.int j)) (hj : b62 j) (hg : Gl X "reversed") (hm : X.mg "reversed" = none) (hg2 : Gl X "range") (hm2 : X.mg "range" = none) (hs2 : starEach [a] X.env = (false, eval a X.env) :: starEach [] X.env)
    (hs : starEach [.Call (.Name "range" p2) [a] [] pos2] X.env = (false, eval (.Call (.Name "range" p2) [a] [] pos2) X.env) :: starEach [] X.env) :
    Iter X ρ tg (.Call (.Name "reversed" p) [.Call (.Name "range" p2) [a] [] pos2] [] pos) ((List.range j.toNat).map fun (i : Nat) => PyData.int (j - 1 - (i : Nat))) := by
  have h := iter_revrange1 (tg := tg) (pos := pos) (p := p) ha hj hg hm hg2 hm2 hs2 hs
  have e : ((List.range j.toNat).map fun (i : Nat) => PyData.int (0 + (j - 0).toNat - 1 + (i : Nat) * -1)) = (List.range j.toNat).map fun (i : Nat) => PyData.int (j - 1 - (i : Nat)) := by
    refine List.map_congr_left fun i hi => ?_
    have : i < j.toNat := List.mem_range.mp hi
    congr 1
    omega
  rw [e] at h
  exact h

/-! ## 20. a range that is kept -/
def rngF (p : Addr) (i j c : Int) : Heap → Prop := fun h => ∃ t u v, h.get? p = some { cls := .type "range", data := .fields #[.int i t, .int j u, .int c v] }
/-- the slot holds range(i, j, c), n turns -/
def rngS (i j c : Int) : Hp → V → Prop := fun G v => ∃ p, v = .ref p ∧ G p = some (.ext (rngF p i j c))
theorem rngS_mono {i j c : Int} (G G' : Hp) (v : V) (s : Same G G') (h : rngS i j c G v) : rngS i j c G' v := by
  obtain ⟨p, rfl, e⟩ := h
  exact ⟨p, rfl, s _ _ e⟩
theorem rngF_ok {P : Program} {w : World} {H : Hp} {h : Heap} {p : Addr} {i j c : Int} {t u v : Tok} (e : h.get? p = some { cls := .type "range", data := .fields #[.int i t, .int j u, .int c v] }) : ObjOk P w H h p (.ext (rngF p i j c)) :=
  ⟨⟨t, u, v, e⟩, ⟨_, e⟩, fun h1 h2 ⟨t, u, v, e1⟩ k => ⟨t, u, v, k _ e1⟩⟩
theorem pe_range3 {a b c : Expr} {ta : TA} {p : Pos} (hg : Gl X "range") (hm : X.mg "range" = none) (ha : PA X [a, b, c] ta)
    (hs : starEach [a, b, c] X.env = (false, eval a X.env) :: starEach [b, c] X.env) (hpl : (backTo pos (starEach [b, c] X.env)).any (·.1) = false) :
    PE X (.Call (.Name "range" p) [a, b, c] [] pos) (fun σ H Q => ta σ H fun vs H1 => ∃ (i j c : Int) (n : Nat), vs = [.int i, .int j, .int c] ∧ RgC i j c n ∧ ∀ p, H1 p = none → Q (.ref p) (upd H1 p (.ext (rngF p i j c)))) := by
  refine ⟨fun pins s σ H Q I h => ?_⟩
  refine Call_ (ld_blt I hg hm boot_range (PyProof.Rows.callWith_type1 (thn (ha.run pos pins s σ H _ I h) fun us s1 ⟨vs, H1, I1, r1, q1⟩ => ?_) hs hpl))
  obtain ⟨i, j, k, n, e, ⟨c0, c1, c2, c3⟩, q⟩ := q1
  subst e
  cases r1 with
  | cons r rr =>
    cases rr with
    | cons r' rr =>
      cases rr with
      | cons r'' rr =>
        cases rr
        obtain ⟨t, rfl⟩ := r
        obtain ⟨t', rfl⟩ := r'
        obtain ⟨t'', rfl⟩ := r''
        refine call_range_3 c0 ?_ (.inl (PyProof.noPylong_small c1))
        exact ⟨.ref s1.heap.objs.size, upd H1 s1.heap.objs.size (.ext (rngF s1.heap.objs.size i j k)), I1.laid (t' := s1.toks) (fun b o e => Heap.get?_push_of_some _ e) (Nat.le_refl _) (rngF_ok (Heap.get?_push_size _ rfl)), rfl, q _ (I1.hok.fresh (Nat.le_refl _))⟩
/-- name = range(a, b, c) -/
theorem bk_rng3 {x : Str} {k : Nat} {a b c : Expr} {p pos' rpos : Pos} {i j l : Int} {n : Nat} (ha : Ev X ρ a (.int i)) (hb : Ev X ρ b (.int j)) (hcc : Ev X ρ c (.int l)) (hr : RgC i j l n) (hN : X.N.Nodup) (hi : X.N[k]? = some x) (hx : Loc X.env.scope x) (hk : k < ρ.length)
    (hsw : swapsWith (.Call (.Name "range" p) [a, b, c] [] rpos) (some (.Name x pos')) pos.line X.env = pure false) (hf : X.fn x = true ∨ X.env.scope.names.lookup x = some .local) (hg : Gl X "range") (hm : X.mg "range" = none)
    (hs : starEach [a, b, c] X.env = (false, eval a X.env) :: starEach [b, c] X.env) (hs2 : starEach [b, c] X.env = (false, eval b X.env) :: starEach [c] X.env) (hs3 : starEach [c] X.env = (false, eval c X.env) :: starEach [] X.env) (hpl : (backTo rpos (starEach [b, c] X.env)).any (·.1) = false)
    (h : Bks X (ρ.set k (.raw (rngS i j l))) (ss :: st) O) : Bks X ρ ((.Assign [.Name x pos'] (.Call (.Name "range" p) [a, b, c] [] rpos) pos :: ss) :: st) O := by
  refine bk_step (ρ' := ρ.set k (.raw (rngS i j l))) (fun G0 H0 G H σ D S kk => ?_) h
  refine wS_of (ps_set hN hi hx (pe_range3 hg hm pa_w hs hpl) hsw hf) ?_
  refine evs_cons ha (evs_cons hb (evs_cons hcc evs_nil hs3) hs2) hs σ G H _ S.env fun vs G1 H1 f1 hv => ?_
  cases hv with
  | cons h1 hv =>
    obtain ⟨v2, v3, rfl, h2, h3⟩ := DpAll.two hv
    cases h1
    cases h2
    cases h3
    refine ⟨i, j, l, n, rfl, hr, fun q hq => ?_⟩
    have f2 := f1.trans (Frm.new f1.s (o := .ext (rngF q i j l)) hq)
    have E := S.env.frm f2
    have key : ∀ (m : Nat) (sv : SV), (ρ.set k (.raw (rngS i j l)))[m]? = some sv → (k = m ∧ sv = .raw (rngS i j l)) ∨ (k ≠ m ∧ ρ[m]? = some sv) := fun m sv e => by
      by_cases z : k = m
      · subst z
        rw [List.getElem?_set_self hk] at e
        cases e
        exact .inl ⟨rfl, rfl⟩
      · rw [List.getElem?_set_ne z] at e
        exact .inr ⟨z, e⟩
    have hk' : k < σ.length := by rw [S.env.len]; exact hk
    refine kk _ _ _ ⟨⟨f2.s, by simp [S.env.len], fun m d e => ?_, fun m ds e => ?_, fun m m' ds es b e1 e2 e3 e4 => ?_, fun m φ e => ?_⟩, S.frm.trans f2, fun m ds b e1 e2 => ?_⟩
    · rcases key m _ e with ⟨_, z⟩ | ⟨z, e⟩
      · cases z
      · rw [List.getElem?_set_ne z]; exact E.dat m d e
    · rcases key m _ e with ⟨_, z⟩ | ⟨z, e⟩
      · cases z
      · rw [List.getElem?_set_ne z]; exact E.own m ds e
    · rcases key m _ e1 with ⟨_, z⟩ | ⟨z, e1⟩
      · cases z
      · rcases key m' _ e2 with ⟨_, z2⟩ | ⟨z2, e2⟩
        · cases z2
        · rw [List.getElem?_set_ne z] at e3
          rw [List.getElem?_set_ne z2] at e4
          exact E.inj m m' ds es b e1 e2 e3 e4
    · rcases key m _ e with ⟨rfl, z⟩ | ⟨z, e⟩
      · cases z
        exact ⟨rngS_mono, .ref q, List.getElem?_set_self hk', q, rfl, upd_same⟩
      · rw [List.getElem?_set_ne z]; exact E.raw m φ e
    · rcases key m _ e1 with ⟨_, z⟩ | ⟨z, e1⟩
      · cases z
      · rw [List.getElem?_set_ne z] at e2
        exact S.new m ds b e1 e2
/-- a kept range is walked -/
theorem iter_rngS {tg : Expr} {y : Str} {k : Nat} {p : Pos} {i j c : Int} {n : Nat} (h0 : ρ[k]? = some (.raw (rngS i j c))) (hr : RgC i j c n) (hN : X.N[k]? = some y) (hv : Vis X.env.scope y) (hd : (y == ("__debug__" : Str)) = false) (hcd : (y == ("__classdict__" : Str)) = false) :
    Iter X ρ tg (.Name y p) ((List.range n).map fun (m : Nat) => PyData.int (i + (m : Nat) * c)) := fun σ G H R E kk => by
  obtain ⟨_, v, e1, q, rfl, e2⟩ := E.raw k _ h0
  refine wI_of (t := fun σ H R => ∃ q, σ[k]? = some (some (.ref q)) ∧ H q = some (.ext (rngF q i j c)) ∧ R (Itc i c n) H) ⟨fun pins s σ H R I ⟨q, f1, f2, hR⟩ => ?_⟩ ⟨q, e1, E.s _ _ e2, kk _ G H (.refl E.s) yld_rangeC⟩
  obtain ⟨m, hn, hl⟩ := I.loc
  obtain ⟨u, ru, l⟩ := hl k y (.ref q) hN f1 hv
  cases ru
  obtain ⟨c0, c1, c2, c3⟩ := hr
  have fin : wpAny (model X.prog X.w) X.A (pyIter (.ref q)) (PIE X pins σ tg R) X.xe s := by
    obtain ⟨⟨t, u, v, ho⟩, _, _⟩ := I.hok q _ f2
    refine wpAny_pyIter_range (show IsRange s.heap q i j c t u v from ho) c2 ?_
    refine pi_one (tk := s.toks) I _ (turn_rangeC _ i c n) ?_ hR
    have e1 : i + ((0 : Nat) : Int) * c = i := by simp
    have e2 : (n : Int) - ((0 : Nat) : Int) = Builtin.Range.rangeSize i j c := by rw [c3]; simp
    show IsRangeIter _ _ (i + ((0 : Nat) : Int) * c) ((n : Int) - ((0 : Nat) : Int)) c
    rw [e1, e2]
    exact Heap.get?_push_size _ rfl
  rcases l with ⟨hk, hm⟩ | ⟨hk, c, hc, hcell⟩
  · exact wpAny_Name (wpAny_loadName_local I.ok.kind hk hn hm fin) hd
  · rcases hk with hk | hk
    · exact wpAny_Name (wpAny_loadName_cell I.ok.kind hk hc hcell fin) hd
    · exact wpAny_Name (wpAny_loadName_free I.ok.kind hk hc hcell fin hcd) hd

/-! ## 21. more of texts and ints -/
theorem glued_empty (ys : List (List Nat)) : Txt.join (S []) (ys.map S) = S ys.flatten := by
  show (⟨((ys.map S).drop 1).foldl (fun acc p => acc ++ (#[] : Array Nat) ++ p.cps) ((ys.map S).headD Str.empty).cps⟩ : Str) = _
  have aux : ∀ (l : List (List Nat)) (acc : Array Nat), (l.map S).foldl (fun acc p => acc ++ (#[] : Array Nat) ++ p.cps) acc = acc ++ l.flatten.toArray := by
    intro l
    induction l with
    | nil => intro acc; simp
    | cons x l ih =>
      intro acc
      rw [List.map_cons, List.foldl_cons, ih]
      apply Array.ext'
      simp [S]
  cases ys with
  | nil => rfl
  | cons y ys =>
    rw [List.map_cons, List.drop_succ_cons, List.drop_zero, List.headD_cons, aux]
    show (⟨y.toArray ++ ys.flatten.toArray⟩ : Str) = ⟨(y ++ ys.flatten).toArray⟩
    simp
theorem mth_joinM {α : Type} {items : List α} {h : α → List Nat} (hz : (items.map fun x => (h x).length).sum ≤ 16777216) : MthD X "join" (S []) [.list (items.map fun x => .str (S (h x)))] (.str (S (items.map h).flatten)) := by
  have e1 : (items.map fun x => PyData.str (S (h x))) = ((items.map h).map S).map PyData.str := by simp [List.map_map, Function.comp_def]
  rw [e1, ← glued_empty]
  refine mth_join ?_
  have e2 : (((items.map h).map S).map (·.length)).sum = (items.map fun x => (h x).length).sum := by
    simp [List.map_map, Function.comp_def, S_len]
  rw [e2, S_len]
  simpa using hz
theorem blt_sumM {α : Type} {items : List α} {h : α → Int} (hc : X.calm = true) : BltD X "sum" [.list (items.map fun x => .int (h x))] (.int (items.map h).sum) := by
  have e : (items.map fun x => PyData.int (h x)) = (items.map h).map PyData.int := by simp [List.map_map, Function.comp_def]
  rw [e]
  exact blt_sum hc
theorem toStr_digit (n : Nat) (h : n ≤ 9) : (Str.ofString (toString ((n : Nat) : Int))) = S [48 + n] := by
  have : n = 0 ∨ n = 1 ∨ n = 2 ∨ n = 3 ∨ n = 4 ∨ n = 5 ∨ n = 6 ∨ n = 7 ∨ n = 8 ∨ n = 9 := by omega
  rcases this with rfl | rfl | rfl | rfl | rfl | rfl | rfl | rfl | rfl | rfl <;> decide
theorem blt_strD {i : Int} (h : 0 ≤ i ∧ i ≤ 9) : BltD X "str" [.int i] (.str (S [48 + i.toNat])) := by
  have e := toStr_digit i.toNat (by omega)
  have ei : ((i.toNat : Nat) : Int) = i := by omega
  rw [ei] at e
  rw [← e]
  refine blt_strI ?_
  have : i.natAbs = 0 ∨ i.natAbs = 1 ∨ i.natAbs = 2 ∨ i.natAbs = 3 ∨ i.natAbs = 4 ∨ i.natAbs = 5 ∨ i.natAbs = 6 ∨ i.natAbs = 7 ∨ i.natAbs = 8 ∨ i.natAbs = 9 := by omega
  rcases this with h | h | h | h | h | h | h | h | h | h <;> (rw [h]; decide)
theorem blt_strB {c : Bool} : BltD X "str" [.int (if c = true then 1 else 0)] (.str (S [if c = true then 49 else 48])) := by
  cases c
  · exact blt_strD (X := X) (i := 0) ⟨by decide, by decide⟩
  · exact blt_strD (X := X) (i := 1) ⟨by decide, by decide⟩
theorem bin_and1 {i : Int} : BinD X .BitAnd (.int i) (.int 1) (.int (i % 2)) := ⟨_, op_andM, fun x y G H Q s hx hy k => by
  cases hx; cases hy
  exact ⟨i, 1, rfl, rfl, k.here s (.int _)⟩⟩
theorem bin_shrN {i : Int} {n : Nat} : BinD X .RShift (.int i) (.int (n : Nat)) (.int (i / 2 ^ n)) := ⟨_, op_shrN, fun x y G H Q s hx hy k => by
  cases hx; cases hy
  exact ⟨i, n, rfl, rfl, k.here s (.int _)⟩⟩
theorem bin_shlN {n : Nat} (h : n ≤ 134217727) : BinD X .LShift (.int 1) (.int (n : Nat)) (.int (2 ^ n)) := ⟨_, op_oneShl, fun x y G H Q s hx hy k => by
  cases hx; cases hy
  exact ⟨n, rfl, rfl, h, k.here s (.int _)⟩⟩
/-- replace by lists of signs -/
theorem replace_S {x y z : List Nat} (hy : y ≠ []) : Txt.replace (S x) (S y) (S z) = S (StrLaws.replL y z x) := by
  have h := StrLaws.replace_list (x := S x) (y := S y) (z := S z) (by rw [S_len]; exact List.length_pos_iff.mpr hy)
  rw [S_list, S_list, S_list] at h
  rw [← h, S_eta]
end
end DL

namespace DL
open PySem PySem.Spec PyProof.Rows L2
/-! ## 22. == of data that are told by values of Lean -/
structure Emb {α : Type} [DecidableEq α] (g : α → D) (p : α → Prop) (k : Nat) : Prop where
  lay : ∀ x, p x → (g x).canLay0 = true
  dep : ∀ x, (g x).depth ≤ k
  eq : ∀ x y, PyData.eqv (g x) (g y) = decide (x = y)
theorem emb_int : Emb PyData.int (fun _ => True) 0 := ⟨fun _ _ => rfl, fun _ => Nat.le_refl _, fun x y => by
  simp only [PyData.eqv]
  by_cases h : x = y <;> simp [h]⟩
theorem Emb.all {α : Type} [DecidableEq α] {g : α → D} {p : α → Prop} {k : Nat} (E : Emb g p k) : (∀ xs : List α, (∀ x ∈ xs, p x) → PyData.canLayAll0 (xs.map g) = true) ∧ (∀ xs : List α, PyData.depthAll (xs.map g) ≤ k) ∧ ∀ xs ys : List α, PyData.eqvAll (xs.map g) (ys.map g) = decide (xs = ys) := by
  refine ⟨fun xs => ?_, fun xs => ?_, fun xs => ?_⟩
  · induction xs with
    | nil => intro _; rfl
    | cons x xs ih =>
      intro h
      rw [List.map_cons, PyData.canLayAll0, E.lay x (h x (by simp)), ih fun y hy => h y (by simp [hy])]
      rfl
  · induction xs with
    | nil => exact Nat.zero_le _
    | cons x xs ih =>
      rw [List.map_cons, PyData.depthAll]
      exact Nat.max_le.mpr ⟨E.dep x, ih⟩
  · induction xs with
    | nil =>
      intro ys
      cases ys with
      | nil => rfl
      | cons y ys => rw [List.map_cons, List.map_nil, PyData.eqvAll]; simp
    | cons x xs ih =>
      intro ys
      cases ys with
      | nil => rw [List.map_cons, List.map_nil, PyData.eqvAll]; simp
      | cons y ys =>
        rw [List.map_cons, List.map_cons, PyData.eqvAll, E.eq, ih]
        by_cases h1 : x = y <;> by_cases h2 : xs = ys <;> simp [h1, h2]
theorem Emb.list {α : Type} [DecidableEq α] {g : α → D} {p : α → Prop} {k : Nat} (E : Emb g p k) : Emb (fun xs : List α => PyData.list (xs.map g)) (fun xs => ∀ x ∈ xs, p x) (k + 1) :=
  ⟨fun xs h => by rw [PyData.canLay0]; exact E.all.1 xs h, fun xs => by rw [PyData.depth]; exact Nat.succ_le_succ (E.all.2.1 xs), fun xs ys => by rw [PyData.eqv]; exact E.all.2.2 xs ys⟩
theorem Emb.tuple {α : Type} [DecidableEq α] {g : α → D} {p : α → Prop} {k : Nat} (E : Emb g p k) : Emb (fun xs : List α => PyData.tuple (xs.map g)) (fun xs => ∀ x ∈ xs, p x) (k + 1) :=
  ⟨fun xs h => by rw [PyData.canLay0]; exact E.all.1 xs h, fun xs => by rw [PyData.depth]; exact Nat.succ_le_succ (E.all.2.1 xs), fun xs ys => by rw [PyData.eqv]; exact E.all.2.2 xs ys⟩
theorem Emb.shaped {α : Type} [DecidableEq α] {g : α → D} {p : α → Prop} {k : Nat} (E : Emb g p k) (hk : k ≤ 64) (x : α) (h : p x) : SeqAt.shaped (g x) = true := by
  unfold SeqAt.shaped
  rw [E.lay x h, Bool.true_and, decide_eq_true_eq]
  exact Nat.le_trans (E.dep x) hk
theorem emb_str : Emb (fun l : List Nat => PyData.str (S l)) (fun l => PyData.strOk (S l) = true) 0 := ⟨fun _ h => h, fun _ => Nat.le_refl _, fun x y => by
  simp only [PyData.eqv]
  by_cases h : x = y
  · subst h; simp
  · have : ¬ S x = S y := fun e => h (S_inj.mp e)
    rw [beq_eq_false_iff_ne.mpr this, decide_eq_false h]⟩
section
variable {X : Cx} {ρ : Envi} {pos : Pos}
theorem cmp_eqE {α : Type} [DecidableEq α] {g : α → D} {p : α → Prop} {k : Nat} (E : Emb g p k) (hk : k ≤ 64) {x y : α} (hx : p x) (hy : p y) (hu : X.A.units + 64 < cLine) : CmpD X .Eq (g x) (g y) (decide (x = y)) := by
  have h := cmp_eqD (X := X) hu (E.shaped hk x hx) (E.shaped hk y hy)
  rw [E.eq] at h
  exact h
theorem cmp_neE {α : Type} [DecidableEq α] {g : α → D} {p : α → Prop} {k : Nat} (E : Emb g p k) (hk : k ≤ 64) {x y : α} (hx : p x) (hy : p y) (hu : X.A.units + 64 < cLine) : CmpD X .NotEq (g x) (g y) (!decide (x = y)) := by
  have h := cmp_neD (X := X) hu (E.shaped hk x hx) (E.shaped hk y hy)
  rw [E.eq] at h
  exact h
theorem cmp_eqLI {ns ms : List Int} (hu : X.A.units + 64 < cLine) : CmpD X .Eq (.list (ns.map .int)) (.list (ms.map .int)) (decide (ns = ms)) := cmp_eqE emb_int.list (by decide) (fun _ _ => trivial) (fun _ _ => trivial) hu
theorem cmp_neLI {ns ms : List Int} (hu : X.A.units + 64 < cLine) : CmpD X .NotEq (.list (ns.map .int)) (.list (ms.map .int)) (!decide (ns = ms)) := cmp_neE emb_int.list (by decide) (fun _ _ => trivial) (fun _ _ => trivial) hu
theorem cmp_eqTI {ns ms : List Int} (hu : X.A.units + 64 < cLine) : CmpD X .Eq (.tuple (ns.map .int)) (.tuple (ms.map .int)) (decide (ns = ms)) := cmp_eqE emb_int.tuple (by decide) (fun _ _ => trivial) (fun _ _ => trivial) hu
theorem cmp_neTI {ns ms : List Int} (hu : X.A.units + 64 < cLine) : CmpD X .NotEq (.tuple (ns.map .int)) (.tuple (ms.map .int)) (!decide (ns = ms)) := cmp_neE emb_int.tuple (by decide) (fun _ _ => trivial) (fun _ _ => trivial) hu
/-- slices -/
theorem sIx_z (n d : Nat) {v : Int} (h : 0 ≤ v) : HT.sIx n d (some v) = min v.toNat n := by
  show (if v < 0 then (v + (n : Int)).toNat else min v.toNat n) = _
  rw [if_neg (by omega)]
theorem cutN_pos {l : List Nat} {a b : Int} (ha : 0 ≤ a) (hb : 0 ≤ b) : cutN l (some a) (some b) = (l.drop a.toNat).take (b.toNat - a.toNat) := by
  unfold cutN
  rw [sIx_z _ _ ha, sIx_z _ _ hb]
  rcases Nat.le_total a.toNat l.length with h1 | h1
  · rw [Nat.min_eq_left h1]
    rcases Nat.le_total b.toNat l.length with h2 | h2
    · rw [Nat.min_eq_left h2]
    · rw [Nat.min_eq_right h2, List.take_of_length_le (by rw [List.length_drop]; omega), List.take_of_length_le (by rw [List.length_drop]; omega)]
  · rw [Nat.min_eq_right h1, List.drop_length, List.drop_eq_nil_of_le h1]
    simp
theorem cutN_to {l : List Nat} {b : Int} (hb : 0 ≤ b) : cutN l none (some b) = l.take b.toNat := by
  unfold cutN
  rw [sIx_z _ _ hb]
  show (l.drop 0).take (min b.toNat l.length - 0) = _
  rw [List.drop_zero, Nat.sub_zero]
  rcases Nat.le_total b.toNat l.length with h2 | h2
  · rw [Nat.min_eq_left h2]
  · rw [Nat.min_eq_right h2, List.take_length, List.take_of_length_le h2]
theorem cutN_from {l : List Nat} {a : Int} (ha : 0 ≤ a) : cutN l (some a) none = l.drop a.toNat := by
  unfold cutN
  rw [sIx_z _ _ ha]
  show (l.drop (min a.toNat l.length)).take (l.length - min a.toNat l.length) = _
  rcases Nat.le_total a.toNat l.length with h1 | h1
  · rw [Nat.min_eq_left h1, List.take_of_length_le (by rw [List.length_drop]; omega)]
  · rw [Nat.min_eq_right h1, List.drop_length, List.drop_eq_nil_of_le h1]
    simp
theorem sIx_neg (n d : Nat) {v : Int} (h : v < 0) : HT.sIx n d (some v) = (v + (n : Int)).toNat := by
  show (if v < 0 then (v + (n : Int)).toNat else min v.toNat n) = _
  rw [if_pos h]
theorem get_rng {n i : Nat} {d : D} (hd : ((List.range n).map fun (m : Nat) => PyData.int (m : Nat))[i]? = some d) : i < n ∧ d = .int (i : Nat) := by
  rw [List.getElem?_map] at hd
  by_cases hi : i < n
  · rw [List.getElem?_range hi] at hd
    cases hd
    exact ⟨hi, rfl⟩
  · rw [List.getElem?_eq_none (by simpa using hi)] at hd
    cases hd
theorem get_map {α : Type} {xs : List α} {g : α → D} {i : Nat} {d : D} (hd : (xs.map g)[i]? = some d) : ∃ x, xs[i]? = some x ∧ d = g x ∧ i < xs.length := by
  rw [List.getElem?_map] at hd
  rcases h : xs[i]? with _ | x
  · rw [h] at hd
    cases hd
  · rw [h] at hd
    cases hd
    exact ⟨x, rfl, rfl, (List.getElem?_eq_some_iff.mp h).1⟩
theorem take_succ_get {α : Type} {xs : List α} {i : Nat} {x : α} (h : xs[i]? = some x) : xs.take (i + 1) = xs.take i ++ [x] := by
  rw [List.take_succ, h]
  rfl
end
/-! ## 23. several ways to one place -/
section
variable {X : Cx} {ρ : Envi} {pos : Pos} {b ss : List Stmt} {st : List (List Stmt)} {O : Out → Prop}
def Nx (Q : Envi → Prop) (O : Out → Prop) : Out → Prop
  | .nx r => Q r
  | o => O o
theorem bk_cut (Q : Envi → Prop) (h1 : Bks X ρ [b] (Nx Q O)) (h2 : ∀ r, Q r → Bks X r st O) : Bks X ρ (b :: st) O := fun G0 H0 G H σ D S P =>
  h1 G0 H0 G H σ { D with nx := wK X st D } S ⟨fun r σ' G' H' q S' => h2 r q G0 H0 G' H' σ' D S' P, fun d v G' H' q f r => P.rt d v G' H' q f r, fun r σ' G' H' q S' => P.bk r σ' G' H' q S', fun r σ' G' H' q S' => P.ct r σ' G' H' q S', P.xxOf (fun _ _ _ o => o) fun _ _ _ _ S' => S'⟩
theorem bk_ifJ {c : Expr} {a b : List Stmt} {p : Bool} (Q : Envi → Prop) (hc : Tst X ρ c p) (h1 : p = true → Bks X ρ [a] (Nx Q O)) (h2 : p = false → Bks X ρ [b] (Nx Q O)) (h3 : ∀ r, Q r → Bks X r (ss :: st) O) : Bks X ρ ((.If c a b pos :: ss) :: st) O :=
  bk_if hc (fun e => bk_cut Q (h1 e) h3) (fun e => bk_cut Q (h2 e) h3)
theorem bk_endN {Q : Envi → Prop} (h : Q ρ) : Bks X ρ [] (Nx Q O) := bk_end h
theorem bk_endN1 {Q : Envi → Prop} (h : Q ρ) : Bks X ρ [[]] (Nx Q O) := bk_nil (bk_end h)
theorem bk_endN2 {Q : Envi → Prop} (h : Q ρ) : Bks X ρ [[], []] (Nx Q O) := bk_nil (bk_nil (bk_end h))
theorem bk_endN3 {Q : Envi → Prop} (h : Q ρ) : Bks X ρ [[], [], []] (Nx Q O) := bk_nil (bk_nil (bk_nil (bk_end h)))
theorem bk_endN4 {Q : Envi → Prop} (h : Q ρ) : Bks X ρ [[], [], [], []] (Nx Q O) := bk_nil (bk_nil (bk_nil (bk_nil (bk_end h))))
theorem cmp_neNN (hu : X.A.units + 64 < cLine) : CmpD X .NotEq .none .none false := cmp_neD hu rfl rfl
theorem cmp_eqNN (hu : X.A.units + 64 < cLine) : CmpD X .Eq .none .none true := cmp_eqD hu rfl rfl
theorem cmp_neSN {l : List Nat} (h : PyData.strOk (S l) = true) (hu : X.A.units + 64 < cLine) : CmpD X .NotEq (.str (S l)) .none true := cmp_neD hu (by unfold SeqAt.shaped; rw [PyData.canLay0, h]; rfl) rfl
theorem cmp_neNS {l : List Nat} (h : PyData.strOk (S l) = true) (hu : X.A.units + 64 < cLine) : CmpD X .NotEq .none (.str (S l)) true := cmp_neD hu rfl (by unfold SeqAt.shaped; rw [PyData.canLay0, h]; rfl)
theorem tw_andF {a b : Expr} {rest : List Expr} (ha : Tst X ρ a false) : TstW X ρ (.BoolOp .And (a :: b :: rest) pos) false := tw_and (d := false) ha fun e => nomatch e
theorem tw_orT {a b : Expr} {rest : List Expr} (ha : Tst X ρ a true) : TstW X ρ (.BoolOp .Or (a :: b :: rest) pos) true := tw_or (d := true) ha fun e => nomatch e
theorem cmp_isNN : CmpD X .Is .none .none true := cmp_isN true fun _ _ _ h => by cases h; rfl
theorem cmp_isnNN : CmpD X .IsNot .none .none false := cmp_isnotN false fun _ _ _ h => by cases h; rfl
theorem cmp_isNS {x : Str} : CmpD X .Is (.str x) .none false := cmp_isN false fun _ _ _ h => by cases h; rfl
theorem cmp_isnNS {x : Str} : CmpD X .IsNot (.str x) .none true := cmp_isnotN true fun _ _ _ h => by cases h; rfl
theorem cmp_isNI {x : Int} : CmpD X .Is (.int x) .none false := cmp_isN false fun _ _ _ h => by cases h; rfl
theorem cmp_isnNI {x : Int} : CmpD X .IsNot (.int x) .none true := cmp_isnotN true fun _ _ _ h => by cases h; rfl
theorem cmp_isNL {x : List D} : CmpD X .Is (.list x) .none false := cmp_isN false fun _ _ _ h => by cases h; rfl
theorem cmp_isnNL {x : List D} : CmpD X .IsNot (.list x) .none true := cmp_isnotN true fun _ _ _ h => by cases h; rfl
theorem cmp_isNT {x : List D} : CmpD X .Is (.tuple x) .none false := cmp_isN false fun _ _ _ h => by cases h; rfl
theorem cmp_isnNT {x : List D} : CmpD X .IsNot (.tuple x) .none true := cmp_isnotN true fun _ _ _ h => by cases h; rfl
end
theorem DpAll.dropLast {K : PySem.W.Frag} {G : Hp} : ∀ {vs : List V} {ds : List D}, DpAll K G vs ds → DpAll K G vs.dropLast ds.dropLast
  | _, _, .nil => .nil
  | _, _, .cons r .nil => .nil
  | _, _, .cons r (.cons q t) => .cons r (DpAll.dropLast (.cons q t))
section
variable {X : Cx} {ρ : Envi} {pos : Pos} {ss : List Stmt} {st : List (List Stmt)} {O : Out → Prop}
theorem bk_pop {i : Nat} {x : Str} {px apos cpos : Pos} {ds : List D} (h0 : ρ[i]? = some (.own ds)) (hne : ds ≠ []) (hN : X.N[i]? = some x) (hv : Vis X.env.scope x)
    (hb : attributeBase (.Name x px) "pop" X.env (eval (.Name x px) X.env) = eval (.Name x px) X.env)
    (hl : (apos.endLine == cpos.line) = true)
    (hsw : swapsWith (.Call (.Attribute (.Name x px) "pop" apos) [] [] cpos) none pos.line X.env = pure false) (hd : (x == ("__debug__" : Str)) = false) (hcd : (x == ("__classdict__" : Str)) = false)
    (h : Bks X (ρ.set i (.own ds.dropLast)) (ss :: st) O) : Bks X ρ ((.Expr (.Call (.Attribute (.Name x px) "pop" apos) [] [] cpos) pos :: ss) :: st) O :=
  bk_step (fun G0 H0 G H σ D S k => by
    obtain ⟨a, vs, q1, q2, q3, q4⟩ := S.env.own i ds h0
    refine wS_of (ps_expr pe_w hsw) (wE_of (pe_bm0 PySem.F.plainAttrs_list PySem.F.slot_list_pop PySem.F.type_list_pop mt_pop (pe_var hN hv hd hcd) hb hl) ?_)
    have hlen := DpAll.length q4
    have hpos : 0 < vs.length := by
      have := List.length_pos_iff.mpr hne
      omega
    refine ⟨.ref a, q1, .inl ⟨rfl, vs, .inl (.inl q2)⟩, a, vs, vs[vs.length - 1], rfl, rfl, q2, List.getElem?_eq_getElem (by omega), ?_⟩
    exact k G _ σ (S.upd h0 q1 q3 (DpAll.dropLast q4))) h
end
end DL

namespace DL
open PySem PySem.Spec PyProof.Rows L2
/-! ## 24. all, any; the least and the greatest -/
def lmin : List Int → Int
  | [] => 0
  | x :: xs => xs.foldl min x
def lmax : List Int → Int
  | [] => 0
  | x :: xs => xs.foldl max x
theorem foldl_min_le : ∀ (xs : List Int) (a : Int), xs.foldl min a ≤ a ∧ ∀ y ∈ xs, xs.foldl min a ≤ y
  | [], a => ⟨Int.le_refl _, fun y h => by cases h⟩
  | x :: xs, a => by
    obtain ⟨h1, h2⟩ := foldl_min_le xs (min a x)
    rw [List.foldl_cons]
    refine ⟨by omega, fun y hy => ?_⟩
    rcases List.mem_cons.mp hy with e | h
    · subst e; omega
    · exact h2 y h
theorem foldl_min_mem : ∀ (xs : List Int) (a : Int), xs.foldl min a = a ∨ xs.foldl min a ∈ xs
  | [], a => .inl rfl
  | x :: xs, a => by
    rw [List.foldl_cons]
    rcases foldl_min_mem xs (min a x) with h | h
    · by_cases q : a ≤ x
      · left; rw [h]; omega
      · right; rw [h, show min a x = x by omega]; simp
    · right; simp [h]
theorem foldl_max_ge : ∀ (xs : List Int) (a : Int), a ≤ xs.foldl max a ∧ ∀ y ∈ xs, y ≤ xs.foldl max a
  | [], a => ⟨Int.le_refl _, fun y h => by cases h⟩
  | x :: xs, a => by
    obtain ⟨h1, h2⟩ := foldl_max_ge xs (max a x)
    rw [List.foldl_cons]
    refine ⟨by omega, fun y hy => ?_⟩
    rcases List.mem_cons.mp hy with e | h
    · subst e; omega
    · exact h2 y h
theorem foldl_max_mem : ∀ (xs : List Int) (a : Int), xs.foldl max a = a ∨ xs.foldl max a ∈ xs
  | [], a => .inl rfl
  | x :: xs, a => by
    rw [List.foldl_cons]
    rcases foldl_max_mem xs (max a x) with h | h
    · by_cases q : x ≤ a
      · left; rw [h]; omega
      · right; rw [h, show max a x = x by omega]; simp
    · right; simp [h]
theorem lmin_le {xs : List Int} {y : Int} (h : y ∈ xs) : lmin xs ≤ y := by
  cases xs with
  | nil => cases h
  | cons x xs =>
    rcases List.mem_cons.mp h with e | h
    · subst e; exact (foldl_min_le xs y).1
    · exact (foldl_min_le xs x).2 y h
theorem lmin_mem {xs : List Int} (h : xs ≠ []) : lmin xs ∈ xs := by
  cases xs with
  | nil => exact absurd rfl h
  | cons x xs =>
    rcases foldl_min_mem xs x with e | e
    · show xs.foldl min x ∈ _; rw [e]; simp
    · exact List.mem_cons_of_mem _ e
theorem lmax_ge {xs : List Int} {y : Int} (h : y ∈ xs) : y ≤ lmax xs := by
  cases xs with
  | nil => cases h
  | cons x xs =>
    rcases List.mem_cons.mp h with e | h
    · subst e; exact (foldl_max_ge xs y).1
    · exact (foldl_max_ge xs x).2 y h
theorem lmax_mem {xs : List Int} (h : xs ≠ []) : lmax xs ∈ xs := by
  cases xs with
  | nil => exact absurd rfl h
  | cons x xs =>
    rcases foldl_max_mem xs x with e | e
    · show xs.foldl max x ∈ _; rw [e]; simp
    · exact List.mem_cons_of_mem _ e
theorem le_lmin {xs : List Int} (h : xs ≠ []) {a : Int} : a ≤ lmin xs ↔ ∀ y ∈ xs, a ≤ y :=
  ⟨fun q y hy => Int.le_trans q (lmin_le hy), fun q => q _ (lmin_mem h)⟩
theorem lmax_le {xs : List Int} (h : xs ≠ []) {a : Int} : lmax xs ≤ a ↔ ∀ y ∈ xs, y ≤ a :=
  ⟨fun q y hy => Int.le_trans (lmax_ge hy) q, fun q => q _ (lmax_mem h)⟩
/-- least and greatest of data, as it stands -/
def rBestD (K : PySem.W.Frag) (best : D → List D → D) : List V → Hp → VK → Prop := fun vs H Q => ∃ (a : Addr) (xs : List V) (d : D) (ds : List D), vs = [V.ref a] ∧ (SqL K H a xs ∨ SqT K H a xs) ∧ DpAll K H xs (d :: ds) ∧ PySem.W.AlikeAll (d :: ds) ∧ PyData.depthAll (d :: ds) ≤ 32 ∧
  ∀ (i : Nat) (x : V), xs[i]? = some x → (d :: ds)[i]? = some (best d ds) → Q x H
theorem vals_get {xs : List V} {us : List Value} (h : Vals xs us) : ∀ {i : Nat} {v : Value}, us[i]? = some v → ∃ x, xs[i]? = some x ∧ RelV x v := by
  induction h with
  | nil => intro i v e; simp at e
  | cons r t ih =>
    intro i v e
    cases i with
    | zero => simp at e; subst e; exact ⟨_, by simp, r⟩
    | succ i =>
      obtain ⟨x, h1, h2⟩ := ih (i := i) (by simpa using e)
      exact ⟨x, by simpa using h1, h2⟩
section
variable {X : Cx}
theorem cr_minD (hc : X.calm = true) (hu : X.A.units + 64 < cLine) : CallR X (.builtin "min") (rBestD X.K PySem.W.minD) := by
  intro pins s σ H vs us Q I r h
  obtain ⟨a, xs, d, ds, rfl, hs, hd, hal, hdp, q⟩ := h
  rw [Vals.ref1 r]
  have fin : ∀ (its : List Value), Vals xs its → ∀ (i : Nat) v h' tk bs, its.toArray[i]? = some v → Reads h' v (PySem.W.minD d ds) bs → (∀ b o, s.heap.get? b = some o → h'.get? b = some o) → EP X pins σ Q v { s with heap := h', toks := tk } := fun its rv i v h' tk bs hv hr hk => by
    have I2 : Inv X pins σ H { s with heap := h', toks := tk } := I.kept hk
    have hv' : its[i]? = some v := by simpa using hv
    obtain ⟨x, hx, rx⟩ := vals_get rv hv'
    obtain ⟨e, he, hde⟩ := DpAll.get' hd hx
    obtain ⟨as, hre⟩ := Dp.reads I2 e x v hde rx
    have ed := (reads_det (fun b o hb _ => hb) hr hre).1
    exact ⟨x, H, I2, rx, q i x hx (by rw [he, ed])⟩
  rcases hs with hs | hs
  · obtain ⟨its, rv, hl, _⟩ := I.list hs
    obtain ⟨as, hr⟩ := Dp.readsAll I (d :: ds) xs its hd rv
    exact PySem.W.min_list_data (as := as) (I.ok.hd hc) hl.isList (by simpa using hr) hal (by omega) (fin its rv)
  · obtain ⟨its, rv, hl, _⟩ := I.tuple hs
    obtain ⟨as, hr⟩ := Dp.readsAll I (d :: ds) xs its hd rv
    exact PySem.W.min_tuple_data (as := as) (I.ok.hd hc) hl (by simpa using hr) hal (by omega) (fin its rv)
theorem cr_maxD (hc : X.calm = true) (hu : X.A.units + 64 < cLine) : CallR X (.builtin "max") (rBestD X.K PySem.W.maxD) := by
  intro pins s σ H vs us Q I r h
  obtain ⟨a, xs, d, ds, rfl, hs, hd, hal, hdp, q⟩ := h
  rw [Vals.ref1 r]
  have fin : ∀ (its : List Value), Vals xs its → ∀ (i : Nat) v h' tk bs, its.toArray[i]? = some v → Reads h' v (PySem.W.maxD d ds) bs → (∀ b o, s.heap.get? b = some o → h'.get? b = some o) → EP X pins σ Q v { s with heap := h', toks := tk } := fun its rv i v h' tk bs hv hr hk => by
    have I2 : Inv X pins σ H { s with heap := h', toks := tk } := I.kept hk
    have hv' : its[i]? = some v := by simpa using hv
    obtain ⟨x, hx, rx⟩ := vals_get rv hv'
    obtain ⟨e, he, hde⟩ := DpAll.get' hd hx
    obtain ⟨as, hre⟩ := Dp.reads I2 e x v hde rx
    have ed := (reads_det (fun b o hb _ => hb) hr hre).1
    exact ⟨x, H, I2, rx, q i x hx (by rw [he, ed])⟩
  rcases hs with hs | hs
  · obtain ⟨its, rv, hl, _⟩ := I.list hs
    obtain ⟨as, hr⟩ := Dp.readsAll I (d :: ds) xs its hd rv
    exact PySem.W.max_list_data (as := as) (I.ok.hd hc) hl.isList (by simpa using hr) hal (by omega) (fin its rv)
  · obtain ⟨its, rv, hl, _⟩ := I.tuple hs
    obtain ⟨as, hr⟩ := Dp.readsAll I (d :: ds) xs its hd rv
    exact PySem.W.max_tuple_data (as := as) (I.ok.hd hc) hl (by simpa using hr) hal (by omega) (fin its rv)
end
section
variable {X : Cx} {ρ : Envi} {pos : Pos}
theorem blt_best {x : Str} {id : String} {best : D → List D → D} (hb : bootBuiltins x = some (.builtin id)) (hc : CallR X (.builtin id) (rBestD X.K best)) {d : D} {ds : List D} {dd : D} (hdd : dd = .list (d :: ds) ∨ dd = .tuple (d :: ds)) (hm : best d ds ∈ d :: ds) (ha : PySem.W.AlikeAll (d :: ds)) (hp : PyData.depthAll (d :: ds) ≤ 32) :
    BltD X x [dd] (best d ds) := ⟨_, .inl ⟨_, hb, hc⟩, fun vs G H Q s hv k => by
  obtain ⟨v, rfl, hx⟩ := DpAll.one hv
  have fin : ∀ a xs, DpAll X.K G xs (d :: ds) → (SqL X.K G a xs ∨ SqT X.K G a xs) → rBestD X.K best [V.ref a] H Q := fun a xs hda hs => by
    refine ⟨a, xs, d, ds, rfl, ?_, DpAll.same s hda, ha, hp, fun i x hi hd => ?_⟩
    · rcases hs with h | h
      · exact .inl (s.seq h)
      · exact .inr (Same.tupq s h)
    · obtain ⟨e, he, hde⟩ := DpAll.get' hda hi
      rw [hd] at he
      cases he
      exact k.here s hde
  rcases hdd with rfl | rfl
  · cases hx with
    | lst hs hda => exact fin _ _ hda (.inl hs)
  · cases hx with
    | tup hs hda => exact fin _ _ hda (.inr hs)⟩
theorem alike_ints (ns : List Int) : PySem.W.AlikeAll (ns.map PyData.int) := by
  refine ⟨fun x hx y hy => ?_, fun x hx => ?_⟩
  · obtain ⟨a, _, rfl⟩ := List.mem_map.mp hx
    obtain ⟨b, _, rfl⟩ := List.mem_map.mp hy
    simp only [PySem.W.alike]
  · obtain ⟨a, _, rfl⟩ := List.mem_map.mp hx
    intro e; cases e
theorem minD_ints' (a : Int) (ns : List Int) : PySem.W.minD (.int a) (ns.map .int) = .int (lmin (a :: ns)) := PySem.W.minD_ints a ns
theorem maxD_ints' (a : Int) : ∀ ns : List Int, PySem.W.maxD (.int a) (ns.map .int) = .int (lmax (a :: ns)) := by
  intro ns
  show (ns.map PyData.int).foldl (fun a y => if PySem.W.dataLt a y then y else a) (.int a) = .int (ns.foldl max a)
  induction ns generalizing a with
  | nil => rfl
  | cons n ns ih =>
    rw [List.map_cons, List.foldl_cons, List.foldl_cons, ← ih (max a n)]
    congr 1
    rw [PySem.W.dataLt_int]
    by_cases h : a < n
    · rw [decide_eq_true h, if_pos rfl, show max a n = n by omega]
    · rw [decide_eq_false h, if_neg (by decide), show max a n = a by omega]
theorem depth_ints : ∀ ns : List Int, PyData.depthAll (ns.map PyData.int) = 0
  | [] => rfl
  | n :: ns => by rw [List.map_cons, PyData.depthAll, depth_ints ns]; rfl
theorem blt_minT {a : Int} {ns : List Int} (hc : X.calm = true) (hu : X.A.units + 64 < cLine) : BltD X "min" [.tuple (PyData.int a :: ns.map PyData.int)] (.int (lmin (a :: ns))) := by
  rw [← minD_ints']
  refine blt_best (x := "min") (id := "min") (best := PySem.W.minD) (by decide +kernel) (cr_minD hc hu) (.inr rfl) ?_ (alike_ints (a :: ns)) ?_
  · rw [minD_ints']
    have := lmin_mem (xs := a :: ns) (by simp)
    exact List.mem_map_of_mem (f := PyData.int) this
  · have := depth_ints (a :: ns)
    rw [List.map_cons] at this
    omega
theorem blt_minT2 {a b : Int} (hc : X.calm = true) (hu : X.A.units + 64 < cLine) : BltD X "min" [.tuple [.int a, .int b]] (.int (min a b)) := blt_minT (ns := [b]) hc hu
theorem blt_maxT {a : Int} {ns : List Int} (hc : X.calm = true) (hu : X.A.units + 64 < cLine) : BltD X "max" [.tuple (PyData.int a :: ns.map PyData.int)] (.int (lmax (a :: ns))) := by
  rw [← maxD_ints']
  refine blt_best (x := "max") (id := "max") (best := PySem.W.maxD) (by decide +kernel) (cr_maxD hc hu) (.inr rfl) ?_ (alike_ints (a :: ns)) ?_
  · rw [maxD_ints']
    have := lmax_mem (xs := a :: ns) (by simp)
    exact List.mem_map_of_mem (f := PyData.int) this
  · have := depth_ints (a :: ns)
    rw [List.map_cons] at this
    omega
theorem blt_minE {ns : List Int} (hc : X.calm = true) (h : ns ≠ []) : BltD X "min" [.list (ns.map .int)] (.int (lmin ns)) := blt_minL _ hc (lmin_mem h) fun _ hy => lmin_le hy
theorem blt_mxE {ns : List Int} (hc : X.calm = true) (h : ns ≠ []) : BltD X "max" [.list (ns.map .int)] (.int (lmax ns)) := blt_maxL _ hc (lmax_mem h) fun _ hy => lmax_ge hy
theorem map_ints {α : Type} (items : List α) (h : α → Int) : (items.map fun x => PyData.int (h x)) = (items.map h).map PyData.int := by simp [List.map_map, Function.comp_def]
theorem map_bools {α : Type} (items : List α) (h : α → Bool) : (items.map fun x => PyData.bool (h x)) = (items.map h).map PyData.bool := by simp [List.map_map, Function.comp_def]
theorem blt_minM {α : Type} {items : List α} {h : α → Int} (hc : X.calm = true) (hn : items.length ≠ 0) : BltD X "min" [.list (items.map fun x => .int (h x))] (.int (lmin (items.map h))) := by
  rw [map_ints]
  exact blt_minE hc fun e => hn (by rw [← List.length_map (f := h), e]; rfl)
theorem blt_mxM {α : Type} {items : List α} {h : α → Int} (hc : X.calm = true) (hn : items.length ≠ 0) : BltD X "max" [.list (items.map fun x => .int (h x))] (.int (lmax (items.map h))) := by
  rw [map_ints]
  exact blt_mxE hc fun e => hn (by rw [← List.length_map (f := h), e]; rfl)
theorem blt_all {bs : List Bool} (hc : X.calm = true) : BltD X "all" [.list (bs.map .bool)] (.bool (bs.all id)) := ⟨_, .inl ⟨_, by decide +kernel, cr_all hc⟩, fun vs G H Q s hv k => by
  obtain ⟨v, rfl, hx⟩ := DpAll.one hv
  cases hx with
  | lst hs ha =>
    have e := DpAll.bools ha
    subst e
    exact ⟨_, bs, rfl, s.seq hs, k.here s (.bl _)⟩⟩
theorem blt_any {bs : List Bool} (hc : X.calm = true) : BltD X "any" [.list (bs.map .bool)] (.bool (bs.any id)) := ⟨_, .inl ⟨_, by decide +kernel, cr_any hc⟩, fun vs G H Q s hv k => by
  obtain ⟨v, rfl, hx⟩ := DpAll.one hv
  cases hx with
  | lst hs ha =>
    have e := DpAll.bools ha
    subst e
    exact ⟨_, bs, rfl, s.seq hs, k.here s (.bl _)⟩⟩
theorem blt_allM {α : Type} {items : List α} {h : α → Bool} (hc : X.calm = true) : BltD X "all" [.list (items.map fun x => .bool (h x))] (.bool (items.all h)) := by
  rw [map_bools]
  have e : items.all h = (items.map h).all id := by simp [List.all_map]
  rw [e]
  exact blt_all hc
theorem blt_anyM {α : Type} {items : List α} {h : α → Bool} (hc : X.calm = true) : BltD X "any" [.list (items.map fun x => .bool (h x))] (.bool (items.any h)) := by
  rw [map_bools]
  have e : items.any h = (items.map h).any id := by simp [List.any_map]
  rw [e]
  exact blt_any hc
end
section
variable {X : Cx} {ρ ρ' : Envi} {pos : Pos} {s : Stmt} {ss : List Stmt} {st : List (List Stmt)} {O : Out → Prop}
theorem rgC_up {i j : Int} (hi : b62 i) (hj : b62 j) : RgC i j 1 (j - i).toNat := ⟨by decide, by decide, small_one hi.1 hi.2 hj.1 hj.2, rangeSize_nat i j⟩
theorem pe_range2' {a b : Expr} {ta : TA} {p : Pos} (hg : Gl X "range") (hm : X.mg "range" = none) (ha : PA X [a, b] ta)
    (hs : starEach [a, b] X.env = (false, eval a X.env) :: starEach [b] X.env) (hpl : (backTo pos (starEach [b] X.env)).any (·.1) = false) :
    PE X (.Call (.Name "range" p) [a, b] [] pos) (fun σ H Q => ta σ H fun vs H1 => ∃ (i j : Int), vs = [.int i, .int j] ∧ ∀ p, H1 p = none → Q (.ref p) (upd H1 p (.ext (rngF p i j 1)))) := by
  refine ⟨fun pins s σ H Q I h => ?_⟩
  refine Call_ (ld_blt I hg hm boot_range (PyProof.Rows.callWith_type1 (thn (ha.run pos pins s σ H _ I h) fun us s1 ⟨vs, H1, I1, r1, q1⟩ => ?_) hs hpl))
  obtain ⟨i, j, e, q⟩ := q1
  subst e
  cases r1 with
  | cons r rr =>
    cases rr with
    | cons r' rr =>
      cases rr
      obtain ⟨t, rfl⟩ := r
      obtain ⟨t', rfl⟩ := r'
      refine call_range_2 ?_
      exact ⟨.ref s1.heap.objs.size, upd H1 s1.heap.objs.size (.ext (rngF s1.heap.objs.size i j 1)), I1.laid (t' := s1.toks + 1) (fun b o e => Heap.get?_push_of_some _ e) (Nat.le_refl _) (rngF_ok (Heap.get?_push_size _ rfl)), rfl, q _ (I1.hok.fresh (Nat.le_refl _))⟩
theorem bk_rng2 {x : Str} {k : Nat} {a b : Expr} {p pos' rpos : Pos} {i j : Int} (ha : Ev X ρ a (.int i)) (hb : Ev X ρ b (.int j)) (hN : X.N.Nodup) (hi : X.N[k]? = some x) (hx : Loc X.env.scope x) (hk : k < ρ.length)
    (hsw : swapsWith (.Call (.Name "range" p) [a, b] [] rpos) (some (.Name x pos')) pos.line X.env = pure false) (hf : X.fn x = true ∨ X.env.scope.names.lookup x = some .local) (hg : Gl X "range") (hm : X.mg "range" = none)
    (hs : starEach [a, b] X.env = (false, eval a X.env) :: starEach [b] X.env) (hs2 : starEach [b] X.env = (false, eval b X.env) :: starEach [] X.env) (hpl : (backTo rpos (starEach [b] X.env)).any (·.1) = false)
    (h : Bks X (ρ.set k (.raw (rngS i j 1))) (ss :: st) O) : Bks X ρ ((.Assign [.Name x pos'] (.Call (.Name "range" p) [a, b] [] rpos) pos :: ss) :: st) O := by
  refine bk_step (ρ' := ρ.set k (.raw (rngS i j 1))) (fun G0 H0 G H σ D S kk => ?_) h
  refine wS_of (ps_set hN hi hx (pe_range2' hg hm pa_w hs hpl) hsw hf) ?_
  refine evs_cons ha (evs_cons hb evs_nil hs2) hs σ G H _ S.env fun vs G1 H1 f1 hv => ?_
  · obtain ⟨v2, v3, rfl, h2, h3⟩ := DpAll.two hv
    cases h2
    cases h3
    refine ⟨i, j, rfl, fun q hq => ?_⟩
    have f2 := f1.trans (Frm.new f1.s (o := .ext (rngF q i j 1)) hq)
    have E := S.env.frm f2
    have key : ∀ (m : Nat) (sv : SV), (ρ.set k (.raw (rngS i j 1)))[m]? = some sv → (k = m ∧ sv = .raw (rngS i j 1)) ∨ (k ≠ m ∧ ρ[m]? = some sv) := fun m sv e => by
      by_cases z : k = m
      · subst z
        rw [List.getElem?_set_self hk] at e
        cases e
        exact .inl ⟨rfl, rfl⟩
      · rw [List.getElem?_set_ne z] at e
        exact .inr ⟨z, e⟩
    have hk' : k < σ.length := by rw [S.env.len]; exact hk
    refine kk _ _ _ ⟨⟨f2.s, by simp [S.env.len], fun m d e => ?_, fun m ds e => ?_, fun m m' ds es b e1 e2 e3 e4 => ?_, fun m φ e => ?_⟩, S.frm.trans f2, fun m ds b e1 e2 => ?_⟩
    · rcases key m _ e with ⟨_, z⟩ | ⟨z, e⟩
      · cases z
      · rw [List.getElem?_set_ne z]; exact E.dat m d e
    · rcases key m _ e with ⟨_, z⟩ | ⟨z, e⟩
      · cases z
      · rw [List.getElem?_set_ne z]; exact E.own m ds e
    · rcases key m _ e1 with ⟨_, z⟩ | ⟨z, e1⟩
      · cases z
      · rcases key m' _ e2 with ⟨_, z2⟩ | ⟨z2, e2⟩
        · cases z2
        · rw [List.getElem?_set_ne z] at e3
          rw [List.getElem?_set_ne z2] at e4
          exact E.inj m m' ds es b e1 e2 e3 e4
    · rcases key m _ e with ⟨rfl, z⟩ | ⟨z, e⟩
      · cases z
        exact ⟨rngS_mono, .ref q, List.getElem?_set_self hk', q, rfl, upd_same⟩
      · rw [List.getElem?_set_ne z]; exact E.raw m φ e
    · rcases key m _ e1 with ⟨_, z⟩ | ⟨z, e1⟩
      · cases z
      · rw [List.getElem?_set_ne z] at e2
        exact S.new m ds b e1 e2
end
section
variable {X : Cx} {a b : Bool}
theorem cmp_isB : CmpD X .Is (.bool a) (.bool b) (decide (a = b)) := ⟨_, op_isBl, fun x y G H Q s hx hy k => by
  cases hx; cases hy
  exact ⟨a, b, rfl, rfl, k.here s (.bl _)⟩⟩
theorem cmp_isnB : CmpD X .IsNot (.bool a) (.bool b) (!decide (a = b)) := ⟨_, op_notBl, fun x y G H Q s hx hy k => by
  cases hx; cases hy
  exact ⟨a, b, rfl, rfl, k.here s (.bl _)⟩⟩
end
end DL

namespace DL
open PySem PySem.Spec PyProof.Rows L2
/-! ## 25. a built-in with one keyword -/
def BltKD (X : Cx) (x : Str) (ds : List D) (kn : Str) (dk : D) (d : D) : Prop := ∃ (id : String) (r : List V → List V → Hp → VK → Prop), bootBuiltins x = some (.builtin id) ∧ CallRK X (.builtin id) [kn] r ∧
  ∀ vs zs G H Q, Same G H → DpAll X.K G vs ds → DpAll X.K G zs [dk] → Gets X.K G H d Q → r vs zs H Q
section
variable {X : Cx} {ρ : Envi} {pos : Pos}
theorem ev_bltK {x : Str} {p kp : Pos} {e ek : Expr} {es : List Expr} {ds : List D} {kn : Str} {dk d : D} (ha : Evs X ρ (e :: es) ds) (hk : Ev X ρ ek dk) (F : BltKD X x ds kn dk d) (hg : Gl X x) (hm : X.mg x = none)
    (hn : x ≠ "__name__") (hd : (x == ("__debug__" : Str)) = false)
    (he : backTo pos (starEach (e :: es) X.env) = (false, eval e X.env) :: backTo pos (starEach es X.env)) (hpl : (backTo pos (starEach (e :: es) X.env)).any (·.1) = false)
    (hall : (backToKw pos (keywordEach [⟨some kn, ek, kp⟩] X.env)).all (·.1.isSome) = true) (hnone : (backToKw pos (keywordEach [⟨some kn, ek, kp⟩] X.env)).any (·.1.isNone) = false) (hks : (backToKw pos (keywordEach [⟨some kn, ek, kp⟩] X.env)).filterMap (·.1) = [kn]) :
    Ev X ρ (.Call (.Name x p) (e :: es) [⟨some kn, ek, kp⟩] pos) d := fun σ G H Q E k => by
  obtain ⟨id, r, hv, hc, F⟩ := F
  refine wE_of (pe_callBK hc hg hm hv pa_w (pk_cons pe_w pk_nil) hn hd he hpl hall hnone hks) (ha σ G H _ E fun vs G1 H1 f1 hv => ?_)
  refine hk σ G1 H1 _ (E.frm f1) fun z G2 H2 f2 hz => ?_
  exact F vs [z] G2 H2 Q f2.s (DpAll.same f2.g hv) (.cons hz .nil) (Gets.frm k (f1.trans f2))
/-- least, greatest with default= -/
def bestOf (best : D → List D → D) (dk : D) : List D → D
  | [] => dk
  | d :: ds => best d ds
def rBestK (K : PySem.W.Frag) (best : D → List D → D) : List V → List V → Hp → VK → Prop := fun vs zs H Q => ∃ (a : Addr) (xs : List V) (z : V) (ds : List D), vs = [V.ref a] ∧ zs = [z] ∧ (SqL K H a xs ∨ SqT K H a xs) ∧ DpAll K H xs ds ∧ PySem.W.AlikeAll ds ∧ PyData.depthAll ds ≤ 32 ∧
  (ds = [] → Q z H) ∧ ∀ (i : Nat) (x : V) (d : D) (es : List D), ds = d :: es → xs[i]? = some x → ds[i]? = some (best d es) → Q x H
theorem cr_minK1 (hc : X.calm = true) (hu : X.A.units + 64 < cLine) : CallRK X (.builtin "min") [Str.ofString "default"] (rBestK X.K PySem.W.minD) := by
  intro pins s σ H vs zs us ws Q I r rz h
  obtain ⟨a, xs, z, ds, rfl, rfl, hs, hd, hal, hdp, q0, q⟩ := h
  rw [Vals.ref1 r]
  cases rz with
  | cons rz0 rzz =>
    cases rzz
    have fin0 : ∀ h' tk, (∀ b o, s.heap.get? b = some o → h'.get? b = some o) → ds = [] → EP X pins σ Q _ { s with heap := h', toks := tk } := fun h' tk hk e =>
      ⟨z, H, I.kept hk, rz0, q0 e⟩
    have fin : ∀ (its : List Value), Vals xs its → ∀ (y : D) (ys : List D) (i : Nat) v h' tk bs, ds = y :: ys → its.toArray[i]? = some v → Reads h' v (PySem.W.minD y ys) bs → (∀ b o, s.heap.get? b = some o → h'.get? b = some o) → EP X pins σ Q v { s with heap := h', toks := tk } := fun its rv y ys i v h' tk bs ey hv hr hk => by
      have I2 : Inv X pins σ H { s with heap := h', toks := tk } := I.kept hk
      have hv' : its[i]? = some v := by simpa using hv
      obtain ⟨x, hx, rx⟩ := vals_get rv hv'
      obtain ⟨e, he, hde⟩ := DpAll.get' hd hx
      obtain ⟨as, hre⟩ := Dp.reads I2 e x v hde rx
      have ed := (reads_det (fun b o hb _ => hb) hr hre).1
      exact ⟨x, H, I2, rx, q i x y ys ey hx (by rw [he, ed])⟩
    rcases hs with hs | hs
    · obtain ⟨its, rv, hl, _⟩ := I.list hs
      obtain ⟨as, hr⟩ := Dp.readsAll I ds xs its hd rv
      exact PySem.W.min_list_default (as := as) (I.ok.hd hc) hl.isList (by simpa using hr) hal (by omega) (fun e h' tk hk => fin0 h' tk hk e) (fin its rv)
    · obtain ⟨its, rv, hl, _⟩ := I.tuple hs
      obtain ⟨as, hr⟩ := Dp.readsAll I ds xs its hd rv
      exact PySem.W.min_tuple_default (as := as) (I.ok.hd hc) hl (by simpa using hr) hal (by omega) (fun e h' tk hk => fin0 h' tk hk e) (fin its rv)
theorem cr_maxK1 (hc : X.calm = true) (hu : X.A.units + 64 < cLine) : CallRK X (.builtin "max") [Str.ofString "default"] (rBestK X.K PySem.W.maxD) := by
  intro pins s σ H vs zs us ws Q I r rz h
  obtain ⟨a, xs, z, ds, rfl, rfl, hs, hd, hal, hdp, q0, q⟩ := h
  rw [Vals.ref1 r]
  cases rz with
  | cons rz0 rzz =>
    cases rzz
    have fin0 : ∀ h' tk, (∀ b o, s.heap.get? b = some o → h'.get? b = some o) → ds = [] → EP X pins σ Q _ { s with heap := h', toks := tk } := fun h' tk hk e =>
      ⟨z, H, I.kept hk, rz0, q0 e⟩
    have fin : ∀ (its : List Value), Vals xs its → ∀ (y : D) (ys : List D) (i : Nat) v h' tk bs, ds = y :: ys → its.toArray[i]? = some v → Reads h' v (PySem.W.maxD y ys) bs → (∀ b o, s.heap.get? b = some o → h'.get? b = some o) → EP X pins σ Q v { s with heap := h', toks := tk } := fun its rv y ys i v h' tk bs ey hv hr hk => by
      have I2 : Inv X pins σ H { s with heap := h', toks := tk } := I.kept hk
      have hv' : its[i]? = some v := by simpa using hv
      obtain ⟨x, hx, rx⟩ := vals_get rv hv'
      obtain ⟨e, he, hde⟩ := DpAll.get' hd hx
      obtain ⟨as, hre⟩ := Dp.reads I2 e x v hde rx
      have ed := (reads_det (fun b o hb _ => hb) hr hre).1
      exact ⟨x, H, I2, rx, q i x y ys ey hx (by rw [he, ed])⟩
    rcases hs with hs | hs
    · obtain ⟨its, rv, hl, _⟩ := I.list hs
      obtain ⟨as, hr⟩ := Dp.readsAll I ds xs its hd rv
      exact PySem.W.max_list_default (as := as) (I.ok.hd hc) hl.isList (by simpa using hr) hal (by omega) (fun e h' tk hk => fin0 h' tk hk e) (fin its rv)
    · obtain ⟨its, rv, hl, _⟩ := I.tuple hs
      obtain ⟨as, hr⟩ := Dp.readsAll I ds xs its hd rv
      exact PySem.W.max_tuple_default (as := as) (I.ok.hd hc) hl (by simpa using hr) hal (by omega) (fun e h' tk hk => fin0 h' tk hk e) (fin its rv)
theorem bltK_best {x : Str} {id : String} {best : D → List D → D} (hb : bootBuiltins x = some (.builtin id)) (hc : CallRK X (.builtin id) [Str.ofString "default"] (rBestK X.K best)) {ds : List D} {dd dk : D} (hdd : dd = .list ds ∨ dd = .tuple ds) (ha : PySem.W.AlikeAll ds) (hp : PyData.depthAll ds ≤ 32) :
    BltKD X x [dd] "default" dk (bestOf best dk ds) := ⟨_, _, hb, hc, fun vs zs G H Q s hv hz k => by
  obtain ⟨v, rfl, hx⟩ := DpAll.one hv
  obtain ⟨z, rfl, hz1⟩ := DpAll.one hz
  have fin : ∀ a xs, DpAll X.K G xs ds → (SqL X.K G a xs ∨ SqT X.K G a xs) → rBestK X.K best [V.ref a] [z] H Q := fun a xs hda hs => by
    refine ⟨a, xs, z, ds, rfl, rfl, ?_, DpAll.same s hda, ha, hp, fun e => ?_, fun i x d es ed hi hd => ?_⟩
    · rcases hs with h | h
      · exact .inl (s.seq h)
      · exact .inr (Same.tupq s h)
    · subst e
      exact k.here s hz1
    · subst ed
      obtain ⟨e, he, hde⟩ := DpAll.get' hda hi
      rw [hd] at he
      cases he
      exact k.here s hde
  rcases hdd with rfl | rfl
  · cases hx with
    | lst hs hda => exact fin _ _ hda (.inl hs)
  · cases hx with
    | tup hs hda => exact fin _ _ hda (.inr hs)⟩
def dflt (f : List Int → Int) (dk : D) (ns : List Int) : D := if ns = [] then dk else .int (f ns)
theorem bltK_minI {ns : List Int} {dk : D} (hc : X.calm = true) (hu : X.A.units + 64 < cLine) : BltKD X "min" [.list (ns.map .int)] "default" dk (dflt lmin dk ns) := by
  have h := bltK_best (x := "min") (id := "min") (best := PySem.W.minD) (by decide +kernel) (cr_minK1 hc hu) (dk := dk) (.inl (rfl : PyData.list (ns.map .int) = _)) (alike_ints ns) (by rw [depth_ints]; decide)
  have e : bestOf PySem.W.minD dk (ns.map .int) = dflt lmin dk ns := by
    cases ns with
    | nil => rfl
    | cons n ns =>
      show PySem.W.minD (.int n) (ns.map .int) = _
      rw [minD_ints']
      rfl
  rw [e] at h
  exact h
theorem bltK_maxI {ns : List Int} {dk : D} (hc : X.calm = true) (hu : X.A.units + 64 < cLine) : BltKD X "max" [.list (ns.map .int)] "default" dk (dflt lmax dk ns) := by
  have h := bltK_best (x := "max") (id := "max") (best := PySem.W.maxD) (by decide +kernel) (cr_maxK1 hc hu) (dk := dk) (.inl (rfl : PyData.list (ns.map .int) = _)) (alike_ints ns) (by rw [depth_ints]; decide)
  have e : bestOf PySem.W.maxD dk (ns.map .int) = dflt lmax dk ns := by
    cases ns with
    | nil => rfl
    | cons n ns =>
      show PySem.W.maxD (.int n) (ns.map .int) = _
      rw [maxD_ints']
      rfl
  rw [e] at h
  exact h
end
section
variable {X : Cx}
theorem bin_addT {ds es : List D} (h : ds.length + es.length ≤ sizeLine) : BinD X .Add (.tuple ds) (.tuple es) (.tuple (ds ++ es)) := ⟨_, op_catA, fun x y G H Q s hx hy k => by
  cases hx with
  | tup hs1 ha1 =>
    cases hy with
    | tup hs2 ha2 =>
      refine ⟨_, _, _, _, rfl, rfl, Same.tupq s hs1, Same.tupq s hs2, by rw [DpAll.length ha1, DpAll.length ha2]; exact h, fun e => ?_, fun e1 e2 => ?_, fun _ _ p hp => ?_⟩
      · subst e
        have e0 : ds = [] := by cases ha1; rfl
        subst e0
        exact k.here s (.tup hs2 ha2)
      · subst e2
        have e0 : es = [] := by cases ha2; rfl
        subst e0
        rw [List.append_nil] at k
        exact k.here s (.tup hs1 ha1)
      · exact k _ _ _ (Frm.new s hp) (.tup (.inl (.inl upd_same)) (DpAll.same (same_upd (s.free hp)) (DpAll.append ha1 ha2)))⟩
theorem cmp_neB {a b : Bool} : CmpD X .NotEq (.bool a) (.bool b) (!decide (a = b)) := ⟨_, op_ne, fun x y G H Q s hx hy k => by
  cases hx; cases hy
  refine ⟨rfl, ?_⟩
  rw [show decide (V.bl a = V.bl b) = decide (a = b) from by simp]
  exact k.here s (.bl _)⟩
theorem cmp_eqB {a b : Bool} : CmpD X .Eq (.bool a) (.bool b) (decide (a = b)) := ⟨_, op_eq, fun x y G H Q s hx hy k => by
  cases hx; cases hy
  refine ⟨rfl, ?_⟩
  rw [show decide (V.bl a = V.bl b) = decide (a = b) from by simp]
  exact k.here s (.bl _)⟩
end
end DL

namespace DL
open PySem PySem.Spec PyProof.Rows L2
/-! ## 26. text[::-1], int of a text -/
theorem rev_signs (z : Str) : (⟨((Builtin.Str.strSliceIndices none none (-1) z.length).filterMap (z.cps[·]?)).toArray⟩ : Str) = S z.cps.toList.reverse := by
  have e : ((Builtin.Str.strSliceIndices none none (-1) z.length).filterMap (z.cps[·]?)) = z.cps.toList.reverse := by
    rw [picked_rev, filterMap_get, List.map_map]
    · apply List.ext_getElem?
      intro i
      rw [List.getElem?_map]
      by_cases h : i < z.length
      · have h2 : i < z.cps.toList.length := by simpa [Str.length] using h
        rw [List.getElem?_range h, List.getElem?_reverse h2]
        show some (z.cps.getD (z.length - 1 - i) 0) = _
        have h3 : z.cps.toList.length = z.length := by simp [Str.length]
        rw [h3]
        have h4 : z.length - 1 - i < z.cps.size := by show _ < z.length; omega
        simp [Array.getD, h4]
      · rw [List.getElem?_eq_none (by simpa using h), List.getElem?_eq_none (by simp [Str.length] at h ⊢; omega)]
        rfl
    · intro i hi
      obtain ⟨k, hk, rfl⟩ := List.mem_map.mp hi
      have hk' : k < z.length := List.mem_range.mp hk
      show z.length - 1 - k < z.length
      omega
  rw [e]
section
variable {X : Cx} {ρ : Envi} {pos : Pos}
def tRevS (te : TE) : TE := fun σ H Q => te σ H fun x H1 => ∃ z : Str, x = .str z ∧ z.length ≤ sizeLine ∧ Q (.str (S z.cps.toList.reverse)) H1
theorem pe_revS {e : Expr} {te : TE} {k : Nat} {p1 p2 p3 pos : Pos} (he : PE X e te) : PE X (.Subscript e (.Slice none none (some (.UnaryOp .USub (.Constant (.int 1) k p1) p2)) p3) pos) (tRevS te) := by
  refine ⟨fun pins s σ H Q I h => ?_⟩
  refine Subscript_ (thn (he.run pins s σ H _ I h) fun v s1 ⟨x, H1, I1, r1, q1⟩ => ?_)
  obtain ⟨z, ex, hz, q⟩ := q1
  subst ex
  obtain ⟨t, rfl⟩ := r1
  have hst : PO X (some (.UnaryOp .USub (.Constant (.int 1) k p1) p2)) (tPart (tUn (rU fun i => .int (-i)) (tC (.int 1)))) := po_some (pe_un un_neg pe_int)
  refine wpAny_Slice (thn (po_none.run pins s1 σ H1 (fun o H2 => o = none ∧ H2 = H1) I1 ⟨rfl, rfl⟩) fun vl s2 ⟨l, H2, I2, pl, el, e2⟩ => ?_)
  subst el e2
  refine thn (po_none.run pins s2 σ H2 (fun o H3 => o = none ∧ H3 = H2) I2 ⟨rfl, rfl⟩) fun vu s3 ⟨u, H3, I3, pu, eu, e3⟩ => ?_
  subst eu e3
  refine thn (hst.run pins s3 σ H3 (fun o H4 => o = some (-1) ∧ H4 = H3) I3 ⟨1, rfl, -1, rfl, rfl, rfl⟩) fun vs s4 ⟨o, H4, I4, ps, eo, e4⟩ => ?_
  subst eo e4
  have I5 : Inv X pins σ H4 { s4 with heap := s4.heap.push { cls := .type "slice", data := .fields #[vl, vu, vs] } } := I4.kept (t' := s4.toks) fun b ob q => Heap.get?_push_of_some _ q
  obtain ⟨l, rfl, el⟩ := IsPart.raw pl
  obtain ⟨u, rfl, eu⟩ := IsPart.raw pu
  obtain ⟨o, rfl, eo⟩ := IsPart.raw ps
  have eln : l = none := by cases l with | none => rfl | some _ => cases el
  have eun : u = none := by cases u with | none => rfl | some _ => cases eu
  subst eln eun
  obtain ⟨⟨i, ti⟩, rfl⟩ : ∃ y, o = some y := by cases o with | none => cases eo | some y => exact ⟨y, rfl⟩
  have ei : i = -1 := by
    have h : Option.map (fun x : Int × Tok => x.1) (some (i, ti)) = some (-1) := by first | exact eo | exact eo.symm
    exact Option.some.inj h
  subst ei
  show wpAny (model X.prog X.w) X.A (subscriptTail e (.Slice none none (some (.UnaryOp .USub (.Constant (.int 1) k p1) p2)) p3) (.str z t) (.ref s4.heap.objs.size)) (EP X pins σ Q) X.xe _
  refine tail_any (ops := [.str z t, .ref s4.heap.objs.size]) (typeIs_str _ _ _) (PySem.F.slot_str_getitem.lookup) ?_ (by with_unfolding_all rfl)
  refine wpAny_getItem_str_slice (l := none) (u := none) (st := some (-1, ti)) ⟨_, Heap.get?_push_size _ rfl, rfl, rfl⟩ rfl ?_
  have hl : (S z.cps.toList.reverse).length ≤ sizeLine := by
    rw [S_len, List.length_reverse]
    simpa [Str.length] using hz
  rw [← rev_signs] at q hl
  show Made.post (Made.str ⟨((Builtin.Str.strSliceIndices none none (-1) z.length).filterMap (z.cps[·]?)).toArray⟩) (EP X pins σ Q) _
  exact ⟨hl, .str _, H4, I5.tok _, ⟨_, rfl⟩, q⟩
theorem ev_revS {e : Expr} {l : List Nat} {k : Nat} {p1 p2 p3 : Pos} (he : Ev X ρ e (.str (S l))) (hz : l.length ≤ sizeLine) : Ev X ρ (.Subscript e (.Slice none none (some (.UnaryOp .USub (.Constant (.int 1) k p1) p2)) p3) pos) (.str (S l.reverse)) := fun σ G H Q E kk =>
  wE_of (pe_revS pe_w) (he σ G H _ E fun v G1 H1 f1 hv => by
    cases hv
    refine ⟨S l, rfl, by rw [S_len]; exact hz, ?_⟩
    rw [S_list]
    exact kk _ G1 H1 f1 (.str _))
theorem blt_intS {z : Str} {n : Int} (h : PySem.intText? z = some n) (hz : z.length ≤ 640) : BltD X "int" [.str z] (.int n) := ⟨_, .inr ⟨_, by decide +kernel, call_int_str⟩, fun vs G H Q s hv k => by
  obtain ⟨v, rfl, hx⟩ := DpAll.one hv
  cases hx
  exact ⟨z, n, rfl, h, hz, k.here s (.int _)⟩⟩
end
theorem intB (b : Bool) : PySem.intText? (S [if b = true then 49 else 48]) = some (if b = true then 1 else 0) := by
  cases b <;> decide +kernel
end DL

namespace DL
open PySem PySem.Spec PyProof.Rows L2
/-! ## 27. zip(list, tuple) -/
def ItzLT (K : PySem.W.Frag) (a b : Addr) (n1 n2 : Nat) : It :=
  ⟨fun i H => ∃ (xs ys : List V), SqL K H a xs ∧ SqT K H b ys ∧ xs.length = n1 ∧ ys.length = n2 ∧ i < n1 ∧ i < n2,
    fun i H v H' => ∃ T x y, v = .ref T ∧ H T = none ∧ H' = upd H T (.tup [x, y]) ∧ (∀ xs, SqL K H a xs → xs[i]? = some x) ∧ ∀ ys, SqT K H b ys → ys[i]? = some y,
    fun i H => ∃ xs ys : List V, SqL K H a xs ∧ SqT K H b ys ∧ xs.length = n1 ∧ ys.length = n2 ∧ (n1 ≤ i ∨ n2 ≤ i)⟩
def stLT (z TI TO i1 i2 a b : Addr) (n : Nat) (i : Nat) (h : Heap) : Prop := (IsZip h z TI TO .none ∧ IsTupOf2 h TI (.ref i1) (.ref i2) ∧ (∃ x y, IsTupOf2 h TO x y) ∧ h.IsListIter i1 a i ∧ h.IsTupleIter i2 b i) ∧ i ≤ n
theorem turn_zipLT {P : Program} {w : World} {K : PySem.W.Frag} {elts : List Expr} {kk : Nat} {tpos : Pos} {a b z TI TO i1 i2 : Addr} {n1 n2 : Nat} (sep : ZipSep2 z TI TO i1 i2 [i1, a] [i2, b]) (h1a : a ≠ i1) (h2b : b ≠ i2) :
    Turn P w K (.Tuple elts kk tpos) (ItzLT K a b n1 n2) [z, TI, TO, i1, i2] z (stLT z TI TO i1 i2 a b (min n1 n2)) where
  mem := by simp
  obj := fun i h st c hc => by
    obtain ⟨⟨hz, hTI, ⟨x, y, hTO⟩, ⟨o1, e1, _, d1⟩, ⟨o2, e2, _, d2⟩⟩, _⟩ := st
    have e' : c = z ∨ c = TI ∨ c = TO ∨ c = i1 ∨ c = i2 := by simpa using hc
    rcases e' with q | q | q | q | q
    · rw [q]; exact ⟨_, hz, fun v q => nomatch q⟩
    · rw [q]; exact ⟨_, hTI, fun v q => nomatch q⟩
    · rw [q]; exact ⟨_, hTO, fun v q => nomatch q⟩
    · rw [q]; exact ⟨o1, e1, fun v q => by rw [d1] at q; cases q⟩
    · rw [q]; exact ⟨o2, e2, fun v q => by rw [d2] at q; cases q⟩
  keep := fun i h h' st k => by
    obtain ⟨⟨hz, hTI, ⟨x, y, hTO⟩, h1, h2⟩, hle⟩ := st
    exact ⟨⟨k z (by simp) _ hz, k TI (by simp) _ hTI, ⟨x, y, k TO (by simp) _ hTO⟩, h1.at fun o q => k i1 (by simp) o q, h2.at fun o q => k i2 (by simp) o q⟩, hle⟩
  item := by
    intro X hP hw hK hc i pins s σ H E I hf st hg
    subst hP hw hK
    obtain ⟨⟨hz, hTI, hTO, h1, h2⟩, hle⟩ := st
    obtain ⟨xs, ys, hqx, hqy, ex, ey, hi1, hi2⟩ := hg
    obtain ⟨its, rv, p, _⟩ := I.list hqx
    obtain ⟨its2, rv2, p2, _⟩ := I.tuple hqy
    have l1 := rv.length
    have l2 := rv2.length
    have hh := I.ok.hd hc
    have W := WalksT.zipD2 (prog := X.prog) (w := X.w) (A := X.A) sep (Draws.list (A := X.A.in1) hh i1 a h1a its.toArray) (Draws.tuple (A := X.A.in1) hh i2 b h2b its2.toArray)
    refine W.item i s _ _ (by simp; omega) ⟨hz, hTI, hTO, ⟨h1, p.isList⟩, h2, p2⟩ fun T vals h' tk hPt hT hTup hm hk => ⟨.ref T, rfl, ?_⟩
    refine W.go elts kk tpos i T { s with heap := h', toks := tk } _ _ hm fun h2' st2 hk2 => ?_
    obtain ⟨u, u2, hu, hu2, rfl⟩ := hPt
    obtain ⟨x, hx, ru⟩ := vals_get rv (i := i) (v := u) (by simpa using hu)
    obtain ⟨y, hy, ru2⟩ := vals_get rv2 (i := i) (v := u2) (by simpa using hu2)
    have hTup2 : h2'.IsTuple T #[u, u2] := by
      obtain ⟨o, e1, e2, e3⟩ := hTup
      exact ⟨o, hk2 T o (W.apart i T h' hm) e1, e2, e3⟩
    have fpw : ∀ c ∈ [z, TO, i1, i2], c ∈ [z, TI, TO, i1, i2] := fun c hcm => by
      have e' : c = z ∨ c = TO ∨ c = i1 ∨ c = i2 := by simpa using hcm
      rcases e' with q | q | q | q <;> subst q <;> simp
    have new : ObjOk X.prog X.w (upd H T (.tup [x, y])) h2' T (.tup [x, y]) := ⟨by show 2 ≤ sizeLine; decide, [u, u2], .cons ru (.cons ru2 .nil), hTup2⟩
    have I1 : Inv X pins σ (upd H T (.tup [x, y])) { s with heap := h2', toks := tk } :=
      I.turnedNew (ch := [z, TO, i1, i2]) (fun c o hb q => hk2 c o hb (hk c o hb q)) (fun c hcm => hf c (fpw c hcm)) hT new
    obtain ⟨a1, a2, a3, ⟨a4, _⟩, a5, _⟩ := st2
    refine ⟨.ref T, _, I1, rfl, ⟨T, x, y, rfl, I.hok.fresh hT, rfl, fun l hl => by rw [I.list_inj hl hqx]; exact hx, fun l hl => by rw [I.tuple_inj hl hqy]; exact hy⟩, ⟨⟨a1, a2, a3, a4, a5⟩, by omega⟩, fun c hcm => ?_⟩
    have hlt : c ≠ T := fun e => by
      subst e
      have e' : c = z ∨ c = TI ∨ c = TO ∨ c = i1 ∨ c = i2 := by simpa using hcm
      obtain ⟨x0, y0, hTO⟩ := hTO
      have : c < s.heap.objs.size := by
        rcases e' with q | q | q | q | q
        · rw [q]; exact Heap.lt_size hz
        · rw [q]; exact Heap.lt_size hTI
        · rw [q]; exact Heap.lt_size hTO
        · rw [q]; obtain ⟨_, e1, _⟩ := h1; exact Heap.lt_size e1
        · rw [q]; obtain ⟨_, e2, _⟩ := h2; exact Heap.lt_size e2
      exact Nat.lt_irrefl _ (Nat.lt_of_lt_of_le this hT)
    rw [upd_ne hlt]
    exact (hf c hcm).1
  done := by
    intro X hP hw hK hc i pins s σ H E I hf st hg
    subst hP hw hK
    obtain ⟨⟨hz, hTI, hTO, h1, h2⟩, hle⟩ := st
    obtain ⟨xs, ys, hqx, hqy, ex, ey, hend⟩ := hg
    obtain ⟨its, rv, p, _⟩ := I.list hqx
    obtain ⟨its2, rv2, p2, _⟩ := I.tuple hqy
    have l1 := rv.length
    have l2 := rv2.length
    have hh := I.ok.hd hc
    have W := WalksT.zipD2 (prog := X.prog) (w := X.w) (A := X.A) sep (Draws.list (A := X.A.in1) hh i1 a h1a its.toArray) (Draws.tuple (A := X.A.in1) hh i2 b h2b its2.toArray)
    have hin : i = min its.toArray.size its2.toArray.size := by simp; omega
    have fpw : ∀ c ∈ [z, TO, i1, i2], c ∈ [z, TI, TO, i1, i2] := fun c hcm => by
      have e' : c = z ∨ c = TO ∨ c = i1 ∨ c = i2 := by simpa using hcm
      rcases e' with q | q | q | q <;> subst q <;> simp
    refine W.done s _ _ (by rw [← hin]; exact ⟨hz, hTI, hTO, ⟨h1, p.isList⟩, h2, p2⟩) fun h' tk hk => ⟨rfl, I.turnedL (t' := tk) (ch := [z, TO, i1, i2]) (fun c o hb q => hk c o hb q) fun c hcm => hf c (fpw c hcm)⟩
  self := fun A i s Q E st h => wpAny_pyIter_zip st.1.1 h
section
variable {X : Cx} {ρ : Envi} {pos : Pos}
def iZipLT (K : PySem.W.Frag) (ta : TA) : TI := fun σ H R => ta σ H fun vs H1 => ∃ a b xs ys, vs = [.ref a, .ref b] ∧ SqL K H1 a xs ∧ SqT K H1 b ys ∧ R (ItzLT K a b xs.length ys.length) H1
theorem pi_zipLT {e e2 : Expr} {ta : TA} {p tpos : Pos} {elts : List Expr} {kk : Nat} (hg : Gl X "zip") (hm : X.mg "zip" = none) (ha : PA X [e, e2] ta)
    (hs : starEach [e, e2] X.env = (false, eval e X.env) :: starEach [e2] X.env) (hpl : (backTo pos (starEach [e2] X.env)).any (·.1) = false) :
    PI X (.Tuple elts kk tpos) (.Call (.Name "zip" p) [e, e2] [] pos) (iZipLT X.K ta) := by
  refine ⟨fun pins s σ H R I h => ?_⟩
  refine Call_ (ld_blt I hg hm PyProof.Rows.boot_zip (PyProof.Rows.callWith_type1 (thn (ha.run pos pins s σ H _ I h) fun us s1 ⟨vs, H1, I1, r1, q1⟩ => ?_) hs hpl))
  obtain ⟨a, b, xs, ys, ex, hqx, hqy, q⟩ := q1
  subst ex
  cases r1 with
  | cons r rr =>
    cases rr with
    | cons r' rr =>
      cases rr
      cases r
      cases r'
      obtain ⟨its, rv, p1, _⟩ := I1.list hqx
      obtain ⟨its2, rv2, p2, _⟩ := I1.tuple hqy
      have ha : a < s1.heap.objs.size := p1.lt
      have hb : b < s1.heap.objs.size := by obtain ⟨o2, ho2, _⟩ := id p2; exact Heap.lt_size ho2
      refine zip_begins2 (begins_list a its.toArray) (begins_tuple b its2.toArray) p1.isList p2 fun h' hz hTI hTO h1 h2 hsz hk => wpAny_pyIter_zip hz ?_
      generalize hN : s1.heap.objs.size = N at *
      have I2 : Inv X pins σ H1 { s1 with heap := h' } := I1.kept (t' := s1.toks) hk
      have sep : ZipSep2 (N + 4) (N + 2) (N + 3) N (N + 1) [N, a] [N + 1, b] := zip_sep2 (fp1 := [a]) (fp2 := [b]) (by simpa using ha) (by simpa using hb)
      refine ⟨N + 4, [N + 4, N + 2, N + 3, N, N + 1], _, _, H1, rfl, I2, turn_zipLT (n1 := xs.length) (n2 := ys.length) sep (Nat.ne_of_lt ha) (Nat.ne_of_lt (Nat.lt_succ_of_lt hb)),
        ⟨⟨hz, hTI, ⟨_, _, hTO⟩, ⟨_, h1, rfl, rfl⟩, ⟨_, h2, rfl, rfl⟩⟩, Nat.zero_le _⟩, fun c hcm => ?_, q⟩
      have hle : s1.heap.objs.size ≤ c := by
        rw [hN]
        simp only [List.mem_cons, List.not_mem_nil, or_false] at hcm
        rcases hcm with z | z | z | z | z
        · rw [z]; exact Nat.le_add_right _ _
        · rw [z]; exact Nat.le_add_right _ _
        · rw [z]; exact Nat.le_add_right _ _
        · rw [z]; exact Nat.le_refl _
        · rw [z]; exact Nat.le_add_right _ _
      exact I1.fpOk hle (I1.hok.fresh hle)
theorem iter_zipLT {e e2 : Expr} {ds es : List D} {p tpos : Pos} {elts : List Expr} {kk : Nat} (he : Ev X ρ e (.list ds)) (he2 : Ev X ρ e2 (.tuple es)) (hg : Gl X "zip") (hm : X.mg "zip" = none) (hs : starEach [e, e2] X.env = (false, eval e X.env) :: starEach [e2] X.env)
    (hs2 : starEach [e2] X.env = (false, eval e2 X.env) :: starEach [] X.env) (hp : ((backTo pos (starEach [e2] X.env)).any (·.1)) = false) :
    Iter X ρ (.Tuple elts kk tpos) (.Call (.Name "zip" p) [e, e2] [] pos) ((ds.zip es).map fun (q : D × D) => PyData.tuple [q.1, q.2]) := fun σ G H R E k =>
  wI_of (pi_zipLT hg hm pa_w hs hp) (evs_cons he (evs_cons he2 evs_nil hs2) hs σ G H _ E fun vs G1 H1 f1 hv => by
    obtain ⟨v, w, rfl, hx, hy⟩ := DpAll.two hv
    cases hx with
    | lst hs1 ha1 =>
      cases hy with
      | tup hs2 ha2 =>
        have n1 := DpAll.length ha1
        have n2 := DpAll.length ha2
        refine ⟨_, _, _, _, rfl, f1.s.seq hs1, Same.tupq f1.s hs2, k _ G1 H1 f1 ⟨fun i H s hi => ?_, fun i H s hi => ?_, fun i G2 H x H' d s1 s2 hy hd => ?_⟩⟩
        · simp only [List.length_map, List.length_zip] at hi
          exact ⟨_, _, s.seq hs1, Same.tupq s hs2, rfl, rfl, by omega, by omega⟩
        · simp only [List.length_map, List.length_zip] at hi
          exact ⟨_, _, s.seq hs1, Same.tupq s hs2, rfl, rfl, by omega⟩
        · obtain ⟨T, x0, y0, rfl, hT, rfl, hall1, hall2⟩ := hy
          rw [List.getElem?_map] at hd
          cases q : (ds.zip es)[i]? with
          | none => rw [q] at hd; cases hd
          | some dd =>
            rw [q] at hd
            obtain ⟨d1, d2⟩ := dd
            obtain ⟨q1, q2⟩ := List.getElem?_zip_eq_some.mp q
            obtain ⟨v1, a1, b1⟩ := DpAll.get ha1 q1
            obtain ⟨v2, a2, b2⟩ := DpAll.get ha2 q2
            have e1 := hall1 _ (s2.seq (s1.seq hs1))
            have e2 := hall2 _ (Same.tupq s2 (Same.tupq s1 hs2))
            rw [a1] at e1
            rw [a2] at e2
            cases e1
            cases e2
            simp only [Option.map_some, Option.some.injEq] at hd
            subst hd
            have st := s1.trans (same_upd (o := .tup [x0, y0]) (s2.free hT))
            exact ⟨_, Frm.new s2 hT, .tup (.inl (.inl upd_same)) (.cons (Dp.same st b1) (.cons (Dp.same st b2) .nil))⟩)
end
end DL

namespace DL
open PySem PySem.Spec PyProof.Rows L2
section
variable {X : Cx} {ρ ρ' : Envi} {pos : Pos} {s : Stmt} {ss : List Stmt} {st : List (List Stmt)} {O : Out → Prop}
/-! ## 30. an item of one's own list is written; list(x) as one's own -/
theorem DpAll.setj {K : PySem.W.Frag} {G : Hp} {v : V} {d : D} (hv : Dp K G v d) : ∀ {vs : List V} {ds : List D} (j : Nat), DpAll K G vs ds → DpAll K G (vs.set j v) (ds.set j d)
  | _, _, _, .nil => .nil
  | _, _, 0, .cons _ b => .cons hv b
  | _, _, j + 1, .cons a b => .cons a (DpAll.setj hv j b)
theorem bk_sto {i : Nat} {x : Str} {b e : Expr} {px p1 : Pos} {ds : List D} {d : D} {k : Int} {j : Nat} (h0 : ρ[i]? = some (.own ds)) (he : Ev X ρ e d) (hb : Ev X ρ b (.int k)) (hj : ixN ds.length k = some j)
    (hN : X.N[i]? = some x) (hv : Vis X.env.scope x)
    (ha : ∀ v, assign (.Subscript (.Name x px) b p1) X.env v = (do
      let ov ← holding [v] (eval (.Name x px) X.env)
      let iv ← holding [v, ov] (eval b X.env)
      standAt p1
      holding [v, ov, iv] (setItem ov iv v)
      release [v, ov, iv] []))
    (hs : swapsWithSole [.Subscript (.Name x px) b p1] e pos.line X.env = pure false) (hw : swappedStores [.Subscript (.Name x px) b p1] e X.env = pure none)
    (h1 : (assignEach [.Subscript (.Name x px) b p1] X.env).map (·.2) = [assign (.Subscript (.Name x px) b p1) X.env])
    (hd : (x == ("__debug__" : Str)) = false) (hcd : (x == ("__classdict__" : Str)) = false)
    (h : Bks X (ρ.set i (.own (ds.set j d))) (ss :: st) O) : Bks X ρ ((.Assign [.Subscript (.Name x px) b p1] e pos :: ss) :: st) O :=
  bk_step (fun G0 H0 G H σ D S kk => by
    obtain ⟨a, vs, q1, q2, q3, q4⟩ := S.env.own i ds h0
    refine wS_of (ps_asg pe_w (pg_sub (pe_var hN hv hd hcd) pe_w set_list ha) hs hw h1) (he σ G H _ S.env fun y G1 H1 f1 hy => ?_)
    refine ⟨.ref a, q1, hb σ G1 H1 _ (S.env.frm f1) fun z G2 H2 f2 hz => ?_⟩
    cases hz
    have f := f1.trans f2
    have g1 : G2 a = none := (f.n a _ q2).trans q3
    refine ⟨a, vs, k, j, rfl, rfl, f.h _ _ q2, by rw [DpAll.length q4]; exact hj, ?_⟩
    exact kk G2 _ σ ((S.go f).upd h0 q1 g1 (DpAll.setj (Dp.same f2.g hy) j (DpAll.same f.g q4)))) h
theorem ixN_at {n j : Nat} (hj : j < n) : ixN n (j : Int) = some j := by
  unfold ixN
  rw [if_pos (by omega), if_pos (by omega)]
  simp
theorem ev_ixOwnF {x : Str} {px : Pos} {i : Nat} {b : Expr} {ds : List D} {d : D} {n : Int} (h0 : ρ[i]? = some (.own ds)) (hb : Ev X ρ b (.int n)) (hat : L2.atI ds n = some d) (hN : X.N[i]? = some x) (hv : Vis X.env.scope x) (hp : PlainIx b)
    (hd : (x == ("__debug__" : Str)) = false) (hcd : (x == ("__classdict__" : Str)) = false) : Ev X ρ (.Subscript (.Name x px) b pos) d := ev_ixOwn h0 hb hat hN hv hp hd hcd
theorem evl_listL {e : Expr} {p : Pos} {ds : List D} (he : Ev X ρ e (.list ds)) (hg : Gl X "list") (hm : X.mg "list" = none) (hs : starEach [e] X.env = (false, eval e X.env) :: starEach [] X.env) (hp : ((backTo pos (starEach [] X.env)).any (·.1)) = false) :
    EvL X ρ (.Call (.Name "list" p) [e] [] pos) ds := fun σ G H Q E k =>
  wE_of (pe_callTy call_list_of hg hm (by decide +kernel) pa_w (by decide) (by decide) hs hp) (evs_cons he evs_nil hs σ G H _ E fun vs G1 H1 f1 hv => by
    obtain ⟨v, rfl, hx⟩ := DpAll.one hv
    cases hx with
    | lst hq ha => exact ⟨_, _, rfl, .inl (f1.s.seq hq), fun q hq2 => k q _ G1 _ (f1.trans (Frm.priv f1.s hq2)) upd_same (f1.s.free hq2) (f1.h.free hq2) ha⟩)
theorem evl_listT {e : Expr} {p : Pos} {ds : List D} (he : Ev X ρ e (.tuple ds)) (hg : Gl X "list") (hm : X.mg "list" = none) (hs : starEach [e] X.env = (false, eval e X.env) :: starEach [] X.env) (hp : ((backTo pos (starEach [] X.env)).any (·.1)) = false) :
    EvL X ρ (.Call (.Name "list" p) [e] [] pos) ds := fun σ G H Q E k =>
  wE_of (pe_callTy call_list_of hg hm (by decide +kernel) pa_w (by decide) (by decide) hs hp) (evs_cons he evs_nil hs σ G H _ E fun vs G1 H1 f1 hv => by
    obtain ⟨v, rfl, hx⟩ := DpAll.one hv
    cases hx with
    | tup hq ha => exact ⟨_, _, rfl, .inr (Same.tupq f1.s hq), fun q hq2 => k q _ G1 _ (f1.trans (Frm.priv f1.s hq2)) upd_same (f1.s.free hq2) (f1.h.free hq2) ha⟩)
end
/-! ## 31. == of pairs and triples -/
theorem Emb.pair {α β : Type} [DecidableEq α] [DecidableEq β] {g : α → D} {h : β → D} {p : α → Prop} {q : β → Prop} {k l : Nat} (E : Emb g p k) (F : Emb h q l) : Emb (fun x : α × β => PyData.tuple [g x.1, h x.2]) (fun x => p x.1 ∧ q x.2) (max k l + 1) :=
  ⟨fun x hx => by rw [PyData.canLay0, PyData.canLayAll0, PyData.canLayAll0, PyData.canLayAll0, E.lay _ hx.1, F.lay _ hx.2]; rfl,
   fun x => by
    rw [PyData.depth, PyData.depthAll, PyData.depthAll, PyData.depthAll]
    have h1 := E.dep x.1
    have h2 := F.dep x.2
    omega,
   fun x y => by
    rw [PyData.eqv, PyData.eqvAll, PyData.eqvAll, PyData.eqvAll, E.eq, F.eq]
    obtain ⟨a, b⟩ := x
    obtain ⟨c, d⟩ := y
    by_cases h1 : a = c <;> by_cases h2 : b = d <;> simp [h1, h2]⟩
theorem Emb.trip {α β γ : Type} [DecidableEq α] [DecidableEq β] [DecidableEq γ] {g : α → D} {h : β → D} {i : γ → D} {p : α → Prop} {q : β → Prop} {r : γ → Prop} {k l m : Nat} (E : Emb g p k) (F : Emb h q l) (I : Emb i r m) : Emb (fun x : α × β × γ => PyData.tuple [g x.1, h x.2.1, i x.2.2]) (fun x => p x.1 ∧ q x.2.1 ∧ r x.2.2) (max k (max l m) + 1) :=
  ⟨fun x hx => by rw [PyData.canLay0, PyData.canLayAll0, PyData.canLayAll0, PyData.canLayAll0, PyData.canLayAll0, E.lay _ hx.1, F.lay _ hx.2.1, I.lay _ hx.2.2]; rfl,
   fun x => by
    rw [PyData.depth, PyData.depthAll, PyData.depthAll, PyData.depthAll, PyData.depthAll]
    have h1 := E.dep x.1
    have h2 := F.dep x.2.1
    have h3 := I.dep x.2.2
    omega,
   fun x y => by
    rw [PyData.eqv, PyData.eqvAll, PyData.eqvAll, PyData.eqvAll, PyData.eqvAll, E.eq, F.eq, I.eq]
    obtain ⟨a, b, e⟩ := x
    obtain ⟨c, d, f⟩ := y
    by_cases h1 : a = c <;> by_cases h2 : b = d <;> by_cases h3 : e = f <;> simp [h1, h2, h3]⟩
theorem emb_nat : Emb (fun n : Nat => PyData.int ((n : Nat) : Int)) (fun _ => True) 0 := ⟨fun _ _ => rfl, fun _ => Nat.le_refl _, fun x y => by
  simp only [PyData.eqv]
  by_cases h : x = y
  · simp [h]
  · have : ¬ ((x : Int) = y) := by omega
    simp [h, this]⟩
theorem emb_bool : Emb PyData.bool (fun _ => True) 0 := ⟨fun _ _ => rfl, fun _ => Nat.le_refl _, fun x y => by
  simp only [PyData.eqv]
  cases x <;> cases y <;> rfl⟩
end DL

namespace DL
open PySem PySem.Spec PyProof.Rows L2
/-! ## 32. in, not in, of whole numbers -/
section
variable {X : Cx} {ρ ρ' : Envi} {pos : Pos} {s : Stmt} {ss : List Stmt} {st : List (List Stmt)} {O : Out → Prop}
theorem inV_ints (k : Int) : ∀ ns : List Int, inV (.int k) (ns.map V.int) = decide (k ∈ ns)
  | [] => rfl
  | n :: r => by
    have ih := inV_ints k r
    unfold inV at ih ⊢
    rw [List.map_cons, List.any_cons, ih]
    have e : eqV (V.int n) (V.int k) = decide (n = k) := by
      by_cases h : n = k
      · subst h; simp [eqV]
      · simp [eqV, h]
    rw [e]
    by_cases h : n = k
    · subst h; simp
    · by_cases h2 : k ∈ r
      · simp [h2]
      · have h3 : ¬ k = n := fun z => h z.symm
        simp [h, h2, h3]
theorem flat_ints : ∀ ns : List Int, (ns.map V.int).all flatV = true
  | [] => rfl
  | n :: r => by rw [List.map_cons, List.all_cons, flat_ints r]; rfl
theorem cmp_inI {k : Int} {ns : List Int} : CmpD X .In (.int k) (.list (ns.map .int)) (decide (k ∈ ns)) := ⟨_, op_in_seq, fun x y G H Q s hx hy kk => by
  cases hx
  cases hy with
  | lst hs ha =>
    have e := DpAll.ints ha
    subst e
    refine ⟨_, _, rfl, .inl (s.seq hs), rfl, flat_ints ns, ?_⟩
    rw [inV_ints]
    exact kk.here s (.bl _)⟩
theorem cmp_notInI {k : Int} {ns : List Int} : CmpD X .NotIn (.int k) (.list (ns.map .int)) (!decide (k ∈ ns)) := ⟨_, op_notIn_seq, fun x y G H Q s hx hy kk => by
  cases hx
  cases hy with
  | lst hs ha =>
    have e := DpAll.ints ha
    subst e
    refine ⟨_, _, rfl, .inl (s.seq hs), rfl, flat_ints ns, ?_⟩
    rw [inV_ints]
    exact kk.here s (.bl _)⟩
/-! ## 33. comprehensions with two for -/
theorem wipe_wipe (σ : L2.St) (vs : List Nat) : L2.wipe (L2.wipe σ vs) vs = L2.wipe σ vs := by
  have idem : ∀ (us : List Nat), (∀ u ∈ us, u ∈ vs) → L2.wipe (L2.wipe σ vs) us = L2.wipe σ vs := by
    intro us
    induction us with
    | nil => intro _; rfl
    | cons u us ih =>
      intro hu
      unfold L2.wipe
      rw [ih fun z hz => hu z (by simp [hz])]
      have hm : u ∈ vs := hu u (by simp)
      have : ∀ ws : List Nat, u ∈ ws → (L2.wipe σ ws).set u none = L2.wipe σ ws := by
        intro ws
        induction ws with
        | nil => intro h; simp at h
        | cons w ws ih2 =>
          intro h
          unfold L2.wipe
          by_cases q : u = w
          · subst q; rw [List.set_set]
          · rw [List.set_comm _ _ (fun e => q e.symm), ih2 (by rcases List.mem_cons.mp h with z | z; exact absurd z q; exact z)]
      have e3 := this vs hm
      cases vs with
      | nil => simp at hm
      | cons v vs => exact e3
  exact idem vs fun u h => h
theorem EnvR.beside {K : PySem.W.Frag} {G H G1 H1 : Hp} {σ : L2.St} {ρ : Envi} {A : Addr} (E : EnvR K G H σ ρ) (s : Same G G1) (t : Same G1 H1) (h : ∀ b o, b ≠ A → H b = some o → H1 b = some o) (n : ∀ b o, b ≠ A → H b = some o → G1 b = G b)
    (own : ∀ (i : Nat) (ds : List PyData) (a : Addr), ρ[i]? = some (.own ds) → σ[i]? = some (some (.ref a)) → a ≠ A) : EnvR K G1 H1 σ ρ := by
  refine ⟨t, E.len, fun i d e => ?_, fun i ds e => ?_, E.inj, fun i φ e => ?_⟩
  · obtain ⟨v, h1, h2⟩ := E.dat i d e
    exact ⟨v, h1, Dp.same s h2⟩
  · obtain ⟨a, vs, h1, h2, h3, h4⟩ := E.own i ds e
    have ha := own i ds a e h1
    exact ⟨a, vs, h1, h a _ ha h2, (n a _ ha h2).trans h3, DpAll.same s h4⟩
  · obtain ⟨m, v, h1, h2⟩ := E.raw i φ e
    exact ⟨m, v, h1, m _ _ v s h2⟩
theorem lc2_core {α β : Type} {items : List α} {inner : α → List β} {g : α → D} {g1 : α → β → D} {f : α → β → D} {tg tg1 elt it it1 : Expr} {scope : Scope} {vs vs1 : List Nat} {is : α → List Nat} {is1 : α → β → List Nat} (hi : Iter X ρ tg it (items.map g))
    (el : ∀ x, x ∈ items → ∃ ρ1, Blk X scope (fun Y => Tg Y tg (g x) (wipeR ρ vs) ρ1 (is x)) ∧ (∀ i ∈ is x, i ∈ vs) ∧ Blk X scope (fun Y => Iter Y ρ1 tg1 it1 ((inner x).map (g1 x))) ∧
      ∀ y, y ∈ inner x → ∃ ρ2, Blk X scope (fun Y => Tg Y tg1 (g1 x y) (wipeR ρ1 vs1) ρ2 (is1 x y)) ∧ (∀ i ∈ is1 x y, i ∈ vs1) ∧ Blk X scope (fun Y => Ev Y ρ2 elt (f x y)))
    (hlen : ((items.map fun x => (inner x).map (f x)).flatten).length ≤ sizeLine) {σ : L2.St} {G H : Hp} {Q : VK} (E : EnvR X.K G H σ ρ)
    (k : ∀ a ws G' H', Frm G H G' H' → H' a = some (.lst ws) → G' a = none → H a = none → DpAll X.K G' ws ((items.map fun x => (inner x).map (f x)).flatten) → Q (.ref a) H') :
    tLc2 (wI X tg it) (fun v σ H Q => Blk X scope fun Y => wG Y tg v σ H Q) (fun σ H Q => Blk X scope fun Y => wTs Y [] σ H Q) (fun σ H R => Blk X scope fun Y => wI Y tg1 it1 σ H R) (fun v σ H Q => Blk X scope fun Y => wG Y tg1 v σ H Q) (fun σ H Q => Blk X scope fun Y => wTs Y [] σ H Q) (fun σ H Q => Blk X scope fun Y => wE Y elt σ H Q) vs vs1 σ H Q := by
  refine hi σ G H _ E fun J G1 H1 f1 hJ D hD => ?_
  have hDH : H D = none := f1.h.free hD
  have hG1 : G1 D = none := f1.s.free hD
  refine ⟨fun i m Hi => m = items.length - i ∧ i ≤ items.length ∧ ∃ Gi acc, Frm G H Gi Hi ∧ Same G1 Gi ∧ Gi D = none ∧ Hi D = some (.lst acc) ∧ DpAll X.K Gi acc (((items.take i).map fun x => (inner x).map (f x)).flatten),
    ⟨_, rfl, Nat.zero_le _, G1, [], f1.trans (Frm.priv f1.s hD), Same.refl _, hG1, upd_same, by simp; exact .nil⟩, ?_⟩
  rintro i m Hi ⟨rfl, hle, Gi, acc, fi, si, gD, hD', hacc⟩
  by_cases hlt : i < items.length
  · refine .inr ⟨hJ.go i Hi (si.trans fi.s) (by simpa using hlt), fun H' => i + 1 ≤ items.length ∧ ∃ Gi acc, Frm G H Gi H' ∧ Same G1 Gi ∧ Gi D = none ∧ H' D = some (.lst acc) ∧ DpAll X.K Gi acc (((items.take (i + 1)).map fun x => (inner x).map (f x)).flatten),
      fun H' ⟨a, b⟩ => ⟨items.length - (i + 1), by omega, rfl, a, b⟩, fun x H' hy => ?_⟩
    have hx : items[i]? = some items[i] := List.getElem?_eq_getElem hlt
    obtain ⟨G', f', hv⟩ := hJ.item i Gi Hi x H' (g items[i]) si fi.s hy (by rw [List.getElem?_map, hx]; rfl)
    obtain ⟨ρ1, h1, h2, h3, h4⟩ := el items[i] (List.getElem_mem hlt)
    have etake : ((items.take (i + 1)).map fun x => (inner x).map (f x)).flatten = ((items.take i).map fun x => (inner x).map (f x)).flatten ++ (inner items[i]).map (f items[i]) := by
      rw [List.take_add_one, hx, List.map_append, List.flatten_append]
      congr 1
      show ([(inner items[i]).map (f items[i])]).flatten = _
      rw [List.flatten_singleton]
    have hsub : ∀ j, (((items.take i).map fun x => (inner x).map (f x)).flatten ++ ((inner items[i]).take j).map (f items[i])).length ≤ ((items.map fun x => (inner x).map (f x)).flatten).length := fun j => by
      have e2 : items = items.take (i + 1) ++ items.drop (i + 1) := (List.take_append_drop _ _).symm
      have e3 : ((items.map fun x => (inner x).map (f x)).flatten).length = (((items.take (i + 1)).map fun x => (inner x).map (f x)).flatten).length + (((items.drop (i + 1)).map fun x => (inner x).map (f x)).flatten).length := by
        conv => lhs; rw [e2]
        rw [List.map_append, List.flatten_append, List.length_append]
      rw [e3, etake, List.length_append, List.length_append, List.length_map, List.length_map, List.length_take]
      omega
    have E' : EnvR X.K G' H' σ ρ := (E.frm fi).frm f'
    have hD1 : H' D = some (.lst acc) := f'.h _ _ hD'
    have gD1 : G' D = none := (f'.n D _ hD').trans gD
    intro s H0 C cl fp
    refine h1 s H0 C cl fp _ G' H' x _ (E'.wipe vs) hv fun σ2 E2 w2 ko => ⟨?_, ?_⟩
    · rw [w2 vs h2, wipe_wipe]
    · intro s H0 C cl fp
      refine ⟨_, pts_nil, ?_⟩
      unfold tYes
      dsimp only
      rw [if_pos rfl]
      intro s H0 C cl fp
      have hown : ∀ (i : Nat) (ds : List PyData) (a : Addr), ρ1[i]? = some (.own ds) → σ2[i]? = some (some (.ref a)) → a ≠ D := fun i ds a e1 e2 z => by
        obtain ⟨e3, e4⟩ := ko i ds e1
        obtain ⟨b, ws, q1, q2, q3, q4⟩ := (E.wipe vs).own i ds e3
        rw [e4, q1] at e2
        cases e2
        subst z
        rw [hDH] at q2
        cases q2
      refine h3 s H0 C cl fp σ2 G' H' _ E2 fun J1 G4 H4 f4 hJ1 => ?_
      refine ⟨fun j m Hj => m = (inner items[i]).length - j ∧ j ≤ (inner items[i]).length ∧ ∃ Gj acc, Frm G H Gj Hj ∧ Same G1 Gj ∧ Same G4 Gj ∧ (∀ b o, b ≠ D → H' b = some o → Hj b = some o) ∧ (∀ b o, b ≠ D → H' b = some o → Gj b = G' b) ∧ Gj D = none ∧ Hj D = some (.lst acc) ∧ DpAll X.K Gj acc (((items.take i).map fun x => (inner x).map (f x)).flatten ++ ((inner items[i]).take j).map (f items[i])),
        ⟨_, rfl, Nat.zero_le _, G4, acc, fi.trans (f'.trans f4), si.trans (f'.g.trans f4.g), Same.refl _, fun b o _ e => f4.h _ _ e, fun b o _ e => f4.n _ _ e, (f4.n D _ hD1).trans gD1, f4.h _ _ hD1, by rw [List.take_zero, List.map_nil, List.append_nil]; exact DpAll.same (f'.g.trans f4.g) hacc⟩, ?_⟩
      rintro j m Hj ⟨rfl, hjl, Gj, acj, fj, sj1, sj4, hk1, hk2, gDj, hDj, haccj⟩
      by_cases hjt : j < (inner items[i]).length
      · refine .inr ⟨hJ1.go j Hj (sj4.trans fj.s) (by simpa using hjt), fun H5 => j + 1 ≤ (inner items[i]).length ∧ ∃ Gj acc, Frm G H Gj H5 ∧ Same G1 Gj ∧ Same G4 Gj ∧ (∀ b o, b ≠ D → H' b = some o → H5 b = some o) ∧ (∀ b o, b ≠ D → H' b = some o → Gj b = G' b) ∧ Gj D = none ∧ H5 D = some (.lst acc) ∧ DpAll X.K Gj acc (((items.take i).map fun x => (inner x).map (f x)).flatten ++ ((inner items[i]).take (j + 1)).map (f items[i])),
          fun H5 ⟨a, b⟩ => ⟨(inner items[i]).length - (j + 1), by omega, rfl, a, b⟩, fun y H5 hy5 => ?_⟩
        have hyj : (inner items[i])[j]? = some (inner items[i])[j] := List.getElem?_eq_getElem hjt
        obtain ⟨G5, f5, hv5⟩ := hJ1.item j Gj Hj y H5 (g1 items[i] (inner items[i])[j]) sj4 fj.s hy5 (by rw [List.getElem?_map, hyj]; rfl)
        obtain ⟨ρ2, k1, k2, k3⟩ := h4 (inner items[i])[j] (List.getElem_mem hjt)
        have E5 : EnvR X.K G5 H5 σ2 ρ1 := by
          refine EnvR.beside (A := D) E2 (f4.g.trans (sj4.trans f5.g)) f5.s (fun b o hb e => f5.h _ _ (hk1 b o hb e)) (fun b o hb e => (f5.n b _ (hk1 b o hb e)).trans (hk2 b o hb e)) hown
        intro s H0 C cl fp
        refine k1 s H0 C cl fp _ G5 H5 y _ (E5.wipe vs1) hv5 fun σ3 E6 w3 _ => ⟨?_, ?_⟩
        · rw [w3 vs1 k2, wipe_wipe]
        · intro s H0 C cl fp
          refine ⟨_, pts_nil, ?_⟩
          unfold tYes
          dsimp only
          rw [if_pos rfl]
          intro s H0 C cl fp
          refine k3 s H0 C cl fp σ3 G5 H5 _ E6 fun z G7 H7 f7 hz7 => ?_
          have f57 := f5.trans f7
          have hD7 : H7 D = some (.lst acj) := f57.h _ _ hDj
          have gD7 : G7 D = none := (f57.n D _ hDj).trans gDj
          have fa : Frm G H G7 H7 := fj.trans f57
          have hz : acj.length < sizeLine := by
            rw [DpAll.length haccj]
            have e1 := hsub (j + 1)
            have e2 : (((items.take i).map fun x => (inner x).map (f x)).flatten ++ ((inner items[i]).take (j + 1)).map (f items[i])).length = (((items.take i).map fun x => (inner x).map (f x)).flatten ++ ((inner items[i]).take j).map (f items[i])).length + 1 := by
              rw [List.take_add_one, hyj, List.map_append, ← List.append_assoc, List.length_append]
              rfl
            omega
          refine ⟨acj, hD7, hz, hjt, G7, acj ++ [z], ⟨fa.g, fun b o e => ?_, fun b o e => ?_, fa.n⟩, sj1.trans f57.g, sj4.trans f57.g, fun b o hb e => ?_, fun b o hb e => (f57.n b _ (hk1 b o hb e)).trans (hk2 b o hb e), gD7, upd_same, ?_⟩
          · rw [upd_ne (ne_of_none e hDH)]
            exact fa.h _ _ e
          · rw [upd_ne (ne_of_none e gD7)]
            exact fa.s _ _ e
          · rw [upd_ne hb]
            exact f57.h _ _ (hk1 b o hb e)
          · have e2 : (((items.take i).map fun x => (inner x).map (f x)).flatten ++ ((inner items[i]).take (j + 1)).map (f items[i])) = (((items.take i).map fun x => (inner x).map (f x)).flatten ++ ((inner items[i]).take j).map (f items[i])) ++ [f items[i] (inner items[i])[j]] := by
              rw [List.take_add_one, hyj, List.map_append, ← List.append_assoc]
              rfl
            rw [e2]
            exact DpAll.append (DpAll.same f57.g haccj) (.cons hz7 .nil)
      · have ej : j = (inner items[i]).length := by omega
        subst ej
        refine .inl ⟨hJ1.stop _ Hj (sj4.trans fj.s) (by simp), hlt, Gj, acj, fj, sj1, gDj, hDj, ?_⟩
        rw [etake]
        rw [List.take_length] at haccj
        exact haccj
  · have e : i = items.length := by omega
    subst e
    refine .inl ⟨hJ.stop _ Hi (si.trans fi.s) (by simp), k D acc Gi Hi fi hD' gD hDH ?_⟩
    rw [List.take_length] at hacc
    exact hacc
theorem evl_lc2 {α β : Type} {items : List α} {inner : α → List β} {g : α → D} {g1 f : α → β → D} {tg tg1 elt it it1 : Expr} {scope : Scope} {own : List (Str × Nat)} {vs1 : List Nat} {ρ1 : α → Envi} {ρ2 : α → β → Envi} {is : α → List Nat} {is1 : α → β → List Nat} (hc : X.calm = true) (hN : X.N.Nodup) (ok : BlkOk X.N X.env.scope scope own) (hv : ∀ i ∈ vs1, i ∈ own.map (·.2)) (hi : Iter X ρ tg it (items.map g))
    (h1 : ∀ x, x ∈ items → Blk X scope (fun Y => Tg Y tg (g x) (wipeR ρ (own.map (·.2))) (ρ1 x) (is x))) (h2 : ∀ x, x ∈ items → ∀ i ∈ is x, i ∈ own.map (·.2)) (h3 : ∀ x, x ∈ items → Blk X scope (fun Y => Iter Y (ρ1 x) tg1 it1 ((inner x).map (g1 x))))
    (k1 : ∀ x, x ∈ items → ∀ y, y ∈ inner x → Blk X scope (fun Y => Tg Y tg1 (g1 x y) (wipeR (ρ1 x) vs1) (ρ2 x y) (is1 x y))) (k2 : ∀ x, x ∈ items → ∀ y, y ∈ inner x → ∀ i ∈ is1 x y, i ∈ vs1) (k3 : ∀ x, x ∈ items → ∀ y, y ∈ inner x → Blk X scope fun Y => Ev Y (ρ2 x y) elt (f x y))
    (hlen : ((items.map fun x => (inner x).map (f x)).flatten).length ≤ sizeLine) (hs : ∀ x, foldedSetIterable it X.env x = pure x) (hs1 : ∀ env x, foldedSetIterable it1 env x = pure x) :
    EvL X ρ (.ListComp elt [⟨tg, it, [], 0⟩, ⟨tg1, it1, [], 0⟩] scope pos) ((items.map fun x => (inner x).map (f x)).flatten) := fun σ G H Q E k => by
  refine wE_of (pe_lc2 (vs1 := vs1) (g := fun v σ H Q => Blk X scope fun Y => wG Y tg v σ H Q) (tt := fun σ H Q => Blk X scope fun Y => wTs Y [] σ H Q) (wi1 := fun σ H R => Blk X scope fun Y => wI Y tg1 it1 σ H R) (g1 := fun v σ H Q => Blk X scope fun Y => wG Y tg1 v σ H Q) (tt1 := fun σ H Q => Blk X scope fun Y => wTs Y [] σ H Q) (te := fun σ H Q => Blk X scope fun Y => wE Y elt σ H Q) hc hN pi_w ok hv ?_ ?_ ?_ ?_ ?_ ?_ hs hs1) (lc2_core hi (fun x hx => ⟨ρ1 x, h1 x hx, h2 x hx, h3 x hx, fun y hy => ⟨ρ2 x y, k1 x hx y hy, k2 x hx y hy, k3 x hx y hy⟩⟩) hlen E k)
  · exact fun s H C cl fp => ⟨fun pins s' σ H' v u Q I r h => pg_w.run pins s' σ H' v u Q I r (h s H C cl fp)⟩
  · exact fun s H C cl fp => ⟨fun pins s' σ H' Q I h => pts_w.run pins s' σ H' Q I (h s H C cl fp)⟩
  · exact fun s H C cl fp => ⟨fun pins s' σ H' R I h => pi_w.run pins s' σ H' R I (h s H C cl fp)⟩
  · exact fun s H C cl fp => ⟨fun pins s' σ H' v u Q I r h => pg_w.run pins s' σ H' v u Q I r (h s H C cl fp)⟩
  · exact fun s H C cl fp => ⟨fun pins s' σ H' Q I h => pts_w.run pins s' σ H' Q I (h s H C cl fp)⟩
  · exact fun s H C cl fp => ⟨fun pins s' σ H' Q I h => pe_w.run pins s' σ H' Q I (h s H C cl fp)⟩
end
end DL

namespace DL
open PySem PySem.Spec PyProof.Rows L2
/-! ## 34. list.count of bools -/
section
variable {X : Cx} {ρ ρ' : Envi} {pos : Pos}
theorem countP_eqU {x : V} : ∀ {xs : List V} {us : List Value}, Vals xs us → xs.all flatV = true → us.countP (eqU x) = xs.countP fun y => eqV y x
  | _, _, .nil, _ => rfl
  | y :: xs, u :: us, .cons r t, f => by
    rw [List.all_cons, Bool.and_eq_true] at f
    rw [List.countP_cons, List.countP_cons, eqU_of r f.1, countP_eqU t f.2]
def rCntF (K : PySem.W.Frag) : V → List V → Hp → VK → Prop := fun x xs H Q => ∃ (p : Addr) (ys : List V) (k : V), x = .ref p ∧ xs = [k] ∧ SqL K H p ys ∧ flatV k = true ∧ ys.all flatV = true ∧ Q (.int (ys.countP fun y => eqV y k : Nat)) H
theorem mt_lcountF : MtR X "list.count" (rCntF X.K) := by
  intro pins s σ H x xs v us Q I rx rxs h
  obtain ⟨p, ys, k, rfl, rfl, hs, fk, fs, q⟩ := h
  cases rx
  obtain ⟨u, rfl, ru⟩ := rxs.one
  obtain ⟨its, rv, ⟨⟨cls, dd, data, sl⟩, n, ho, hc, hdn, hd⟩, hlen⟩ := I.list hs
  simp only at hc hd
  subst hc hd
  refine call_meets PySem.F.slot_list_count ⟨_, ho, rfl⟩ PySem.F.entry_list_count (PySem.F.args_list_count_2 _ _)
    (SeqAt.list_countAt p its.toArray n dd sl u (eqU k)) ⟨ho, fun y hy => mem_eqAt ru fk rv fs y (by simpa using hy), ?_⟩
  have ec : its.toArray.toList.countP (eqU k) = ys.countP fun y => eqV y k := countP_eqU rv fs
  refine ⟨.int (ys.countP fun y => eqV y k : Nat), H, I.tok _, ⟨s.toks, ?_⟩, q⟩
  show Value.int ((its.toArray.toList.countP (eqU k) : Nat) : Int) s.toks = Value.int ((ys.countP fun y => eqV y k : Nat) : Int) s.toks
  rw [ec]
theorem cnt_bools (k : Bool) : ∀ bs : List Bool, ((bs.map V.bl).countP fun y => eqV y (.bl k)) = bs.count k
  | [] => rfl
  | b :: r => by
    rw [List.map_cons, List.countP_cons, cnt_bools k r, List.count_cons]
    cases b <;> cases k <;> rfl
theorem flat_bools : ∀ bs : List Bool, (bs.map V.bl).all flatV = true
  | [] => rfl
  | b :: r => by rw [List.map_cons, List.all_cons, flat_bools r]; rfl
theorem ev_lcountB {e a : Expr} {apos cpos : Pos} {bs : List Bool} {k : Bool} (he : Ev X ρ e (.list (bs.map .bool))) (ha : Ev X ρ a (.bool k))
    (h2 : ((((backTo cpos (starEach [a] X.env)).all fun x => !x.1) && (backToKw cpos (keywordEach [] X.env)).all fun x => x.1.isSome) && decide (([a] : List Expr).length + ([] : List Keyword).length + (if ([] : List Keyword).isEmpty = true then 0 else 1) < 30)) = true)
    (hb : attributeBase e "count" X.env (eval e X.env) = eval e X.env)
    (hl : (apos.endLine == cpos.line) = true) (hs : starEach [a] X.env = (false, eval a X.env) :: starEach [] X.env) (h5 : ((backTo cpos (starEach [] X.env)).any fun x => x.1) = false) :
    Ev X ρ (.Call (.Attribute e "count" apos) [a] [] cpos) (.int ((bs.count k : Nat) : Int)) := fun σ G H Q E kk => by
  refine wE_of (pe_bm PySem.F.plainAttrs_list PySem.F.slot_list_count PySem.F.type_list_count mt_lcountF pe_w pa_w hb h2 hl hs h5) (he σ G H _ E fun x G1 H1 f1 hx => ?_)
  cases hx with
  | lst hq hd =>
    have e2 := DpAll.bools hd
    subst e2
    refine ⟨.inl ⟨rfl, _, f1.s.seq hq⟩, evs_cons ha evs_nil hs σ G1 H1 _ (E.frm f1) fun us G2 H2 f2 hu => ?_⟩
    obtain ⟨u, rfl, hu1⟩ := DpAll.one hu
    cases hu1
    refine ⟨_, _, _, rfl, rfl, f2.h.seq (f1.s.seq hq), rfl, flat_bools bs, ?_⟩
    rw [cnt_bools]
    exact kk _ G2 H2 (f1.trans f2) (.int _)
end
end DL
namespace DL
open PySem PySem.Spec PyProof.Rows L2
/-! ## 35. in, not in, of any data in a list -/
section
variable {X : Cx} {ρ ρ' : Envi} {pos : Pos}
theorem inD_any {pins : List (Addr × Obj)} {s : Shared} {σ : L2.St} {H : Hp} (I : Inv X pins σ H s) {e : Value → Bool} {d : PyData} (he : ∀ u d' as, Reads s.heap u d' as → e u = PyData.eqv d' d) : ∀ {ds : List PyData} {vs : List V} {us : List Value}, DpAll X.K H vs ds → Vals vs us → us.any e = ds.any fun d' => PyData.eqv d' d
  | [], _, _, .nil, .nil => rfl
  | d' :: ds, v :: vs, u :: us, .cons a b, .cons r rr => by
    obtain ⟨as, q⟩ := Dp.reads I d' v u a r
    rw [List.any_cons, List.any_cons, he u d' as q, inD_any I he b rr]
theorem inD_mem {pins : List (Addr × Obj)} {s : Shared} {σ : L2.St} {H : Hp} (I : Inv X pins σ H s) : ∀ {ds : List PyData} {vs : List V} {us : List Value}, DpAll X.K H vs ds → Vals vs us → ∀ u ∈ us, ∃ d' ∈ ds, ∃ as, Reads s.heap u d' as
  | [], _, _, .nil, .nil, u, h => by cases h
  | d' :: ds, v :: vs, u :: us, .cons a b, .cons r rr, w, h => by
    rcases List.mem_cons.mp h with rfl | h
    · obtain ⟨as, q⟩ := Dp.reads I d' v w a r
      exact ⟨d', by simp, as, q⟩
    · obtain ⟨d2, h2, q⟩ := inD_mem I b rr w h
      exact ⟨d2, by simp [h2], q⟩
def rInD (K : PySem.W.Frag) (neg : Bool) (d : PyData) (ds : List PyData) : R2 := fun x y H Q => ∃ p vs, y = .ref p ∧ SqL K H p vs ∧ Dp K H x d ∧ DpAll K H vs ds ∧ Q (.bl (if neg then !(ds.any fun d' => PyData.eqv d' d) else (ds.any fun d' => PyData.eqv d' d))) H
open Classical in
theorem op_inD {d : PyData} {ds : List PyData} (hu : X.A.in1.units + 64 < cLine) (sd : SeqAt.shaped d = true) (sds : ∀ d' ∈ ds, SeqAt.shaped d' = true) : OpR X (compareOp .In) (rInD X.K false d ds) := by
  intro pins s σ H x y v u Q I rx ry h
  obtain ⟨p, vs, rfl, hq, hd, hda, q⟩ := h
  cases ry
  obtain ⟨bs, r2⟩ := Dp.reads I d x v hd rx
  obtain ⟨its, r, pl, hz⟩ := I.list hq
  have he : ∀ u d' as, Reads s.heap u d' as → (decide (∃ d2 as2, Reads s.heap u d2 as2 ∧ PyData.eqv d2 d = true)) = PyData.eqv d' d := fun u d' as hr => by
    cases h2 : PyData.eqv d' d with
    | true => exact decide_eq_true ⟨d', as, hr, h2⟩
    | false =>
      refine decide_eq_false fun ⟨d2, as2, h3, h4⟩ => ?_
      rw [(Reads.unique hr d2 as2 h3).1, h4] at h2
      cases h2
  refine SeqAt.in_listAt (fun u => decide (∃ d2 as2, Reads s.heap u d2 as2 ∧ PyData.eqv d2 d = true)) pl.isList (fun w hw => ?_) ⟨.bl _, H, I, rfl, ?_⟩
  · obtain ⟨d', h1, as, h2⟩ := inD_mem I hda r w (by simpa using hw)
    rw [he w d' as h2]
    exact SeqAt.eqAt_reads d' d _ s w v as bs h2 r2 (SeqAt.canLay_of_shaped (sds d' h1)) (SeqAt.canLay_of_shaped sd) (SeqAt.room_of_shaped (sds d' h1) hu)
  · rw [show its.toArray.any (fun u => decide (∃ d2 as2, Reads s.heap u d2 as2 ∧ PyData.eqv d2 d = true)) = its.any (fun u => decide (∃ d2 as2, Reads s.heap u d2 as2 ∧ PyData.eqv d2 d = true)) by simp, inD_any I he hda r]
    exact q
theorem cmp_inD {d : PyData} {ds : List PyData} (hu : X.A.in1.units + 64 < cLine) (sd : SeqAt.shaped d = true) (sds : ∀ d' ∈ ds, SeqAt.shaped d' = true) : CmpD X .In d (.list ds) (ds.any fun d' => PyData.eqv d' d) := ⟨_, op_inD hu sd sds, fun x y G H Q s hx hy kk => by
  cases hy with
  | lst hs ha => exact ⟨_, _, rfl, s.seq hs, Dp.same s hx, DpAll.same s ha, kk.here s (.bl _)⟩⟩
open Classical in
theorem op_notInD {d : PyData} {ds : List PyData} (hu : X.A.in1.units + 64 < cLine) (sd : SeqAt.shaped d = true) (sds : ∀ d' ∈ ds, SeqAt.shaped d' = true) : OpR X (compareOp .NotIn) (rInD X.K true d ds) := by
  intro pins s σ H x y v u Q I rx ry h
  obtain ⟨p, vs, rfl, hq, hd, hda, q⟩ := h
  cases ry
  obtain ⟨bs, r2⟩ := Dp.reads I d x v hd rx
  obtain ⟨its, r, pl, hz⟩ := I.list hq
  have he : ∀ u d' as, Reads s.heap u d' as → (decide (∃ d2 as2, Reads s.heap u d2 as2 ∧ PyData.eqv d2 d = true)) = PyData.eqv d' d := fun u d' as hr => by
    cases h2 : PyData.eqv d' d with
    | true => exact decide_eq_true ⟨d', as, hr, h2⟩
    | false =>
      refine decide_eq_false fun ⟨d2, as2, h3, h4⟩ => ?_
      rw [(Reads.unique hr d2 as2 h3).1, h4] at h2
      cases h2
  refine SeqAt.notIn_listAt (fun u => decide (∃ d2 as2, Reads s.heap u d2 as2 ∧ PyData.eqv d2 d = true)) pl.isList (fun w hw => ?_) ⟨.bl _, H, I, rfl, ?_⟩
  · obtain ⟨d', h1, as, h2⟩ := inD_mem I hda r w (by simpa using hw)
    rw [he w d' as h2]
    exact SeqAt.eqAt_reads d' d _ s w v as bs h2 r2 (SeqAt.canLay_of_shaped (sds d' h1)) (SeqAt.canLay_of_shaped sd) (SeqAt.room_of_shaped (sds d' h1) hu)
  · rw [show its.toArray.any (fun u => decide (∃ d2 as2, Reads s.heap u d2 as2 ∧ PyData.eqv d2 d = true)) = its.any (fun u => decide (∃ d2 as2, Reads s.heap u d2 as2 ∧ PyData.eqv d2 d = true)) by simp, inD_any I he hda r]
    exact q
theorem cmp_notInD {d : PyData} {ds : List PyData} (hu : X.A.in1.units + 64 < cLine) (sd : SeqAt.shaped d = true) (sds : ∀ d' ∈ ds, SeqAt.shaped d' = true) : CmpD X .NotIn d (.list ds) (!ds.any fun d' => PyData.eqv d' d) := ⟨_, op_notInD hu sd sds, fun x y G H Q s hx hy kk => by
  cases hy with
  | lst hs ha => exact ⟨_, _, rfl, s.seq hs, Dp.same s hx, DpAll.same s ha, kk.here s (.bl _)⟩⟩
theorem huIn {k : Nat} {A : Around} (r : Room k A) : A.in1.units + 64 < cLine := by
  have := r.un
  show A.units + 1 + 64 < cLine
  omega
/-- whether it is among them, told by values of Lean -/
theorem any_emb {α : Type} [DecidableEq α] {g : α → PyData} {p : α → Prop} {k : Nat} (E : Emb g p k) (x : α) : ∀ xs : List α, ((xs.map g).any fun d' => PyData.eqv d' (g x)) = decide (x ∈ xs)
  | [] => rfl
  | y :: r => by
    rw [List.map_cons, List.any_cons, any_emb E x r, E.eq]
    by_cases h : y = x
    · subst h; simp
    · have h2 : ¬ x = y := fun z => h z.symm
      by_cases h3 : x ∈ r
      · simp [h3]
      · simp [h, h2, h3]
theorem cmp_inE {α : Type} [DecidableEq α] {g : α → PyData} {p : α → Prop} {k : Nat} (E : Emb g p k) (hk : k ≤ 64) {x : α} {xs : List α} (hx : p x) (hxs : ∀ y ∈ xs, p y) (hu : X.A.in1.units + 64 < cLine) : CmpD X .In (g x) (.list (xs.map g)) (decide (x ∈ xs)) := by
  have h := cmp_inD (X := X) (d := g x) (ds := xs.map g) hu (E.shaped hk x hx) (fun d' hd => by
    obtain ⟨y, hy, rfl⟩ := List.mem_map.mp hd
    exact E.shaped hk y (hxs y hy))
  rw [any_emb E] at h
  exact h
theorem cmp_notInE {α : Type} [DecidableEq α] {g : α → PyData} {p : α → Prop} {k : Nat} (E : Emb g p k) (hk : k ≤ 64) {x : α} {xs : List α} (hx : p x) (hxs : ∀ y ∈ xs, p y) (hu : X.A.in1.units + 64 < cLine) : CmpD X .NotIn (g x) (.list (xs.map g)) (!decide (x ∈ xs)) := by
  have h := cmp_notInD (X := X) (d := g x) (ds := xs.map g) hu (E.shaped hk x hx) (fun d' hd => by
    obtain ⟨y, hy, rfl⟩ := List.mem_map.mp hd
    exact E.shaped hk y (hxs y hy))
  rw [any_emb E] at h
  exact h
end
end DL

namespace DL
open PySem PySem.Spec PyProof.Rows L2
open StrLaws
/-! ## stuffing, on lists of signs -/
def ones (n : Nat) : List Nat := List.replicate n 49
theorem ones_succ (n : Nat) : ones (n + 1) = 49 :: ones n := rfl
theorem ones_length (n : Nat) : (ones n).length = n := List.length_replicate
theorem ones_get {n i : Nat} (h : i < n) : (ones n)[i]? = some 49 := by
  unfold ones
  rw [List.getElem?_replicate, if_pos h]
theorem ones_snoc (n : Nat) (l : List Nat) : ones n ++ 49 :: l = ones (n + 1) ++ l := by
  induction n with
  | zero => rfl
  | succ n ih => rw [ones_succ, List.cons_append, ih, ones_succ (n + 1), List.cons_append]
/-- stuffed, behind k ones -/
def stF (L : Nat) : Nat → List Nat → List Nat
  | _, [] => []
  | k, c :: r => if c = 49 then (if k + 1 = L then 49 :: 48 :: stF L 0 r else 49 :: stF L (k + 1) r) else c :: stF L 0 r
theorem take_ne {y l : List Nat} (i : Nat) (a b : Nat) (h1 : y[i]? = some a) (h2 : l[i]? = some b) (h : a ≠ b) : ¬ l.take y.length = y := by
  intro e
  have hi : i < y.length := by
    rcases Nat.lt_or_ge i y.length with h | h
    · exact h
    · rw [List.getElem?_eq_none h] at h1
      cases h1
  rw [← e, List.getElem?_take, if_pos hi, h2] at h1
  exact h (Option.some.inj h1).symm
theorem take_sh {y l : List Nat} (h : l.length < y.length) : ¬ l.take y.length = y := by
  intro e
  have := congrArg List.length e
  rw [List.length_take] at this
  omega
section
variable {L : Nat} {z : List Nat}
theorem st_short (hL : 0 < L) : ∀ k, k < L → replL (ones L) z (ones k) = ones k
  | 0, _ => replL_nil
  | k + 1, h => by
    rw [ones_succ, replL_miss, st_short hL k (by omega)]
    rw [← ones_succ]
    exact take_sh (by rw [ones_length, ones_length]; exact h)
theorem st_stop (hL : 0 < L) {c : Nat} (hc : c ≠ 49) (r : List Nat) : ∀ k, k < L → replL (ones L) z (ones k ++ c :: r) = ones k ++ c :: replL (ones L) z r
  | 0, _ => by
    show replL (ones L) z (c :: r) = c :: replL (ones L) z r
    exact replL_miss (take_ne 0 49 c (ones_get hL) rfl (Ne.symm hc))
  | k + 1, h => by
    rw [ones_succ, List.cons_append, replL_miss, st_stop hL hc r k (by omega)]
    · rfl
    · rw [← List.cons_append, ← ones_succ]
      refine take_ne (k + 1) 49 c (ones_get h) ?_ (Ne.symm hc)
      rw [List.getElem?_append_right (by rw [ones_length]; exact Nat.le_refl _), ones_length, Nat.sub_self]
      rfl
theorem stuff_runs (hL : 0 < L) : ∀ (l : List Nat) (k : Nat), k < L → replL (ones L) (ones L ++ [48]) (ones k ++ l) = ones k ++ stF L k l
  | [], k, h => by rw [stF, List.append_nil, st_short hL k h]
  | c :: r, k, h => by
    by_cases hc : c = 49
    · subst hc
      rw [stF, if_pos rfl, ones_snoc]
      by_cases hk : k + 1 = L
      · rw [if_pos hk, hk]
        have hnil : ones L ≠ [] := fun e => by
          have := congrArg List.length e
          rw [ones_length] at this
          simp at this
          omega
        have e1 : ones L ++ r = 49 :: (ones (L - 1) ++ r) := by
          rw [show L = (L - 1) + 1 by omega, ones_succ]
          rfl
        have h0 := stuff_runs hL r 0 hL
        rw [show ones 0 ++ r = r from rfl, show ones 0 ++ stF L 0 r = stF L 0 r from rfl] at h0
        rw [e1, replL_hit hnil, ← e1, List.drop_left, h0, List.append_assoc]
        · rw [show (49 :: 48 :: stF L 0 r) = 49 :: ([48] ++ stF L 0 r) from rfl, ones_snoc, hk]
        · rw [← e1, List.take_left]
      · rw [if_neg hk, stuff_runs hL r (k + 1) (by omega), ones_snoc]
    · rw [stF, if_neg hc, st_stop hL hc r k h]
      have := stuff_runs hL r 0 hL
      rw [show ones 0 ++ r = r from rfl, show ones 0 ++ stF L 0 r = stF L 0 r from rfl] at this
      rw [this]
theorem stuff_eq (hL : 0 < L) (l : List Nat) : replL (ones L) (ones L ++ [48]) l = stF L 0 l := stuff_runs hL l 0 hL
/-- a zero behind L ones or more is left out -/
def usF (L : Nat) : Nat → List Nat → List Nat
  | _, [] => []
  | k, c :: r => if c = 49 then 49 :: usF L (k + 1) r else if L ≤ k then usF L 0 r else c :: usF L 0 r
theorem us_ones : ∀ k, replL (ones L ++ [48]) z (ones k) = ones k
  | 0 => replL_nil
  | k + 1 => by
    rw [ones_succ, replL_miss, us_ones k]
    rw [← ones_succ]
    by_cases h : k + 1 ≤ L
    · exact take_sh (by rw [List.length_append, ones_length, ones_length]; exact Nat.lt_succ_of_le h)
    · refine take_ne L 48 49 ?_ (ones_get (by omega)) (by decide)
      rw [List.getElem?_append_right (by rw [ones_length]; exact Nat.le_refl _), ones_length, Nat.sub_self]
      rfl
theorem us_stop (hL : 0 < L) (r : List Nat) : ∀ k, replL (ones L ++ [48]) (ones L) (ones k ++ 48 :: r) = ones k ++ (if L ≤ k then replL (ones L ++ [48]) (ones L) r else 48 :: replL (ones L ++ [48]) (ones L) r)
  | 0 => by
    rw [if_neg (by omega)]
    show replL _ _ (48 :: r) = 48 :: _
    exact replL_miss (take_ne 0 49 48 (by rw [List.getElem?_append_left (by rw [ones_length]; exact hL)]; exact ones_get hL) rfl (by decide))
  | k + 1 => by
    by_cases hk : k + 1 = L
    · have e1 : (ones L ++ [48]) ++ r = 49 :: (ones k ++ 48 :: r) := by
        rw [← hk, ones_succ, List.append_assoc]
        rfl
      rw [if_pos (by omega), ones_succ, List.cons_append, ← e1]
      rw [show replL (ones L ++ [48]) (ones L) (ones L ++ [48] ++ r) = ones L ++ replL (ones L ++ [48]) (ones L) r from ?_, ← ones_succ, hk]
      rw [e1, replL_hit (by simp), ← e1, List.drop_left]
      rw [← e1, List.take_left]
    · rw [ones_succ, List.cons_append, replL_miss, us_stop hL r k]
      · by_cases h : L ≤ k
        · rw [if_pos h, if_pos (by omega)]
          rfl
        · rw [if_neg h, if_neg (by omega)]
          rfl
      · rw [← List.cons_append, ← ones_succ]
        by_cases h : k + 1 < L
        · refine take_ne (k + 1) 49 48 (by rw [List.getElem?_append_left (by rw [ones_length]; exact h)]; exact ones_get h) ?_ (by decide)
          rw [List.getElem?_append_right (by rw [ones_length]; exact Nat.le_refl _), ones_length, Nat.sub_self]
          rfl
        · refine take_ne L 48 49 ?_ (by rw [List.getElem?_append_left (by rw [ones_length]; omega)]; exact ones_get (by omega)) (by decide)
          rw [List.getElem?_append_right (by rw [ones_length]; exact Nat.le_refl _), ones_length, Nat.sub_self]
          rfl
theorem unstuff_runs (hL : 0 < L) : ∀ (l : List Nat), (∀ c ∈ l, c = 48 ∨ c = 49) → ∀ k, replL (ones L ++ [48]) (ones L) (ones k ++ l) = ones k ++ usF L k l
  | [], _, k => by rw [usF, List.append_nil, us_ones]
  | c :: r, hb, k => by
    have hb' : ∀ c ∈ r, c = 48 ∨ c = 49 := fun c hc => hb c (by simp [hc])
    have h0 := unstuff_runs hL r hb' 0
    rw [show ones 0 ++ r = r from rfl, show ones 0 ++ usF L 0 r = usF L 0 r from rfl] at h0
    rcases hb c (by simp) with h | h
    · subst h
      rw [us_stop hL r k, h0, usF, if_neg (show ¬ (48 = 49) by decide)]
    · subst h
      rw [ones_snoc, unstuff_runs hL r hb' (k + 1), usF, if_pos rfl, ones_snoc]
theorem unstuff_eq (hL : 0 < L) {l : List Nat} (hb : ∀ c ∈ l, c = 48 ∨ c = 49) : replL (ones L ++ [48]) (ones L) l = usF L 0 l := unstuff_runs hL l hb 0
theorem us_st : ∀ (l : List Nat), (∀ c ∈ l, c = 48 ∨ c = 49) → ∀ k, k < L → usF L k (stF L k l) = l
  | [], _, k, _ => by rw [stF, usF]
  | c :: r, hb, k, h => by
    have hb' : ∀ c ∈ r, c = 48 ∨ c = 49 := fun c hc => hb c (by simp [hc])
    rw [stF]
    rcases hb c (by simp) with hc | hc
    · subst hc
      rw [if_neg (by decide), usF, if_neg (by decide), if_neg (by omega), us_st r hb' 0 (by omega)]
    · subst hc
      rw [if_pos rfl]
      by_cases hk : k + 1 = L
      · rw [if_pos hk, usF, if_pos rfl, usF, if_neg (by decide), if_pos (by omega), us_st r hb' 0 (by omega)]
      · rw [if_neg hk, usF, if_pos rfl, us_st r hb' (k + 1) (by omega)]
/-- the bits whose stuffing these are, behind k ones -/
def uns (L : Nat) : Nat → List Nat → Option (List Nat)
  | k, [] => if L ≤ k then none else some []
  | k, c :: r => if L ≤ k then (if c = 48 then uns L 0 r else none) else (uns L (if c = 49 then k + 1 else 0) r).map (c :: ·)
theorem uns_nil (k : Nat) : uns L k [] = if L ≤ k then none else some [] := by rw [uns]
theorem uns_cons (k c : Nat) (r : List Nat) : uns L k (c :: r) = if L ≤ k then (if c = 48 then uns L 0 r else none) else (uns L (if c = 49 then k + 1 else 0) r).map (c :: ·) := by rw [uns]
theorem uns_st : ∀ (l : List Nat) (k : Nat), k < L → uns L k (stF L k l) = some l
  | [], k, h => by rw [stF, uns_nil, if_neg (by omega)]
  | c :: r, k, h => by
    rw [stF]
    by_cases hc : c = 49
    · subst hc
      rw [if_pos rfl]
      by_cases hk : k + 1 = L
      · rw [if_pos hk, uns_cons, if_neg (by omega), if_pos rfl, uns_cons, if_pos (by omega), if_pos rfl, uns_st r 0 (by omega)]
        rfl
      · rw [if_neg hk, uns_cons, if_neg (by omega), if_pos rfl, uns_st r (k + 1) (by omega)]
        rfl
    · rw [if_neg hc, uns_cons, if_neg (by omega), if_neg hc, uns_st r 0 (by omega)]
      rfl
theorem st_uns (hL : 0 < L) : ∀ (b : List Nat) (k : Nat) (x : List Nat), uns L k b = some x → (k < L → stF L k x = b) ∧ (L ≤ k → b = 48 :: stF L 0 x)
  | [], k, x, e => by
    rw [uns_nil] at e
    by_cases h : L ≤ k
    · rw [if_pos h] at e
      cases e
    · rw [if_neg h] at e
      cases e
      exact ⟨fun _ => by rw [stF], fun h' => absurd h' h⟩
  | c :: r, k, x, e => by
    rw [uns_cons] at e
    by_cases h : L ≤ k
    · rw [if_pos h] at e
      by_cases hc : c = 48
      · rw [if_pos hc] at e
        refine ⟨fun h' => absurd h' (by omega), fun _ => ?_⟩
        rw [(st_uns hL r 0 x e).1 hL, hc]
      · rw [if_neg hc] at e
        cases e
    · rw [if_neg h] at e
      refine ⟨fun _ => ?_, fun h' => absurd h' h⟩
      by_cases hc : c = 49
      · subst hc
        rw [if_pos rfl] at e
        cases hu : uns L (k + 1) r with
        | none => rw [hu] at e; cases e
        | some y =>
          rw [hu] at e
          cases e
          have ih := st_uns hL r (k + 1) y hu
          rw [stF, if_pos rfl]
          by_cases hk : k + 1 = L
          · rw [if_pos hk, ← ih.2 (by omega)]
          · rw [if_neg hk, ih.1 (by omega)]
      · rw [if_neg hc] at e
        cases hu : uns L 0 r with
        | none => rw [hu] at e; cases e
        | some y =>
          rw [hu] at e
          cases e
          rw [stF, if_neg hc, (st_uns hL r 0 y hu).1 hL]
theorem uns_bits : ∀ (b : List Nat), (∀ c ∈ b, c = 48 ∨ c = 49) → ∀ (k : Nat) (x : List Nat), uns L k b = some x → ∀ c ∈ x, c = 48 ∨ c = 49
  | [], _, k, x, e, c, hc => by
    rw [uns_nil] at e
    by_cases h : L ≤ k
    · rw [if_pos h] at e
      cases e
    · rw [if_neg h] at e
      cases e
      cases hc
  | d :: r, hb, k, x, e, c, hc => by
    have hb' : ∀ c ∈ r, c = 48 ∨ c = 49 := fun c hc => hb c (by simp [hc])
    rw [uns_cons] at e
    by_cases h : L ≤ k
    · rw [if_pos h] at e
      by_cases hd : d = 48
      · rw [if_pos hd] at e
        exact uns_bits r hb' 0 x e c hc
      · rw [if_neg hd] at e
        cases e
    · rw [if_neg h] at e
      cases hu : uns L (if d = 49 then k + 1 else 0) r with
      | none => rw [hu] at e; cases e
      | some y =>
        rw [hu] at e
        cases e
        rcases List.mem_cons.mp hc with h1 | h1
        · exact h1 ▸ hb d (by simp)
        · exact uns_bits r hb' _ y hu c h1
theorem stF_bits : ∀ (l : List Nat), (∀ c ∈ l, c = 48 ∨ c = 49) → ∀ k, ∀ c ∈ stF L k l, c = 48 ∨ c = 49
  | [], _, k, c, hc => by rw [stF] at hc; cases hc
  | d :: r, hb, k, c, hc => by
    have hb' : ∀ c ∈ r, c = 48 ∨ c = 49 := fun c hc => hb c (by simp [hc])
    rw [stF] at hc
    by_cases hd : d = 49
    · rw [if_pos hd] at hc
      by_cases hk : k + 1 = L
      · rw [if_pos hk] at hc
        rcases List.mem_cons.mp hc with h | h
        · exact .inr h
        · rcases List.mem_cons.mp h with h | h
          · exact .inl h
          · exact stF_bits r hb' 0 c h
      · rw [if_neg hk] at hc
        rcases List.mem_cons.mp hc with h | h
        · exact .inr h
        · exact stF_bits r hb' _ c h
    · rw [if_neg hd] at hc
      rcases List.mem_cons.mp hc with h | h
      · exact h ▸ hb d (by simp)
      · exact stF_bits r hb' 0 c h
theorem stF_length : ∀ (l : List Nat) (k : Nat), k < L → (stF L k l).length * L ≤ l.length * L + (k + l.length)
  | [], k, _ => by rw [stF]; simp
  | c :: r, k, h => by
    rw [stF]
    have ex : ∀ a b : Nat, (a + b) * L = a * L + b * L := fun a b => Nat.add_mul a b L
    by_cases hc : c = 49
    · rw [if_pos hc]
      by_cases hk : k + 1 = L
      · rw [if_pos hk, List.length_cons, List.length_cons, List.length_cons]
        have := stF_length r 0 (by omega)
        simp only [ex, Nat.one_mul]
        omega
      · rw [if_neg hk, List.length_cons, List.length_cons]
        have := stF_length r (k + 1) (by omega)
        simp only [ex, Nat.one_mul]
        omega
    · rw [if_neg hc, List.length_cons, List.length_cons]
      have := stF_length r 0 (by omega)
      simp only [ex, Nat.one_mul]
      omega
theorem stF_length2 {l : List Nat} (hL : 0 < L) : (stF L 0 l).length ≤ 2 * l.length := by
  have h := stF_length l 0 hL
  have : (stF L 0 l).length * L ≤ (2 * l.length) * L := by
    have : l.length * 1 ≤ l.length * L := Nat.mul_le_mul_left _ hL
    have e : (2 * l.length) * L = l.length * L + l.length * L := by rw [Nat.mul_assoc]; omega
    omega
  exact Nat.le_of_mul_le_mul_right this hL
theorem uns_length : ∀ (b : List Nat) (k : Nat) (x : List Nat), uns L k b = some x → x.length ≤ b.length
  | [], k, x, e => by
    rw [uns_nil] at e
    by_cases h : L ≤ k
    · rw [if_pos h] at e
      cases e
    · rw [if_neg h] at e
      cases e
      exact Nat.le_refl _
  | d :: r, k, x, e => by
    rw [uns_cons] at e
    by_cases h : L ≤ k
    · rw [if_pos h] at e
      by_cases hd : d = 48
      · rw [if_pos hd] at e
        exact Nat.le_trans (uns_length r 0 x e) (Nat.le_succ _)
      · rw [if_neg hd] at e
        cases e
    · rw [if_neg h] at e
      cases hu : uns L (if d = 49 then k + 1 else 0) r with
      | none => rw [hu] at e; cases e
      | some y =>
        rw [hu] at e
        cases e
        exact Nat.succ_le_succ (uns_length r _ y hu)
/-- what unstuff does -/
theorem uns_main (hL : 0 < L) {b : List Nat} (hb : ∀ c ∈ b, c = 48 ∨ c = 49) : (if stF L 0 (usF L 0 b) = b then some (usF L 0 b) else none) = uns L 0 b := by
  cases h : uns L 0 b with
  | none =>
    rw [if_neg]
    intro e
    have := uns_st (L := L) (usF L 0 b) 0 hL
    rw [e, h] at this
    cases this
  | some x =>
    have e := (st_uns hL b 0 x h).1 hL
    have e2 : usF L 0 b = x := by
      rw [← e]
      exact us_st x (uns_bits b hb 0 x h) 0 hL
    rw [e2, if_pos e]
theorem stF_ge : ∀ (l : List Nat) (k : Nat), l.length ≤ (stF L k l).length
  | [], k => Nat.zero_le _
  | c :: r, k => by
    rw [stF]
    by_cases hc : c = 49
    · rw [if_pos hc]
      by_cases hk : k + 1 = L
      · rw [if_pos hk]
        exact Nat.le_trans (Nat.succ_le_succ (stF_ge r 0)) (Nat.succ_le_succ (Nat.le_succ _))
      · rw [if_neg hk]
        exact Nat.succ_le_succ (stF_ge r _)
    · rw [if_neg hc]
      exact Nat.succ_le_succ (stF_ge r _)
theorem stF_ones (hL : 0 < L) : ∀ (m k : Nat), k < L → (stF L k (ones m)).length = m + (k + m) / L
  | 0, k, h => by
    rw [show ones 0 = [] from rfl, stF, Nat.add_zero, Nat.div_eq_of_lt h]
    rfl
  | m + 1, k, h => by
    rw [ones_succ, stF, if_pos rfl]
    by_cases hk : k + 1 = L
    · rw [if_pos hk, List.length_cons, List.length_cons, stF_ones hL m 0 hL, show k + (m + 1) = L + m by omega, Nat.add_div_left _ hL, Nat.zero_add]
      omega
    · rw [if_neg hk, List.length_cons, stF_ones hL m (k + 1) (by omega), show k + 1 + m = k + (m + 1) by omega]
      omega
theorem stF_fits (hL : 0 < L) (l : List Nat) : (stF L 0 l).length ≤ l.length + l.length / L := by
  have h := stF_length l 0 hL
  have hg := stF_ge (L := L) l 0
  have : (stF L 0 l).length - l.length ≤ l.length / L := by
    rw [Nat.le_div_iff_mul_le hL, Nat.sub_mul]
    omega
  omega
/-- the parts between zeros -/
def rl : List Nat → List Nat → List (List Nat)
  | acc, [] => [acc]
  | acc, c :: r => if c = 48 then acc :: rl [] r else rl (acc ++ [c]) r
theorem spl_rl : ∀ (l acc : List Nat), TL.spl [48] 0 acc l = rl acc l
  | [], acc => by rw [TL.spl_nil, rl]
  | c :: r, acc => by
    have e : TL.spl [48] 0 acc (c :: r) = if TL.pre [48] (c :: r) = true then acc :: TL.spl [48] 0 [] r else TL.spl [48] 0 (acc ++ [c]) r := rfl
    rw [e, spl_rl r [], spl_rl r (acc ++ [c]), rl]
    by_cases hc : c = 48
    · rw [if_pos hc, if_pos (by subst hc; rfl)]
    · rw [if_neg hc, if_neg (by unfold TL.pre; simp [hc])]
theorem split_rl (l : List Nat) : Txt.split (S l) (S [48]) = (rl [] l).map S := by
  rw [SX.split_S (by decide) (by decide), spl_rl]
theorem rl_ne : ∀ (l acc : List Nat), rl acc l ≠ []
  | [], acc => by rw [rl]; exact List.cons_ne_nil _ _
  | c :: r, acc => by
    rw [rl]
    by_cases hc : c = 48
    · rw [if_pos hc]; exact List.cons_ne_nil _ _
    · rw [if_neg hc]; exact rl_ne r _
theorem rl_len : ∀ (l acc : List Nat), ∀ x ∈ rl acc l, x.length ≤ acc.length + l.length
  | [], acc, x, h => by
    rw [rl] at h
    rw [List.mem_singleton.mp h]
    exact Nat.le_add_right _ _
  | c :: r, acc, x, h => by
    rw [rl] at h
    by_cases hc : c = 48
    · rw [if_pos hc] at h
      rcases List.mem_cons.mp h with e | h
      · rw [e]; exact Nat.le_add_right _ _
      · have := rl_len r [] x h
        rw [List.length_nil] at this
        rw [List.length_cons]
        omega
    · rw [if_neg hc] at h
      have := rl_len r _ x h
      rw [List.length_append, List.length_singleton] at this
      rw [List.length_cons]
      omega
theorem rl_count : ∀ (l acc : List Nat), (rl acc l).length ≤ l.length + 1
  | [], acc => by rw [rl]; exact Nat.le_refl _
  | c :: r, acc => by
    rw [rl]
    by_cases hc : c = 48
    · rw [if_pos hc]; exact Nat.succ_le_succ (rl_count r [])
    · rw [if_neg hc]; exact Nat.le_trans (rl_count r _) (Nat.le_succ _)
theorem rl_st (hL : 0 < L) : ∀ (l : List Nat), (∀ c ∈ l, c = 48 ∨ c = 49) → ∀ (k : Nat) (acc : List Nat), k < L → acc.length = k → ∀ x ∈ rl acc (stF L k l), x.length ≤ L
  | [], _, k, acc, h, ha, x, hx => by
    rw [stF, rl] at hx
    rw [List.mem_singleton.mp hx]
    omega
  | c :: r, hb, k, acc, h, ha, x, hx => by
    have hb' : ∀ c ∈ r, c = 48 ∨ c = 49 := fun c hc => hb c (by simp [hc])
    rw [stF] at hx
    by_cases hc : c = 49
    · rw [if_pos hc] at hx
      by_cases hk : k + 1 = L
      · rw [if_pos hk, rl, if_neg (by decide), rl, if_pos rfl] at hx
        rcases List.mem_cons.mp hx with e | hx
        · rw [e, List.length_append, List.length_singleton]
          omega
        · exact rl_st hL r hb' 0 [] hL rfl x hx
      · rw [if_neg hk, rl, if_neg (by decide)] at hx
        exact rl_st hL r hb' (k + 1) _ (by omega) (by rw [List.length_append, List.length_singleton]; omega) x hx
    · have h48 : c = 48 := (hb c (by simp)).resolve_right hc
      rw [if_neg hc, rl, if_pos h48] at hx
      rcases List.mem_cons.mp hx with e | hx
      · rw [e]; omega
      · exact rl_st hL r hb' 0 [] hL rfl x hx
end
/-- the greatest -/
def maxI : List Int → Int
  | [] => 0
  | x :: r => max x (maxI r)
theorem maxI_ge : ∀ (ns : List Int), ∀ y ∈ ns, y ≤ maxI ns
  | x :: r, y, h => by
    rcases List.mem_cons.mp h with e | h
    · rw [e, maxI]; omega
    · have := maxI_ge r y h
      rw [maxI]; omega
theorem maxI_nonneg : ∀ (ns : List Int), 0 ≤ maxI ns
  | [] => Int.le_refl _
  | x :: r => by
    have := maxI_nonneg r
    rw [maxI]; omega
theorem maxI_mem : ∀ (ns : List Int), ns ≠ [] → (∀ y ∈ ns, 0 ≤ y) → maxI ns ∈ ns
  | [x], _, h => by
    have := h x (by simp)
    rw [maxI, maxI]
    rw [show max x 0 = x by omega]
    simp
  | x :: y :: r, _, h => by
    have ih := maxI_mem (y :: r) (by simp) (fun z hz => h z (by simp [List.mem_cons.mp hz]))
    rw [maxI]
    rcases Int.le_total x (maxI (y :: r)) with h1 | h1
    · rw [show max x (maxI (y :: r)) = maxI (y :: r) by omega]
      exact List.mem_cons_of_mem _ ih
    · rw [show max x (maxI (y :: r)) = x by omega]
      simp
theorem maxI_le {ns : List Int} {b : Int} (h0 : 0 ≤ b) (h : ∀ y ∈ ns, y ≤ b) : maxI ns ≤ b := by
  induction ns with
  | nil => exact h0
  | cons x r ih =>
    have h1 := h x (by simp)
    have h2 := ih fun y hy => h y (by simp [hy])
    rw [maxI]; omega
section
variable {X : Cx} {ρ : Envi} {pos : Pos}
theorem blt_maxM {α : Type} {items : List α} {h : α → Int} (hc : X.calm = true) (hne : items ≠ []) (h0 : ∀ x ∈ items, 0 ≤ h x) : BltD X "max" [.list (items.map fun x => .int (h x))] (.int (maxI (items.map h))) := by
  have e : (items.map fun x => PyData.int (h x)) = (items.map h).map PyData.int := by simp [List.map_map, Function.comp_def]
  rw [e]
  refine blt_maxL _ hc (maxI_mem _ (fun e => hne (List.map_eq_nil_iff.mp e)) fun y hy => ?_) (maxI_ge _)
  obtain ⟨x, hx, rfl⟩ := List.mem_map.mp hy
  exact h0 x hx
theorem mth_splitZ {l : List Nat} (h : l.length + 2 ≤ sizeLine) : MthD X "split" (S l) [.str (S [48])] (.list ((rl [] l).map fun x => .str (S x))) := by
  have := mth_split (X := X) (y := S [48]) (z := S l) rfl (by rw [S_len]; exact h)
  rw [split_rl, List.map_map] at this
  exact this
end
end DL

namespace DL
open PySem PySem.Spec PyProof.Rows L2
/-! ## zeros and gaps -/
/-- places of zeros, the first sign being at i -/
def zr : Int → List Nat → List Int
  | _, [] => []
  | i, c :: r => if c = 48 then i :: zr (i + 1) r else zr (i + 1) r
theorem zr_append : ∀ (a b : List Nat) (i : Int), zr i (a ++ b) = zr i a ++ zr (i + a.length) b
  | [], b, i => by
    rw [List.nil_append, zr, List.nil_append, List.length_nil, show i + ((0 : Nat) : Int) = i by omega]
  | c :: r, b, i => by
    have ih := zr_append r b (i + 1)
    rw [List.cons_append, zr, ih, zr, List.length_cons, show i + 1 + (r.length : Int) = i + ((r.length + 1 : Nat) : Int) by omega]
    by_cases hc : c = 48
    · rw [if_pos hc, if_pos hc]; rfl
    · rw [if_neg hc, if_neg hc]
theorem zr_ones : ∀ (n : Nat) (i : Int), zr i (ones n) = []
  | 0, i => by rw [show ones 0 = [] from rfl, zr]
  | n + 1, i => by rw [ones_succ, zr, if_neg (by decide), zr_ones n]
theorem zr_zip : ∀ (l : List Nat) (i : Nat), ((l.zipIdx i).filter fun q => decide ([q.1] = [48])).map (fun q : Nat × Nat => ((q.2 : Nat) : Int)) = zr i l
  | [], i => by rw [zr]; rfl
  | c :: r, i => by
    have ih := zr_zip r (i + 1)
    rw [List.zipIdx_cons, zr]
    rw [show (((i + 1 : Nat)) : Int) = (i : Int) + 1 by omega] at ih
    by_cases hc : c = 48
    · rw [List.filter_cons_of_pos (by simp [hc]), List.map_cons, ih, if_pos hc]
    · rw [List.filter_cons_of_neg (by simp [hc]), ih, if_neg hc]
theorem zr_range (l : List Nat) : ((List.range l.length).filter fun k => decide ([l.getD k 0] = [48])).map (fun k : Nat => ((k : Nat) : Int)) = zr 0 l := by
  have ez := zr_zip l 0
  rw [show ((0 : Nat) : Int) = 0 from rfl] at ez
  rw [← ez]
  have e : l.zipIdx 0 = (List.range l.length).map fun k => (l.getD k 0, k) := by
    apply List.ext_getElem?
    intro i
    rw [List.getElem?_map, List.getElem?_zipIdx]
    by_cases h : i < l.length
    · rw [List.getElem?_range h, List.getElem?_eq_getElem h]
      simp [List.getD_eq_getElem?_getD, h]
    · rw [List.getElem?_eq_none (by simpa using h), List.getElem?_eq_none (by simpa using h)]
      rfl
  rw [e, List.filter_map, List.map_map]
  rfl
theorem zr_range_bound : ∀ (l : List Nat) (i : Int), ∀ x ∈ zr i l, i ≤ x ∧ x < i + l.length
  | [], i, x, h => by rw [zr] at h; cases h
  | c :: r, i, x, h => by
    rw [zr] at h
    rw [List.length_cons]
    by_cases hc : c = 48
    · rw [if_pos hc] at h
      rcases List.mem_cons.mp h with e | h
      · omega
      · have := zr_range_bound r _ x h; omega
    · rw [if_neg hc] at h
      have := zr_range_bound r _ x h; omega
theorem zr_length : ∀ (l : List Nat) (i : Int), (zr i l).length ≤ l.length
  | [], i => by rw [zr]; exact Nat.le_refl _
  | c :: r, i => by
    rw [zr]
    by_cases hc : c = 48
    · rw [if_pos hc]; exact Nat.succ_le_succ (zr_length r _)
    · rw [if_neg hc]; exact Nat.le_trans (zr_length r _) (Nat.le_succ _)
/-- distances behind a -/
def gp : Int → List Int → List Int
  | _, [] => []
  | a, b :: r => (b - a) :: gp b r
def dist : List Int → List Int
  | [] => []
  | a :: r => gp a r
theorem gp_length : ∀ (l : List Int) (a : Int), (gp a l).length = l.length
  | [], a => rfl
  | b :: r, a => by rw [gp, List.length_cons, gp_length r, List.length_cons]
theorem gp_zip : ∀ (l : List Int) (a : Int), (((a :: l).zip l).map fun q : Int × Int => q.2 - q.1) = gp a l
  | [], a => rfl
  | b :: r, a => by
    rw [List.zip_cons_cons, List.map_cons, gp_zip r b, gp]
theorem dist_zip (l : List Int) : ((l.zip (l.drop 1)).map fun q : Int × Int => q.2 - q.1) = dist l := by
  cases l with
  | nil => rfl
  | cons a r => exact gp_zip r a
theorem dist_length (l : List Int) : (dist l).length = l.length - 1 := by
  cases l with
  | nil => rfl
  | cons a r => rw [dist, gp_length, List.length_cons]; rfl
theorem gp_get : ∀ (l : List Int) (a : Int) (k : Nat), k < l.length → (gp a l)[k]? = some (l.getD k 0 - (a :: l).getD k 0)
  | [], a, k, h => by cases h
  | b :: r, a, 0, h => rfl
  | b :: r, a, k + 1, h => by
    rw [gp, List.getElem?_cons_succ, gp_get r b k (by rw [List.length_cons] at h; omega)]
    rfl
theorem dist_range (l : List Int) : ((List.range ((l.length : Int) - 1).toNat).map fun k : Nat => l.getD ((k : Int) + 1).toNat 0 - l.getD k 0) = dist l := by
  cases l with
  | nil => rfl
  | cons a r =>
    apply List.ext_getElem?
    intro i
    rw [List.getElem?_map, show (((a :: r).length : Nat) : Int) - 1 = (r.length : Int) by rw [List.length_cons]; omega, show ((r.length : Nat) : Int).toNat = r.length by omega, dist]
    by_cases h : i < r.length
    · rw [List.getElem?_range h, gp_get r a i h]
      show some ((a :: r).getD ((i : Int) + 1).toNat 0 - (a :: r).getD i 0) = _
      rw [show ((i : Int) + 1).toNat = i + 1 by omega]
      rfl
    · rw [List.getElem?_eq_none (by simpa using h), List.getElem?_eq_none (by rw [gp_length]; omega)]
      rfl
theorem gp_append : ∀ (l m : List Int) (a : Int), gp a (l ++ m) = gp a l ++ gp ((a :: l).getLast (List.cons_ne_nil _ _)) m
  | [], m, a => rfl
  | b :: r, m, a => by
    rw [List.cons_append, gp, gp_append r m b, gp, List.cons_append, List.getLast_cons (List.cons_ne_nil _ _)]
theorem gp_sum : ∀ (l : List Int) (a : Int), (gp a l).sum = (a :: l).getLast (List.cons_ne_nil _ _) - a
  | [], a => by simp [gp]
  | b :: r, a => by
    rw [gp, List.sum_cons, gp_sum r b, List.getLast_cons (List.cons_ne_nil _ _)]
    omega
section
variable {L : Nat}
def flg (n : Nat) : List Nat := 48 :: (ones (n + 1) ++ [48])
def frm (n : Nat) (l : List Nat) : List Nat := flg n ++ stF n 0 l ++ flg n
theorem flg_length (n : Nat) : (flg n).length = n + 3 := by
  unfold flg
  rw [List.length_cons, List.length_append, ones_length]
  rfl
theorem frm_length (n : Nat) (l : List Nat) : (frm n l).length = 2 * n + 6 + (stF n 0 l).length := by
  unfold frm
  rw [List.length_append, List.length_append, flg_length]
  omega
theorem zr_flg (n : Nat) (i : Int) : zr i (flg n) = [i, i + n + 2] := by
  unfold flg
  rw [zr, if_pos rfl, zr_append, zr_ones, ones_length, List.nil_append, zr, if_pos rfl, zr]
  rw [show i + 1 + ((n + 1 : Nat) : Int) = i + n + 2 by omega]
theorem zr_frm (n : Nat) (l : List Nat) : zr 0 (frm n l) = 0 :: (n + 2 : Int) :: (zr (n + 3) (stF n 0 l) ++ [(n + 3 + (stF n 0 l).length : Int), (n + 3 + (stF n 0 l).length + n + 2 : Int)]) := by
  unfold frm
  rw [zr_append, zr_append, zr_flg, zr_flg, flg_length, List.length_append, flg_length]
  rw [show (0 : Int) + ((n + 3 : Nat) : Int) = (n : Int) + 3 by omega, show (0 : Int) + ((n + 3 + (stF n 0 l).length : Nat) : Int) = (n : Int) + 3 + (stF n 0 l).length by omega, show (0 : Int) + (n : Int) + 2 = (n : Int) + 2 by omega]
  rfl
/-- the gaps between the flags -/
def mid (n : Nat) (l : List Nat) : List Int := gp (n + 2) (zr (n + 3) (stF n 0 l) ++ [(n + 3 + (stF n 0 l).length : Int)])
theorem gaps_frm (n : Nat) (l : List Nat) : dist (zr 0 (frm n l)) = (n + 2 : Int) :: (mid n l ++ [(n + 2 : Int)]) := by
  rw [zr_frm, dist, gp, show (n + 2 : Int) - 0 = n + 2 by omega]
  unfold mid
  rw [show ∀ (a b : Int) (x : List Int), x ++ [a, b] = (x ++ [a]) ++ [b] from fun a b x => by simp, gp_append _ [_]]
  congr 2
  rw [gp, gp, List.getLast_cons (by simp), List.getLast_append_of_ne_nil _ (by simp)]
  simp only [List.getLast_singleton]
  congr 1
  omega
theorem mid_ok_aux (hL : 0 < L) : ∀ (l : List Nat), (∀ c ∈ l, c = 48 ∨ c = 49) → ∀ (k : Nat) (p : Int), k < L → ∀ g ∈ gp p (zr (p + 1 + k) (stF L k l) ++ [(p + 1 + k + (stF L k l).length : Int)]), 1 ≤ g ∧ g ≤ L + 1
  | [], _, k, p, h, g, hg => by
    rw [stF, zr, List.nil_append, gp, gp] at hg
    have := List.mem_singleton.mp hg
    simp at this
    omega
  | c :: r, hb, k, p, h, g, hg => by
    have hb' : ∀ c ∈ r, c = 48 ∨ c = 49 := fun c hc => hb c (by simp [hc])
    rcases hb c (by simp) with hc | hc
    · subst hc
      rw [stF, if_neg (by decide), zr, if_pos rfl, List.cons_append, gp, List.length_cons] at hg
      rcases List.mem_cons.mp hg with e | hg
      · omega
      · have ih := mid_ok_aux hL r hb' 0 (p + 1 + k) hL g
        rw [show p + 1 + (k : Int) + 1 + ((0 : Nat) : Int) = p + 1 + k + 1 by omega] at ih
        rw [show p + 1 + (k : Int) + (((stF L 0 r).length + 1 : Nat) : Int) = p + 1 + k + 1 + (stF L 0 r).length by omega] at hg
        exact ih hg
    · subst hc
      rw [stF, if_pos rfl] at hg
      by_cases hk : k + 1 = L
      · rw [if_pos hk, zr, if_neg (by decide), zr, if_pos rfl, List.cons_append, gp, List.length_cons, List.length_cons] at hg
        rcases List.mem_cons.mp hg with e | hg
        · omega
        · have ih := mid_ok_aux hL r hb' 0 (p + 1 + k + 1) hL g
          rw [show p + 1 + (k : Int) + 1 + 1 + ((0 : Nat) : Int) = p + 1 + k + 1 + 1 by omega] at ih
          rw [show p + 1 + (k : Int) + (((stF L 0 r).length + 1 + 1 : Nat) : Int) = p + 1 + k + 1 + 1 + (stF L 0 r).length by omega] at hg
          exact ih hg
      · rw [if_neg hk, zr, if_neg (by decide), List.length_cons] at hg
        have ih := mid_ok_aux hL r hb' (k + 1) p (by omega) g
        rw [show p + 1 + ((k + 1 : Nat) : Int) = p + 1 + k + 1 by omega] at ih
        rw [show p + 1 + (k : Int) + (((stF L (k + 1) r).length + 1 : Nat) : Int) = p + 1 + k + 1 + (stF L (k + 1) r).length by omega] at hg
        exact ih hg
theorem mid_ok (hL : 0 < L) {l : List Nat} (hb : ∀ c ∈ l, c = 48 ∨ c = 49) : ∀ g ∈ mid L l, 1 ≤ g ∧ g ≤ L + 1 := by
  have h := mid_ok_aux hL l hb 0 (L + 2) hL
  unfold mid
  rw [show (L : Int) + 2 + 1 + ((0 : Nat) : Int) = L + 3 by omega] at h
  exact h
theorem mid_ne (l : List Nat) : mid L l ≠ [] := fun e => by
  have := congrArg List.length e
  unfold mid at this
  rw [gp_length, List.length_append] at this
  simp at this
theorem gaps_sum (n : Nat) (l : List Nat) : (dist (zr 0 (frm n l))).sum = (frm n l).length - 1 := by
  rw [zr_frm, dist, gp_sum, List.getLast_cons (by simp), List.getLast_cons (by simp), List.getLast_append_of_ne_nil _ (by simp), frm_length]
  simp only [List.getLast_cons_cons, List.getLast_singleton]
  omega
end
/-- slices of lists that are told -/
def cutG {α : Type} (xs : List α) (lo hi : Option Int) : List α := (xs.drop (HT.sIx xs.length 0 lo)).take (HT.sIx xs.length xs.length hi - HT.sIx xs.length 0 lo)
theorem cutD_map {α : Type} (xs : List α) (g : α → D) (lo hi : Option Int) : cutD (xs.map g) lo hi = (cutG xs lo hi).map g := by
  unfold cutD cutG
  rw [List.length_map, List.map_take, List.map_drop]
theorem cutG_from {α : Type} {l : List α} {a : Int} (ha : 0 ≤ a) : cutG l (some a) none = l.drop a.toNat := by
  unfold cutG
  rw [sIx_z _ _ ha]
  show (l.drop (min a.toNat l.length)).take (l.length - min a.toNat l.length) = _
  rcases Nat.le_total a.toNat l.length with h1 | h1
  · rw [Nat.min_eq_left h1, List.take_of_length_le (by rw [List.length_drop]; omega)]
  · rw [Nat.min_eq_right h1, List.drop_length, List.drop_eq_nil_of_le h1]
    simp
theorem cutG_mid {α : Type} (a b : α) (x : List α) : cutG (a :: (x ++ [b])) (some 1) (some (-1)) = x := by
  unfold cutG
  rw [sIx_z _ _ (v := 1) (by decide), sIx_neg _ _ (v := -1) (by decide)]
  rw [List.length_cons, List.length_append, List.length_singleton, show min (Int.toNat 1) (x.length + 1 + 1) = 1 by show min 1 _ = 1; omega, show (-1 + ((x.length + 1 + 1 : Nat) : Int)).toNat = x.length + 1 by omega, List.drop_succ_cons, List.drop_zero, show x.length + 1 - 1 = x.length by omega, List.take_left]
theorem ex_max : ∀ (ns : List Int), ns ≠ [] → ∃ m ∈ ns, ∀ y ∈ ns, y ≤ m
  | [x], _ => ⟨x, by simp, fun y hy => by simp at hy; omega⟩
  | x :: y :: r, _ => by
    obtain ⟨m, h1, h2⟩ := ex_max (y :: r) (by simp)
    rcases Int.le_total x m with h | h
    · exact ⟨m, List.mem_cons_of_mem _ h1, fun z hz => (List.mem_cons.mp hz).elim (fun e => by omega) (h2 z)⟩
    · exact ⟨x, by simp, fun z hz => (List.mem_cons.mp hz).elim (fun e => by omega) fun hz => by have := h2 z hz; omega⟩
theorem ex_min : ∀ (ns : List Int), ns ≠ [] → ∃ m ∈ ns, ∀ y ∈ ns, m ≤ y
  | [x], _ => ⟨x, by simp, fun y hy => by simp at hy; omega⟩
  | x :: y :: r, _ => by
    obtain ⟨m, h1, h2⟩ := ex_min (y :: r) (by simp)
    rcases Int.le_total m x with h | h
    · exact ⟨m, List.mem_cons_of_mem _ h1, fun z hz => (List.mem_cons.mp hz).elim (fun e => by omega) (h2 z)⟩
    · exact ⟨x, by simp, fun z hz => (List.mem_cons.mp hz).elim (fun e => by omega) fun hz => by have := h2 z hz; omega⟩
theorem atI_last {α : Type} (x : List α) (b : α) : L2.atI (x ++ [b]) (-1) = some b := by
  unfold L2.atI L2.ixN
  rw [if_neg (by decide), List.length_append, List.length_singleton, if_pos (by omega), show (-1 + ((x.length + 1 : Nat) : Int)).toNat = x.length by omega]
  show (x ++ [b])[x.length]? = some b
  rw [List.getElem?_append_right (Nat.le_refl _), Nat.sub_self]
  rfl
section
variable {X : Cx} {ρ : Envi} {pos : Pos}
theorem iter_zipI {e e2 : Expr} {ns ms : List Int} {p tpos : Pos} {elts : List Expr} {kk : Nat} (he : Ev X ρ e (.list (ns.map .int))) (he2 : Ev X ρ e2 (.list (ms.map .int))) (hg : Gl X "zip") (hm : X.mg "zip" = none) (hs : starEach [e, e2] X.env = (false, eval e X.env) :: starEach [e2] X.env)
    (hs2 : starEach [e2] X.env = (false, eval e2 X.env) :: starEach [] X.env) (hp : ((backTo pos (starEach [e2] X.env)).any (·.1)) = false) :
    Iter X ρ (.Tuple elts kk tpos) (.Call (.Name "zip" p) [e, e2] [] pos) ((ns.zip ms).map fun (q : Int × Int) => PyData.tuple [.int q.1, .int q.2]) := by
  have h := iter_zipL (p := p) (tpos := tpos) (elts := elts) (kk := kk) he he2 hg hm hs hs2 hp
  have e : ((ns.map PyData.int).zip (ms.map PyData.int)).map (fun (q : D × D) => PyData.tuple [q.1, q.2]) = (ns.zip ms).map fun (q : Int × Int) => PyData.tuple [.int q.1, .int q.2] := by
    rw [List.zip_map, List.map_map]
    rfl
  rw [e] at h
  exact h
theorem ev_cutE {α : Type} {xs : List α} {g : α → D} {e : Expr} {lo hi : Option Int} (h : Ev X ρ e (.list (cutD (xs.map g) lo hi))) : Ev X ρ e (.list ((cutG xs lo hi).map g)) := by
  rw [← cutD_map]
  exact h
theorem evl_cutE {α : Type} {xs : List α} {g : α → D} {e : Expr} {lo hi : Option Int} (h : EvL X ρ e (cutD (xs.map g) lo hi)) : EvL X ρ e ((cutG xs lo hi).map g) := by
  rw [← cutD_map]
  exact h
theorem blt_maxE {ns : List Int} {lo hi : Option Int} (m : Int) (hc : X.calm = true) (h0 : m ∈ cutG ns lo hi) (hm : ∀ y, y ∈ cutG ns lo hi → y ≤ m) : BltD X "max" [.list (cutD (ns.map .int) lo hi)] (.int m) := by
  rw [cutD_map]
  exact blt_maxL m hc h0 hm
end
end DL

namespace DL
open PySem PySem.Spec PyProof.Rows L2
/-! ## polls that detect -/
def oddAt (ns : List Int) (k : Nat) : Bool := decide (ns.count (k : Int) % 2 = 1)
def dF (ns : List Int) (N : Nat) : List Int := ((List.range N).filter (oddAt ns)).map fun (k : Nat) => (k : Int)
theorem dF_succ (ns : List Int) (N : Nat) : dF ns (N + 1) = dF ns N ++ (if oddAt ns N = true then [(N : Int)] else []) := by
  unfold dF
  rw [List.range_succ, List.filter_append, List.map_append]
  congr 1
  cases h : oddAt ns N with
  | true => rw [List.filter_cons_of_pos h]; rfl
  | false => rw [List.filter_cons_of_neg (by rw [h]; decide)]; rfl
theorem dF_ext {ns : List Int} {a : Nat} (h : ∀ y ∈ ns, y < (a : Int)) : ∀ b, a ≤ b → dF ns b = dF ns a := by
  intro b hb
  obtain ⟨d, rfl⟩ := Nat.exists_eq_add_of_le hb
  induction d with
  | zero => rfl
  | succ d ih =>
    rw [← Nat.add_assoc, dF_succ, ih (by omega)]
    have : oddAt ns (a + d) = false := by
      unfold oddAt
      rw [List.count_eq_zero.mpr fun hm => by
        have := h _ hm
        omega]
      rfl
    rw [this]
    simp
theorem dF_same {ns ms : List Int} {N : Nat} (h : ∀ k < N, oddAt ns k = oddAt ms k) : dF ns N = dF ms N := by
  unfold dF
  rw [List.filter_congr fun k hk => h k (List.mem_range.mp hk)]
theorem dF_lt {ns : List Int} {N : Nat} : ∀ y ∈ dF ns N, y < (N : Int) := fun y hy => by
  obtain ⟨k, hk, rfl⟩ := List.mem_map.mp hy
  have := List.mem_range.mp (List.mem_filter.mp hk).1
  omega
theorem odd_snoc (ns : List Int) (x k : Nat) : oddAt (ns ++ [(x : Int)]) k = if k = x then !oddAt ns k else oddAt ns k := by
  unfold oddAt
  rw [List.count_append]
  by_cases h : k = x
  · subst h
    rw [if_pos rfl, List.count_singleton_self]
    by_cases h2 : ns.count (k : Int) % 2 = 1
    · rw [decide_eq_true h2, decide_eq_false (by omega)]; rfl
    · rw [decide_eq_false h2, decide_eq_true (by omega)]; rfl
  · rw [if_neg h, List.count_singleton, if_neg (by simp; omega), Nat.add_zero]
/-- the deed of one edge on what was detected -/
def tgl (st : List Int) (x : Int) : List Int := if st.getLast? = some x then st.dropLast else st ++ [x]
theorem tgl_dF {ns : List Int} {x : Nat} (h : ∀ y ∈ ns, y ≤ (x : Int)) {N : Nat} (hN : x < N) : tgl (dF ns N) x = dF (ns ++ [(x : Int)]) N := by
  rw [dF_ext (a := x + 1) (fun y hy => by have := h y hy; omega) N hN, dF_ext (ns := ns ++ [(x : Int)]) (a := x + 1) (fun y hy => by
    rcases List.mem_append.mp hy with hy | hy
    · have := h y hy; omega
    · have := List.mem_singleton.mp hy; omega) N hN, dF_succ, dF_succ, dF_same (ns := ns ++ [(x : Int)]) (ms := ns) (N := x) fun k hk => by rw [odd_snoc, if_neg (by omega)]]
  rw [odd_snoc, if_pos rfl]
  unfold tgl
  cases hb : oddAt ns x with
  | true =>
    rw [if_pos rfl, if_pos (by simp), if_neg (by decide)]
    simp
  | false =>
    have e1 : (if (false = true) then [(x : Int)] else []) = [] := if_neg (by decide)
    have e2 : (if ((!false) = true) then [(x : Int)] else []) = [(x : Int)] := if_pos rfl
    rw [e1, e2, List.append_nil, if_neg]
    intro e
    have := dF_lt (ns := ns) (N := x) x (List.mem_of_getLast? e)
    omega
/-- the number of the first poll not before t -/
def pnum (ph poll t : Int) : Int := if -((ph - t) / poll) > 0 then -((ph - t) / poll) else 0
theorem pnum_nonneg (ph poll t : Int) : 0 ≤ pnum ph poll t := by
  unfold pnum
  split <;> omega
theorem pnum_le {ph poll t k : Int} (hp : 0 < poll) (hk : 0 ≤ k) : pnum ph poll t ≤ k ↔ t ≤ ph + k * poll := by
  have h : -((ph - t) / poll) ≤ k ↔ t ≤ ph + k * poll := by
    have h1 : -k ≤ (ph - t) / poll ↔ -k * poll ≤ ph - t := Int.le_ediv_iff_mul_le hp
    have e : -k * poll = -(k * poll) := Int.neg_mul _ _
    rw [e] at h1
    constructor
    · intro h; have := h1.mp (by omega); omega
    · intro h; have := h1.mpr (by omega); omega
  unfold pnum
  split
  · exact h
  · constructor
    · intro _; exact h.mp (by omega)
    · intro _; exact hk
theorem pnum_mono {ph poll t u : Int} (hp : 0 < poll) (h : t ≤ u) : pnum ph poll t ≤ pnum ph poll u := by
  have h0 := pnum_nonneg ph poll u
  rw [pnum_le hp h0]
  have := (pnum_le (ph := ph) (t := u) hp h0).mp (Int.le_refl _)
  omega
/-- how many are at most k -/
def cle (ns : List Int) (k : Int) : Nat := (ns.filter fun y => decide (y ≤ k)).length
theorem cle_count (ns : List Int) (k : Int) : cle ns k = cle ns (k - 1) + ns.count k := by
  unfold cle
  induction ns with
  | nil => rfl
  | cons y r ih =>
    rw [List.count_cons]
    by_cases h1 : y ≤ k - 1
    · rw [List.filter_cons_of_pos (by simp; omega), List.filter_cons_of_pos (by simp; omega), List.length_cons, List.length_cons, ih, if_neg (by simp; omega)]
      omega
    · by_cases h2 : y = k
      · rw [List.filter_cons_of_pos (by simp; omega), List.filter_cons_of_neg (by simp; omega), List.length_cons, ih, if_pos (by simp [h2])]
        omega
      · rw [List.filter_cons_of_neg (by simp; omega), List.filter_cons_of_neg (by simp; omega), ih, if_neg (by simp [h2])]
        omega
theorem cle_none {ns : List Int} (h : ∀ y ∈ ns, 0 ≤ y) : cle ns (-1) = 0 := by
  unfold cle
  rw [List.filter_eq_nil_iff.mpr fun y hy => by have := h y hy; simp; omega]
  rfl
theorem cle_edges {ts : List Int} {ph poll k : Int} (hp : 0 < poll) (hk : 0 ≤ k) : (ts.filter fun e => decide (e ≤ ph + k * poll)).length = cle (ts.map (pnum ph poll)) k := by
  unfold cle
  induction ts with
  | nil => rfl
  | cons t r ih =>
    rw [List.map_cons]
    by_cases h : t ≤ ph + k * poll
    · rw [List.filter_cons_of_pos (by simpa using h), List.filter_cons_of_pos (by simpa using (pnum_le hp hk).mpr h), List.length_cons, List.length_cons, ih]
    · rw [List.filter_cons_of_neg (by simpa using h), List.filter_cons_of_neg (by
        intro h2
        exact h ((pnum_le hp hk).mp (by simpa using h2))), ih]
def pick3 {α : Type} (a b c : α) (j : Int) : α := if j = 0 then a else if j = 1 then b else c
theorem at_pick3 {α : Type} {a b c : α} {j : Int} (h0 : 0 ≤ j) (h1 : j < 3) : L2.atI [a, b, c] j = some (pick3 a b c j) := by
  have : j = 0 ∨ j = 1 ∨ j = 2 := by omega
  rcases this with h | h | h <;> subst h <;> rfl
theorem at_pick3I {a b c : Int} {j : Int} (h0 : 0 ≤ j) (h1 : j < 3) : L2.atI [PyData.int a, .int b, .int c] j = some (.int (pick3 a b c j)) := by
  have : j = 0 ∨ j = 1 ∨ j = 2 := by omega
  rcases this with h | h | h <;> subst h <;> rfl
theorem atI_lastD {α : Type} (x : List α) (b : α) : L2.atI (x ++ [b]) (-1) = some b := by
  unfold L2.atI L2.ixN
  rw [if_neg (by decide), List.length_append, List.length_singleton, if_pos (by omega), show (-1 + ((x.length + 1 : Nat) : Int)).toNat = x.length by omega]
  show (x ++ [b])[x.length]? = some b
  rw [List.getElem?_append_right (Nat.le_refl _), Nat.sub_self]
  rfl
theorem dF_len (ns : List Int) (N : Nat) : (dF ns N).length ≤ N := by
  unfold dF
  rw [List.length_map]
  exact Nat.le_trans (List.length_filter_le _ _) (by rw [List.length_range]; exact Nat.le_refl _)
theorem pnum_bound {ph poll t tm : Int} (hp : 0 < poll) (hph : 0 ≤ ph) (ht : t ≤ tm) (htm : 0 ≤ tm) : pnum ph poll t < ((tm / poll + 2).toNat : Nat) := by
  have h0 : 0 ≤ tm / poll := Int.ediv_nonneg htm (by omega)
  have h1 := Int.mul_ediv_add_emod tm poll
  have h2 := Int.emod_lt_of_pos tm hp
  have h3 : pnum ph poll t ≤ tm / poll + 1 := by
    rw [pnum_le hp (by omega), Int.add_mul, Int.one_mul, Int.mul_comm]
    omega
  omega
end DL

namespace DL
open PySem PySem.Spec PyProof.Rows L2
/-! ## lists that are read, added -/
def rCatL (K : PySem.W.Frag) : R2 := fun x y H Q => ∃ l b xs zs, x = .ref l ∧ y = .ref b ∧ SqL K H l xs ∧ SqL K H b zs ∧ xs.length + zs.length ≤ sizeLine ∧ ∀ p, H p = none → Q (.ref p) (upd H p (.lst (xs ++ zs)))
theorem op_catL {X : Cx} : OpR X (binaryOp .Add) (rCatL X.K) := by
  intro pins s σ H x y v u Q I rx ry h
  obtain ⟨l, b, xs, zs, rfl, rfl, hH, hB, hz, q⟩ := h
  cases rx
  cases ry
  obtain ⟨its, r, ht, hz1⟩ := I.list hH
  obtain ⟨its2, r2, ht2, hz2⟩ := I.list hB
  have hl := r.length
  have hl2 := r2.length
  obtain ⟨⟨cls, dd, data, sl⟩, ho, hc, n, hd⟩ := id ht.isList
  obtain ⟨⟨cls2, dd2, data2, sl2⟩, ho2, hc2, n2, hd2⟩ := id ht2.isList
  simp only at hc hd hc2 hd2
  subst hc hd hc2 hd2
  have e : its.toArray ++ its2.toArray = (its ++ its2).toArray := by simp
  refine concat_meets ⟨_, ho, rfl⟩ ⟨_, ho2, rfl⟩ noFill_list_add seq_list_add PySem.F.slot_list_add PySem.F.entry_list_add (PySem.F.args_list_add_2 _ _) (list_addW l b its.toArray its2.toArray n n2 dd dd2 sl sl2 (by simp; omega)) ⟨ho, ho2, ?_⟩
  rw [e]
  exact ⟨.ref _, _, I.lnew (t' := s.toks) (r.append r2) (by rw [List.length_append]; omega), rfl, q _ I.fresh⟩
section
variable {X : Cx} {ρ : Envi} {pos : Pos}
def EvY (X : Cx) (ρ : Envi) (e : Expr) (ds : List D) : Prop := ∀ σ G H Q, EnvR X.K G H σ ρ → (∀ a vs G' H', Frm G H G' H' → SqL X.K H' a vs → DpAll X.K G' vs ds → Q (.ref a) H') → wE X e σ H Q
theorem evy_ofX {e : Expr} {ds : List D} (h : EvX X ρ e ds) : EvY X ρ e ds := fun σ G H Q E k => h σ G H Q E fun a vs G' H' f h1 h4 => k a vs G' H' f (SqL.of h1) h4
theorem evy_of {e : Expr} {ds : List D} (h : Ev X ρ e (.list ds)) : EvY X ρ e ds := fun σ G H Q E k => h σ G H Q E fun v G' H' f hv => by
  cases hv with
  | lst hs ha => exact k _ _ G' H' f (f.s.seq hs) ha
theorem evl_catY {a b : Expr} {ds es : List D} (ha : EvY X ρ a ds) (hb : EvY X ρ b es) (hz : ds.length + es.length ≤ sizeLine) : EvL X ρ (.BinOp a .Add b pos) (ds ++ es) := fun σ G H Q E k =>
  wE_of (pe_op op_catL pe_w pe_w) (ha σ G H _ E fun l vs G1 H1 f1 q1 q2 => hb σ G1 H1 _ (E.frm f1) fun l2 vs2 G2 H2 f2 q3 q4 => by
    refine ⟨l, l2, vs, vs2, rfl, rfl, ?_, q3, by rw [DpAll.length q2, DpAll.length q4]; exact hz, fun p hp => ?_⟩
    · exact f2.h.seq q1
    · have f := f1.trans f2
      exact k p _ G2 _ (f.trans (Frm.priv f.s hp)) upd_same (f.s.free hp) (f.h.free hp) (DpAll.append (DpAll.same f2.g q2) q4))
end
end DL

namespace DL
open PySem PySem.Spec PyProof.Rows L2
/-! ## 40. xs += ys on one's own list -/
theorem inplace_list {prog : Program} {w : World} {A : Around} {E : Value → Shared → Prop} {s : Shared} {a b : Value} {Q : Value → Shared → Prop} (ha : s.TypeIs a "list") (hb : s.TypeIs b "list")
    (hc : wpAny (model prog w) A (call (.builtin "list.__iadd__") [a, b]) Q E s) : wpAny (model prog w) A (inplaceOp .Add a b) Q E s := by
  unfold inplaceOp
  refine wpAny_holding ?_
  have hl := PySem.F.slot_list_iadd.lookup
  have hq : isSeqSlot (some (.builtin "list.__iadd__")) = true := by decide +kernel
  have hfi : fillsInplaceSlot (.type "list") "add" (Operator.Add == .Add) = pure false := by
    unfold fillsInplaceSlot
    show (typeLookup (.type "list") (dunderI "add") >>= fun fi => pure (fi.isSome && !isSeqSlot fi)) = pure false
    rw [hl, pure_bind, hq]
    rfl
  have hsi : seqSlot? (.type "list") (dunderI "add") = pure (some (.builtin "list.__iadd__")) := PySem.seqSlot_of hl hq
  refine wpAny_bind (wpAny_typeOf ha (wpAny_bind (wpAny_of_eq hfi ?_)))
  show wpAny _ A (if false = true then _ else _) Q E s
  rw [if_neg Bool.false_ne_true]
  refine wpAny_bind (wpAny_binaryOp1_none (nm := "add") ha hb PySem.noFill_list_add ?_)
  refine wpAny_bind (wpAny_of_eq hsi ?_)
  exact wpAny_bind (wpAny_rule hc)
theorem list_iaddW (l : Addr) (items : Array Value) (n : Nat) (b : Addr) (items2 : Array Value) (n2 : Nat) (dd2 : Option Addr) (sl2 : Array (Option Value)) (hs0 : ¬(!items.isEmpty && Builtin.List.listTooLong (items.size + items2.size)) = true) (hs1 : items.size ≤ sizeLine) (hs2 : items.size + items2.size ≤ sizeLine + 1) :
    Meets (Builtin.«list.__iadd__» ⟨[.ref l, .ref b], []⟩) (fun _ R s => s.heap.get? l = some { cls := .type "list", dict := none, data := .seq items n, slots := #[] } ∧ s.heap.get? b = some { cls := .type "list", dict := dd2, data := .seq items2 n2, slots := sl2 } ∧ R (.ok (.ret (Value.ref l))) { s with heap := s.heap.update l (Obj.mapSeq fun x => x ++ items2), toks := s.toks }) :=
  .of_wp fun prog w A R s h => by
    obtain ⟨hp, g, d, tk, os⟩ := s; obtain ⟨hl, hb, h⟩ := h; have f1 := AutoSeq1.idx_int; have f2 := AutoSeq1.sub_tuple_tuple; have f3 := AutoSeq1.sub_list_list; have f4 := AutoSeq1.sub_tuple_list; have f5 := AutoSeq1.sub_list_tuple
    have hz' : (items ++ items2).size ≤ sizeLine + 1 := by rw [Array.size_append]; exact hs2
    wp_walk using (wpAny_updateSeq hl rfl (hz := hs1) (_hz' := hz')), AutoSeq1.wpAny_loadPart' hl, AutoSeq1.wpAny_loadPart' hb; exact ⟨_, rfl, h⟩
def rIaddL (K : PySem.W.Frag) : L2.R2 := fun x y H Q => ∃ l b xs zs, x = .ref l ∧ y = .ref b ∧ H l = some (.lst xs) ∧ SqL K H b zs ∧ xs.length + zs.length ≤ sizeLine ∧ Q (.ref l) (upd H l (.lst (xs ++ zs)))
theorem iop_addLL {X : Cx} : OpR X (inplaceOp .Add) (rIaddL X.K) := by
  intro pins s σ H x y v u Q I rx ry h
  obtain ⟨l, b, xs, zs, rfl, rfl, hH, hB, hz, q⟩ := h
  cases rx
  cases ry
  obtain ⟨z, its, n, r, hl, e⟩ := I.lstM hH
  obtain ⟨its2, r2, ht2, hz2⟩ := I.list hB
  obtain ⟨⟨cls2, dd2, data2, sl2⟩, ho2, hc2, n2, hd2⟩ := id ht2.isList
  simp only at hc2 hd2
  subst hc2 hd2
  have hl2 := r2.length
  have hl1 := r.length
  have hsz : its.toArray.size + its2.toArray.size ≤ sizeLine := by rw [List.size_toArray, List.size_toArray]; omega
  have hlong : ¬ (!its.toArray.isEmpty && Builtin.List.listTooLong (its.toArray.size + its2.toArray.size)) = true := by
    rw [notLongL hsz, Bool.and_false]
    exact Bool.false_ne_true
  refine inplace_list ⟨_, e, rfl⟩ ⟨_, ho2, rfl⟩ (call_meets PySem.F.slot_list_iadd ⟨_, e, rfl⟩ PySem.F.entry_list_iadd (PySem.F.args_list_iadd_2 _ _)
    (list_iaddW l its.toArray n b its2.toArray n2 dd2 sl2 hlong (by rw [List.size_toArray]; omega) (by omega)) ⟨e, ho2, ?_⟩)
  refine ⟨.ref l, _, I.lset (its' := its ++ its2) hH e (by simp) (r.append r2) ?_, rfl, q⟩
  rw [List.length_append]
  omega
section
variable {X : Cx} {ρ ρ' : Envi} {pos : Pos} {s : Stmt} {ss : List Stmt} {st : List (List Stmt)} {O : Out → Prop}
theorem bk_augL {i : Nat} {x : Str} {e : Expr} {pos' : Pos} {ds es : List D} (h0 : ρ[i]? = some (.own ds)) (he : Ev X ρ e (.list es)) (hz : ds.length + es.length ≤ sizeLine) (hN : X.N.Nodup) (hi : X.N[i]? = some x) (hx : Loc X.env.scope x)
    (hf : X.fn x = true ∨ X.env.scope.names.lookup x = some .local) (h : Bks X (ρ.set i (.own (ds ++ es))) (ss :: st) O) : Bks X ρ ((.AugAssign (.Name x pos') .Add e pos :: ss) :: st) O :=
  bk_step (fun G0 H0 G H σ D S k => by
    obtain ⟨a, vs, q1, q2, q3, q4⟩ := S.env.own i ds h0
    refine wS_of (ps_aug (ti := rIaddL X.K) hN hi hx pe_w iop_addLL hf) ⟨.ref a, q1, he σ G H _ S.env fun v G1 H1 f1 hv => ?_⟩
    cases hv with
    | lst hq ha =>
      have g1 : G1 a = none := (f1.n a _ q2).trans q3
      refine ⟨a, _, vs, _, rfl, rfl, f1.h _ _ q2, f1.s.seq hq, by rw [DpAll.length q4, DpAll.length ha]; exact hz, ?_⟩
      have hs : σ.set i (some (.ref a)) = σ := List.ext_getElem? fun j => by
        by_cases z : i = j
        · subst z
          obtain ⟨hl, _⟩ := List.getElem?_eq_some_iff.mp q1
          rw [List.getElem?_set_self hl, q1]
        · rw [List.getElem?_set_ne z]
      show D.nx (σ.set i (some (.ref a))) _
      rw [hs]
      exact k G1 _ σ ((S.go f1).upd h0 q1 g1 (DpAll.append (DpAll.same f1.g q4) ha))) h
/-! ## 41. max of three; list(range(a, b)) -/
theorem call_max3 (hc : X.calm = true) : CallR X (.builtin "max") (fun xs H Q => ∃ i j k, xs = [.int i, .int j, .int k] ∧ Q (.int (if j > i then (if k > j then k else j) else (if k > i then k else i))) H) := by
  intro pins s σ H xs us Q I r h
  obtain ⟨i, j, k, rfl, q⟩ := h
  obtain ⟨u, v, w', rfl, ⟨t, rfl⟩, ⟨t', rfl⟩, ⟨t2, rfl⟩⟩ : ∃ u v w', us = [u, v, w'] ∧ RelV (.int i) u ∧ RelV (.int j) v ∧ RelV (.int k) w' := by
    cases r with
    | cons r1 r => cases r with
      | cons r2 r => cases r with
        | cons r3 r => cases r; exact ⟨_, _, _, rfl, r1, r2, r3⟩
  refine PySem.max_three_ints (I.ok.hd hc) fun h' tk kk => ⟨_, H, I.kept kk, ?_, q⟩
  by_cases hj : j > i
  · rw [if_pos hj, if_pos hj]
    by_cases hk : k > j
    · rw [if_pos hk, if_pos hk]; exact ⟨_, rfl⟩
    · rw [if_neg hk, if_neg hk]; exact ⟨_, rfl⟩
  · rw [if_neg hj, if_neg hj]
    by_cases hk : k > i
    · rw [if_pos hk, if_pos hk]; exact ⟨_, rfl⟩
    · rw [if_neg hk, if_neg hk]; exact ⟨_, rfl⟩
theorem blt_max3 {i j k : Int} (hc : X.calm = true) : BltD X "max" [.int i, .int j, .int k] (.int (if j > i then (if k > j then k else j) else (if k > i then k else i))) := ⟨_, .inl ⟨_, by decide +kernel, call_max3 hc⟩, fun vs G H Q s hv kk => by
  obtain ⟨u, v, w, rfl, hx, hy, hz⟩ : ∃ u v w, vs = [u, v, w] ∧ Dp X.K G u (.int i) ∧ Dp X.K G v (.int j) ∧ Dp X.K G w (.int k) := by
    cases hv with
    | cons h1 hv => cases hv with
      | cons h2 hv => cases hv with
        | cons h3 hv => cases hv; exact ⟨_, _, _, rfl, h1, h2, h3⟩
  cases hx; cases hy; cases hz
  exact ⟨i, j, k, rfl, kk.here s (.int _)⟩⟩
theorem evl_listRg {a b : Expr} {p p2 pos2 : Pos} {i j : Int} (hc : X.calm = true) (ha : Ev X ρ a (.int i)) (hb : Ev X ρ b (.int j)) (hk : 0 ≤ i ∧ i ≤ 16777216 ∧ 0 ≤ j ∧ j ≤ 16777216) (hg : Gl X "range") (hm : X.mg "range" = none) (hg2 : Gl X "list") (hm2 : X.mg "list" = none)
    (na : starEach [a, b] X.env = (false, eval a X.env) :: starEach [b] X.env) (nb : starEach [b] X.env = (false, eval b X.env) :: starEach [] X.env) (hp : (backTo pos2 (starEach [b] X.env)).any (·.1) = false)
    (n2 : starEach [.Call (.Name "range" p2) [a, b] [] pos2] X.env = (false, eval (.Call (.Name "range" p2) [a, b] [] pos2) X.env) :: starEach [] X.env) :
    EvL X ρ (.Call (.Name "list" p) [.Call (.Name "range" p2) [a, b] [] pos2] [] pos) (((List.range (j - i).toNat).map fun (m : Nat) => i + (m : Int)).map .int) := fun σ G H Q E k =>
  wE_of (pe_listRg hc hg2 hm2 (prg_2 hg hm pe_w pe_w na nb hp) n2) (ha σ G H _ E fun x G1 H1 f1 hx => hb σ G1 H1 _ (E.frm f1) fun y G2 H2 f2 hy => by
    cases hx
    cases hy
    have f := f1.trans f2
    refine ⟨i, j, rfl, rfl, RgOk.of_le hk.1 hk.2.2.2 hk.2.1 hk.2.2.1, fun q hq => ?_⟩
    have e : rgV i j = ((List.range (j - i).toNat).map fun (m : Nat) => i + (m : Int)).map V.int := by
      unfold rgV
      rw [List.map_map]
      rfl
    refine k q _ G2 _ (f.trans (Frm.priv f.s hq)) upd_same (f.s.free hq) (f.h.free hq) ?_
    rw [e]
    exact DpAll.ofInts _)
end
end DL

namespace DL
open PySem PySem.Spec PyProof.Rows L2
/-! ## how gaps are read -/
section
variable {n : Nat}
def rdOn (n : Nat) : Option (List Nat) → Int → Option (List Nat)
  | none, _ => none
  | some x, g => if g < 1 ∨ g > n + 1 then none else if g = n + 1 then some (x ++ ones n) else some (x ++ ones (g - 1).toNat ++ [48])
structure RdS where
  c : List (List Nat)
  p : Option (List Nat)
  b : Int
def rdEnd (n : Nat) (c : List (List Nat)) (b : Int) : Option (List Nat) → List (List Nat)
  | none => c
  | some x => if 1 ≤ b ∧ b ≤ n then c ++ [x.dropLast] else c
def rdStep (n : Nat) (s : RdS) (g : Int) : RdS := if g = n + 2 then ⟨rdEnd n s.c s.b s.p, some [], g⟩ else ⟨s.c, rdOn n s.p g, g⟩
def rd (n : Nat) (gs : List Int) : List (List Nat) := (gs.foldl (rdStep n) ⟨[], none, 0⟩).c
/-- the gaps between one flag and the next one -/
def prt (n : Nat) : Option (List Int) → List Int → List (List Int)
  | _, [] => []
  | none, g :: r => if g = n + 2 then prt n (some []) r else prt n none r
  | some a, g :: r => if g = n + 2 then a :: prt n (some []) r else prt n (some (a ++ [g])) r
def valG (n : Nat) (a : List Int) : Option (List Nat) := a.foldl (rdOn n) (some [])
def lastG (n : Nat) (a : List Int) : Int := a.getLastD (n + 2)
def outG (n : Nat) (a : List Int) : Option (List Nat) := match valG n a with
  | none => none
  | some x => if 1 ≤ lastG n a ∧ lastG n a ≤ n then some x.dropLast else none
theorem rdEnd_out (c : List (List Nat)) (a : List Int) : rdEnd n c (lastG n a) (valG n a) = c ++ (outG n a).toList := by
  unfold outG
  cases h : valG n a with
  | none => simp [rdEnd]
  | some x =>
    show (if 1 ≤ lastG n a ∧ lastG n a ≤ n then c ++ [x.dropLast] else c) = c ++ (if 1 ≤ lastG n a ∧ lastG n a ≤ n then some x.dropLast else none).toList
    by_cases h : 1 ≤ lastG n a ∧ lastG n a ≤ n
    · rw [if_pos h, if_pos h]; rfl
    · rw [if_neg h, if_neg h]; simp
theorem valG_snoc (a : List Int) (g : Int) : valG n (a ++ [g]) = rdOn n (valG n a) g := by
  unfold valG
  rw [List.foldl_append]
  rfl
theorem lastG_snoc (a : List Int) (g : Int) : lastG n (a ++ [g]) = g := by
  unfold lastG
  rw [List.getLastD_eq_getLast?, List.getLast?_append]
  rfl
theorem rd_some : ∀ (gs : List Int) (c : List (List Nat)) (a : List Int), (gs.foldl (rdStep n) ⟨c, valG n a, lastG n a⟩).c = c ++ (prt n (some a) gs).filterMap (outG n)
  | [], c, a => by simp [prt]
  | g :: r, c, a => by
    rw [List.foldl_cons, prt]
    unfold rdStep
    by_cases h : g = n + 2
    · rw [if_pos h, if_pos h]
      have ih := rd_some r (c ++ (outG n a).toList) []
      show (r.foldl (rdStep n) ⟨rdEnd n c (lastG n a) (valG n a), some [], g⟩).c = _
      rw [rdEnd_out, h]
      rw [show valG n [] = some [] from rfl, show lastG n [] = (n : Int) + 2 from rfl] at ih
      rw [ih, List.filterMap_cons]
      cases outG n a <;> simp
    · rw [if_neg h, if_neg h]
      show (r.foldl (rdStep n) ⟨c, rdOn n (valG n a) g, g⟩).c = _
      have ih := rd_some r c (a ++ [g])
      rw [valG_snoc, lastG_snoc] at ih
      exact ih
theorem rd_none : ∀ (gs : List Int) (c : List (List Nat)) (b : Int), (gs.foldl (rdStep n) ⟨c, none, b⟩).c = c ++ (prt n none gs).filterMap (outG n)
  | [], c, b => by simp [prt]
  | g :: r, c, b => by
    rw [List.foldl_cons, prt]
    unfold rdStep
    by_cases h : g = n + 2
    · rw [if_pos h, if_pos h, h]
      exact rd_some r c []
    · rw [if_neg h, if_neg h]
      exact rd_none r c g
theorem rd_prt (gs : List Int) : rd n gs = (prt n none gs).filterMap (outG n) := by
  unfold rd
  rw [rd_none, List.nil_append]
/-- the bits of gaps -/
def bitG (n : Nat) (g : Int) : List Nat := if g = n + 1 then ones n else ones (g - 1).toNat ++ [48]
def bitsG (n : Nat) (a : List Int) : List Nat := (a.map (bitG n)).flatten
theorem fold_none : ∀ (a : List Int), a.foldl (rdOn n) none = none
  | [] => rfl
  | g :: r => fold_none r
theorem fold_some : ∀ (a : List Int) (x : List Nat), a.foldl (rdOn n) (some x) = if (∀ g ∈ a, 1 ≤ g ∧ g ≤ n + 1) then some (x ++ bitsG n a) else none
  | [], x => by rw [if_pos (fun g hg => by cases hg)]; simp [bitsG]
  | g :: r, x => by
    rw [List.foldl_cons]
    by_cases h : 1 ≤ g ∧ g ≤ n + 1
    · have e : rdOn n (some x) g = some (x ++ bitG n g) := by
        unfold rdOn bitG
        simp only
        rw [if_neg (by omega)]
        by_cases h2 : g = n + 1
        · rw [if_pos h2, if_pos h2]
        · rw [if_neg h2, if_neg h2, List.append_assoc]
      rw [e, fold_some r]
      by_cases h2 : ∀ g ∈ r, 1 ≤ g ∧ g ≤ n + 1
      · rw [if_pos h2, if_pos (fun k hk => (List.mem_cons.mp hk).elim (fun e => e ▸ h) (h2 k))]
        simp [bitsG]
      · rw [if_neg h2, if_neg fun h3 => h2 fun k hk => h3 k (List.mem_cons_of_mem _ hk)]
    · have e : rdOn n (some x) g = none := by
        unfold rdOn
        simp only
        rw [if_pos (by omega)]
      rw [e, fold_none, if_neg fun h3 => h (h3 g (by simp))]
theorem outG_eq (a : List Int) : outG n a = if a ≠ [] ∧ (∀ g ∈ a, 1 ≤ g ∧ g ≤ n + 1) ∧ lastG n a ≤ n then some (bitsG n a).dropLast else none := by
  unfold outG valG
  rw [fold_some, List.nil_append]
  by_cases h : ∀ g ∈ a, 1 ≤ g ∧ g ≤ n + 1
  · rw [if_pos h]
    show (if 1 ≤ lastG n a ∧ lastG n a ≤ n then some (bitsG n a).dropLast else none) = _
    by_cases ha : a = []
    · subst ha
      rw [if_neg (show ¬ (1 ≤ lastG n [] ∧ lastG n [] ≤ (n : Int)) from fun h => by
        have : lastG n [] = (n : Int) + 2 := rfl
        omega), if_neg (by simp)]
    · have hm : lastG n a ∈ a := by
        unfold lastG
        rw [List.getLastD_eq_getLast?, List.getLast?_eq_some_getLast ha]
        exact List.getLast_mem ha
      have := h _ hm
      by_cases h2 : lastG n a ≤ n
      · rw [if_pos ⟨this.1, h2⟩, if_pos ⟨ha, h, h2⟩]
      · rw [if_neg fun h3 => h2 h3.2, if_neg fun h3 => h2 h3.2.2]
  · rw [if_neg h, if_neg fun h3 => h h3.2.1]
/-- the places of flags, the first gap being at i -/
def ends (n : Nat) : Nat → List Int → List Nat
  | _, [] => []
  | i, g :: r => if g = n + 2 then i :: ends n (i + 1) r else ends n (i + 1) r
def cpt (full : List Int) : List Nat → List (List Int)
  | x :: y :: r => ((full.drop (x + 1)).take (y - (x + 1))) :: cpt full (y :: r)
  | _ => []
theorem prt_some : ∀ (gs pre full : List Int) (q : Nat), full = pre ++ gs → q < pre.length → prt n (some ((full.drop (q + 1)).take (pre.length - (q + 1)))) gs = cpt full (q :: ends n pre.length gs)
  | [], pre, full, q, _, _ => by rw [prt, ends, cpt]; intros; simp_all
  | g :: r, pre, full, q, hf, hq => by
    have hf2 : full = (pre ++ [g]) ++ r := by rw [hf]; simp
    have ih := prt_some r (pre ++ [g]) full
    rw [prt, ends]
    rw [List.length_append, List.length_singleton] at ih
    by_cases h : g = n + 2
    · rw [if_pos h, if_pos h, cpt]
      have ih2 := ih pre.length hf2 (by omega)
      rw [Nat.sub_self, List.take_zero] at ih2
      rw [ih2]
    · rw [if_neg h, if_neg h, ← ih q hf2 (by omega)]
      congr 2
      rw [show pre.length + 1 - (q + 1) = (pre.length - (q + 1)) + 1 by omega, List.take_succ, List.getElem?_drop, show q + 1 + (pre.length - (q + 1)) = pre.length by omega, hf]
      simp
theorem prt_none : ∀ (gs pre full : List Int), full = pre ++ gs → prt n none gs = cpt full (ends n pre.length gs)
  | [], pre, full, _ => by rw [prt, ends, cpt]; intros; simp_all
  | g :: r, pre, full, hf => by
    have hf2 : full = (pre ++ [g]) ++ r := by rw [hf]; simp
    rw [prt, ends]
    by_cases h : g = n + 2
    · rw [if_pos h, if_pos h]
      have ih := prt_some (n := n) r (pre ++ [g]) full pre.length hf2 (by simp)
      rw [List.length_append, List.length_singleton, Nat.sub_self, List.take_zero] at ih
      exact ih
    · rw [if_neg h, if_neg h]
      have ih := prt_none r (pre ++ [g]) full hf2
      rw [List.length_append, List.length_singleton] at ih
      exact ih
theorem prt_ends (gs : List Int) : prt n none gs = cpt gs (ends n 0 gs) := prt_none gs [] gs rfl
theorem ends_range : ∀ (gs : List Int) (i : Nat), ends n i gs = ((List.range gs.length).filter fun k => decide (gs.getD k 0 = n + 2)).map (i + ·)
  | [], i => by rw [ends]; rfl
  | g :: r, i => by
    rw [ends, ends_range r (i + 1), List.length_cons, List.range_succ_eq_map, List.filter_cons, List.filter_map]
    have e : ((List.range r.length).filter ((fun k => decide ((g :: r).getD k 0 = n + 2)) ∘ Nat.succ)) = (List.range r.length).filter fun k => decide (r.getD k 0 = n + 2) := rfl
    rw [e]
    have e2 : ((i + ·) ∘ Nat.succ) = (i + 1 + ·) := by funext k; simp; omega
    by_cases h : g = n + 2
    · rw [if_pos h, if_pos (by simpa using h), List.map_cons, List.map_map, e2]
      rfl
    · rw [if_neg h, if_neg (by simpa using h), List.map_map, e2]
theorem cpt_range (full : List Int) : ∀ (E : List Nat), cpt full E = (List.range (E.length - 1)).map fun k => (full.drop (E.getD k 0 + 1)).take (E.getD (k + 1) 0 - (E.getD k 0 + 1))
  | [] => by rw [cpt]; rfl; intros; simp_all
  | [x] => by rw [cpt]; rfl; intros; simp_all
  | x :: y :: r => by
    rw [cpt, cpt_range full (y :: r), List.length_cons, List.length_cons, List.length_cons, show r.length + 1 + 1 - 1 = (r.length + 1 - 1) + 1 by omega, List.range_succ_eq_map, List.map_cons, List.map_map]
    rfl
theorem cutN_last (x : List Nat) : cutN x none (some (-1)) = x.dropLast := by
  unfold cutN
  rw [sIx_neg _ _ (v := -1) (by decide)]
  show (x.drop 0).take ((-1 + (x.length : Int)).toNat - 0) = _
  rw [List.drop_zero, Nat.sub_zero, List.dropLast_eq_take]
  congr 1
  omega
end
section
variable {X : Cx} {ρ : Envi} {pos : Pos}
theorem ev_ifT {t a b : Expr} {c : Bool} {x y : List Nat} (hc : Tst X ρ t c) (ha : c = true → Ev X ρ a (.str (S x))) (hb : c = false → Ev X ρ b (.str (S y))) : Ev X ρ (.IfExp t a b pos) (.str (S (if c = true then x else y))) := by
  have h := ev_ifS (pos := pos) hc ha hb
  cases c
  · exact h
  · exact h
end
theorem bitG_bits {n : Nat} (g : Int) : ∀ c ∈ bitG n g, c = 48 ∨ c = 49 := by
  unfold bitG
  intro c hc
  split at hc
  · exact .inr (List.eq_of_mem_replicate hc)
  · rcases List.mem_append.mp hc with h | h
    · exact .inr (List.eq_of_mem_replicate h)
    · exact .inl (List.mem_singleton.mp h)
theorem rd_bits {n : Nat} {gs : List Int} : ∀ x ∈ rd n gs, ∀ c ∈ x, c = 48 ∨ c = 49 := by
  intro x hx c hc
  rw [rd_prt] at hx
  obtain ⟨a, _, ha⟩ := List.mem_filterMap.mp hx
  rw [outG_eq] at ha
  split at ha
  · cases ha
    have hc := List.dropLast_subset _ hc
    unfold bitsG at hc
    obtain ⟨y, hy, hcy⟩ := List.mem_flatten.mp hc
    obtain ⟨g, _, rfl⟩ := List.mem_map.mp hy
    exact bitG_bits g c hcy
  · cases ha
theorem strOk_bits {l : List Nat} (h : ∀ c ∈ l, c = 48 ∨ c = 49) : PyData.strOk (S l) = true := by
  unfold PyData.strOk
  rw [← Array.all_toList]
  refine List.all_eq_true.mpr fun c hc => ?_
  have hc' : c ∈ l := hc
  rcases h c hc' with h | h <;> subst h <;> decide
end DL

namespace DL
open PySem PySem.Spec PyProof.Rows L2
/-! ## frames are read -/
section
variable {n : Nat}
theorem lastG_cons (g : Int) {r : List Int} (h : r ≠ []) : lastG n (g :: r) = lastG n r := by
  unfold lastG
  rw [List.getLastD_eq_getLast?, List.getLastD_eq_getLast?, List.getLast?_cons]
  cases r with
  | nil => exact absurd rfl h
  | cons a r => simp [List.getLast?_cons]
theorem bitsG_cons (g : Int) (r : List Int) : bitsG n (g :: r) = bitG n g ++ bitsG n r := rfl
theorem gp_ne {p : Int} {l : List Int} (h : l ≠ []) : gp p l ≠ [] := fun e => by
  have := congrArg List.length e
  rw [gp_length] at this
  exact h (List.length_eq_zero_iff.mp this)
theorem mid_bits_aux (hL : 0 < n) : ∀ (l : List Nat), (∀ c ∈ l, c = 48 ∨ c = 49) → ∀ (k : Nat) (p : Int), k < n →
    bitsG n (gp p (zr (p + 1 + k) (stF n k l) ++ [(p + 1 + k + (stF n k l).length : Int)])) = ones k ++ l ++ [48] ∧ lastG n (gp p (zr (p + 1 + k) (stF n k l) ++ [(p + 1 + k + (stF n k l).length : Int)])) ≤ n
  | [], _, k, p, h => by
    rw [stF, zr, List.nil_append, gp, gp, List.length_nil]
    have e : p + 1 + (k : Int) + ((0 : Nat) : Int) - p = (k : Int) + 1 := by omega
    rw [e]
    refine ⟨?_, ?_⟩
    · show bitG n ((k : Int) + 1) ++ [] = _
      unfold bitG
      rw [if_neg (by omega), show ((k : Int) + 1 - 1).toNat = k by omega, List.append_nil, List.append_nil]
    · show (k : Int) + 1 ≤ n
      omega
  | c :: r, hb, k, p, h => by
    have hb' : ∀ c ∈ r, c = 48 ∨ c = 49 := fun c hc => hb c (by simp [hc])
    rcases hb c (by simp) with hc | hc
    · subst hc
      rw [stF, if_neg (by decide), zr, if_pos rfl, List.cons_append, gp, List.length_cons]
      have ih := mid_bits_aux hL r hb' 0 (p + 1 + k) hL
      rw [show p + 1 + (k : Int) + 1 + ((0 : Nat) : Int) = p + 1 + k + 1 by omega] at ih
      rw [show p + 1 + (k : Int) + (((stF n 0 r).length + 1 : Nat) : Int) = p + 1 + k + 1 + (stF n 0 r).length by omega]
      rw [bitsG_cons, lastG_cons _ (gp_ne (by simp)), ih.1]
      refine ⟨?_, ih.2⟩
      unfold bitG
      rw [if_neg (by omega), show (p + 1 + (k : Int) - p - 1).toNat = k by omega]
      simp [ones]
    · subst hc
      rw [stF, if_pos rfl]
      by_cases hk : k + 1 = n
      · rw [if_pos hk, zr, if_neg (by decide), zr, if_pos rfl, List.cons_append, gp, List.length_cons, List.length_cons]
        have ih := mid_bits_aux hL r hb' 0 (p + 1 + k + 1) hL
        rw [show p + 1 + (k : Int) + 1 + 1 + ((0 : Nat) : Int) = p + 1 + k + 1 + 1 by omega] at ih
        rw [show p + 1 + (k : Int) + (((stF n 0 r).length + 1 + 1 : Nat) : Int) = p + 1 + k + 1 + 1 + (stF n 0 r).length by omega]
        rw [bitsG_cons, lastG_cons _ (gp_ne (by simp)), ih.1]
        refine ⟨?_, ih.2⟩
        unfold bitG
        rw [if_pos (by omega), List.append_assoc (ones k), List.cons_append, ones_snoc, hk, List.append_assoc]
        rfl
      · rw [if_neg hk, zr, if_neg (by decide), List.length_cons]
        have ih := mid_bits_aux hL r hb' (k + 1) p (by omega)
        rw [show p + 1 + ((k + 1 : Nat) : Int) = p + 1 + k + 1 by omega] at ih
        rw [show p + 1 + (k : Int) + (((stF n (k + 1) r).length + 1 : Nat) : Int) = p + 1 + k + 1 + (stF n (k + 1) r).length by omega]
        refine ⟨?_, ih.2⟩
        rw [ih.1, List.append_assoc (ones k), List.cons_append, ones_snoc, List.append_assoc]
theorem out_mid (hL : 0 < n) {l : List Nat} (hb : ∀ c ∈ l, c = 48 ∨ c = 49) : outG n (mid n l) = some l := by
  have h := mid_bits_aux hL l hb 0 (n + 2) hL
  rw [show (n : Int) + 2 + 1 + ((0 : Nat) : Int) = n + 3 by omega] at h
  have hm : mid n l = gp (n + 2) (zr (n + 3) (stF n 0 l) ++ [(n + 3 + (stF n 0 l).length : Int)]) := rfl
  rw [← hm] at h
  rw [outG_eq, if_pos ⟨mid_ne l, mid_ok hL hb, h.2⟩, h.1]
  simp [ones]
theorem prt_run : ∀ (m a r : List Int), (∀ g ∈ m, g ≠ n + 2) → prt n (some a) (m ++ r) = prt n (some (a ++ m)) r
  | [], a, r, _ => by rw [List.nil_append, List.append_nil]
  | g :: m, a, r, h => by
    rw [List.cons_append, prt, if_neg (h g (by simp)), prt_run m (a ++ [g]) r fun k hk => h k (by simp [hk])]
    simp
theorem prt_run0 : ∀ (m r : List Int), (∀ g ∈ m, g ≠ n + 2) → prt n none (m ++ r) = prt n none r
  | [], r, _ => rfl
  | g :: m, r, h => by
    rw [List.cons_append, prt, if_neg (h g (by simp)), prt_run0 m r fun k hk => h k (by simp [hk])]
theorem prt_flag (a r : List Int) : prt n (some a) ((n + 2 : Int) :: r) = a :: prt n (some []) r := by
  rw [prt, if_pos rfl]
theorem prt_flag0 (r : List Int) : prt n none ((n + 2 : Int) :: r) = prt n (some []) r := by
  rw [prt, if_pos rfl]
def gF (n : Nat) (l : List Nat) : List Int := (n + 2 : Int) :: (mid n l ++ [(n + 2 : Int)])
theorem mid_free (hL : 0 < n) {l : List Nat} (hb : ∀ c ∈ l, c = 48 ∨ c = 49) : ∀ g ∈ mid n l, g ≠ n + 2 := fun g hg => by
  have := mid_ok hL hb g hg
  omega
theorem prt_frame (hL : 0 < n) {l : List Nat} (hb : ∀ c ∈ l, c = 48 ∨ c = 49) (r : List Int) : prt n (some []) (mid n l ++ [(n + 2 : Int)] ++ r) = mid n l :: prt n (some []) r := by
  rw [List.append_assoc, prt_run _ _ _ (mid_free hL hb), List.nil_append, List.singleton_append, prt_flag]
/-- one frame -/
theorem rd_one (hL : 0 < n) {l : List Nat} (hb : ∀ c ∈ l, c = 48 ∨ c = 49) : rd n (gF n l) = [l] := by
  rw [rd_prt]
  unfold gF
  rw [prt_flag0]
  have := prt_frame hL hb []
  rw [List.append_nil] at this
  rw [this, List.filterMap_cons, out_mid hL hb]
  rfl
theorem rd_noend (hL : 0 < n) {l : List Nat} (hb : ∀ c ∈ l, c = 48 ∨ c = 49) : rd n ((n + 2 : Int) :: mid n l) = [] := by
  rw [rd_prt, prt_flag0]
  have := prt_run (n := n) (mid n l) [] [] (mid_free hL hb)
  rw [List.append_nil] at this
  rw [this, prt]
  rfl
theorem rd_nostart (hL : 0 < n) {l : List Nat} (hb : ∀ c ∈ l, c = 48 ∨ c = 49) : rd n (mid n l ++ [(n + 2 : Int)]) = [] := by
  rw [rd_prt, prt_run0 _ _ (mid_free hL hb), prt_flag0, prt]
  rfl
/-- frames apart -/
theorem rd_apart (hL : 0 < n) : ∀ (ps : List (Int × List Nat)), (∀ q ∈ ps, q.1 > n + 2 ∧ ∀ c ∈ q.2, c = 48 ∨ c = 49) → ∀ (s : Option (List Int)), (s = none ∨ s = some []) → (prt n s ((ps.map fun q => [q.1] ++ gF n q.2).flatten)).filterMap (outG n) = ps.map (·.2)
  | [], _, s, _ => by
    rw [List.map_nil, List.flatten_nil, prt]
    rfl
  | q :: ps, h, s, hs => by
    have hq := h q (by simp)
    have ih := rd_apart hL ps (fun k hk => h k (by simp [hk])) (some []) (.inr rfl)
    rw [List.map_cons, List.flatten_cons, List.map_cons]
    unfold gF
    rw [List.append_assoc, List.singleton_append, List.cons_append]
    have hx : ¬ q.1 = n + 2 := by omega
    rcases hs with rfl | rfl
    · rw [prt, if_neg hx, prt_flag0, prt_frame hL hq.2, List.filterMap_cons, out_mid hL hq.2]
      show _ :: _ = _
      unfold gF at ih
      rw [ih]
    · rw [prt, if_neg hx, prt_flag, prt_frame hL hq.2, List.filterMap_cons, List.filterMap_cons, out_mid hL hq.2, outG_eq, if_neg (by
        rintro ⟨_, h2, _⟩
        have := h2 q.1 (by simp)
        omega)]
      show _ :: _ = _
      unfold gF at ih
      rw [ih]
theorem rd_shared (hL : 0 < n) : ∀ (ls : List (List Nat)), (∀ l ∈ ls, ∀ c ∈ l, c = 48 ∨ c = 49) → (prt n (some []) ((ls.map fun l => mid n l ++ [(n + 2 : Int)]).flatten)).filterMap (outG n) = ls
  | [], _ => by
    rw [List.map_nil, List.flatten_nil, prt]
    rfl
  | l :: ls, h => by
    have ih := rd_shared hL ls fun k hk => h k (by simp [hk])
    rw [List.map_cons, List.flatten_cons, prt_frame hL (h l (by simp)), List.filterMap_cons, out_mid hL (h l (by simp))]
    show _ :: _ = _
    rw [ih]
end
theorem gF_len (n : Nat) (hn : n ≤ 7) (h0 : 0 < n) (l : List Nat) : (gF n l).length ≤ 2 * l.length + 20 := by
  have e : gF n l = dist (zr 0 (frm n l)) := (gaps_frm n l).symm
  rw [e, dist_length]
  have h1 := zr_length (frm n l) 0
  rw [frm_length] at h1
  have h2 := stF_length2 (L := n) (l := l) h0
  omega
theorem gF_tail (n : Nat) (l : List Nat) : cutG (gF n l) (some 1) none = mid n l ++ [(n + 2 : Int)] := by
  rw [cutG_from (by decide)]
  rfl
theorem gF_init (n : Nat) (l : List Nat) : cutG (gF n l) none (some (-1)) = (n + 2 : Int) :: mid n l := by
  unfold cutG gF
  rw [sIx_neg _ _ (v := -1) (by decide), List.length_cons, List.length_append, List.length_singleton]
  show (List.drop 0 _).take ((-1 + (((mid n l).length + 1 + 1 : Nat) : Int)).toNat - 0) = _
  rw [List.drop_zero, Nat.sub_zero, show (-1 + (((mid n l).length + 1 + 1 : Nat) : Int)).toNat = (mid n l).length + 1 by omega, List.take_succ_cons, List.take_left]
section
variable {X : Cx} {ρ : Envi} {pos : Pos}
theorem ev_sliceE {α : Type} {xs : List α} {g : α → D} {e : Expr} {lo hi : Option Expr} {p2 : Pos} {l h : Option Int} (ha : Ev X ρ e (.list (xs.map g))) (hl : Pt X ρ lo l) (hh : Pt X ρ hi h) : Ev X ρ (.Subscript e (.Slice lo hi none p2) pos) (.list ((cutG xs l h).map g)) := ev_cutE (ev_slice ha hl hh sl_l)
theorem ev_ifL {t a b : Expr} {c : Bool} {xs ys : List D} (hc : Tst X ρ t c) (ha : c = true → Ev X ρ a (.list xs)) (hb : c = false → Ev X ρ b (.list ys)) : Ev X ρ (.IfExp t a b pos) (.list (if c = true then xs else ys)) :=
  (ev_if hc ha hb).to (by cases c <;> rfl)
end
end DL

namespace DL
open PySem PySem.Spec PyProof.Rows L2
/-! margins of a gap, and how distances are read -/
def moP (q b : Int) : Int := (2 * b + 1) * q / 2
def maE (l j p q r : Int) : Int := r * l - 2 * j - p - moP q (r - 1) * p
def maL (g j p q r : Int) : Int := moP q r * p - r * g - 2 * j
def okAt (l g j p q r : Int) : Bool := decide (0 ≤ min (maE l j p q r) (maL g j p q r))
def safeB (m l g j p q : Int) : Bool := (List.range (m + 3 - 1).toNat).all fun (i : Nat) => okAt l g j p q (1 + (i : Int))
theorem moP_eq (q r : Int) : moP q r = q / 2 + r * q := by
  unfold moP
  rw [show (2 * r + 1) * q = q + r * q * 2 by grind, Int.add_mul_ediv_right _ _ (by decide)]
theorem moP_law (q r : Int) : (2 * r - 1) * q / 2 = moP q (r - 1) := by
  unfold moP
  rw [show 2 * (r - 1) + 1 = 2 * r - 1 by omega]
theorem moP_mono {q a b : Int} (hq : 0 ≤ q) (h : a ≤ b) : moP q a ≤ moP q b := by
  rw [moP_eq, moP_eq]
  have := Int.mul_le_mul_of_nonneg_right h hq
  omega
theorem moP_nonneg {q r : Int} (hq : 0 ≤ q) (hr : 0 ≤ r) : 0 ≤ moP q r := by
  rw [moP_eq]
  have := Int.mul_nonneg hr hq
  omega
def gpB (q D : Int) : Int := -((q - 2 * D) / (2 * q))
theorem gpB_ok {q n : Int} (hq : 1 ≤ q) : moP q (gpB q n - 1) < n ∧ n ≤ moP q (gpB q n) := by
  unfold gpB
  have h1 := Int.mul_ediv_add_emod (q - 2 * n) (2 * q)
  have h2 := Int.emod_nonneg (q - 2 * n) (show 2 * q ≠ 0 by omega)
  have h3 := Int.emod_lt_of_pos (q - 2 * n) (show 0 < 2 * q by omega)
  generalize (q - 2 * n) % (2 * q) = m at h1 h2 h3
  generalize (q - 2 * n) / (2 * q) = t at h1 h2 h3
  have e1 : 2 * q * t = 2 * (t * q) := by grind
  unfold moP
  have e2 : (2 * (-t - 1) + 1) * q = -(2 * (t * q)) - q := by grind
  have e3 : (2 * -t + 1) * q = -(2 * (t * q)) + q := by grind
  rw [e2, e3]
  rw [e1] at h1
  omega
theorem gpB_iff {q n r : Int} (hq : 1 ≤ q) : gpB q n = r ↔ moP q (r - 1) < n ∧ n ≤ moP q r := by
  constructor
  · rintro rfl
    exact gpB_ok hq
  · rintro ⟨h1, h2⟩
    obtain ⟨h3, h4⟩ := gpB_ok (n := n) hq
    rcases Int.lt_trichotomy (gpB q n) r with h | h | h
    · have := moP_mono (q := q) (a := gpB q n) (b := r - 1) (by omega) (by omega)
      omega
    · exact h
    · have := moP_mono (q := q) (a := r) (b := gpB q n - 1) (by omega) (by omega)
      omega
theorem gpB_nonneg {q n : Int} (hq : 1 ≤ q) (hn : 0 ≤ n) : 0 ≤ gpB q n := by
  rcases Int.lt_or_le (gpB q n) 0 with h | h
  · exfalso
    obtain ⟨h3, h4⟩ := gpB_ok (n := n) hq
    have := moP_mono (q := q) (a := gpB q n) (b := -1) (by omega) (by omega)
    have e : moP q (-1) = q / 2 + -1 * q := moP_eq q (-1)
    omega
  · exact h
/-- the received gaps -/
def rgF (ph p q : Int) (ts : List Int) (N : Nat) : List Int := (dist (dF (ts.map (pnum ph p)) N)).map (gpB q)
/-- two edges -/
theorem dF_two {a b : Int} {N : Nat} (h0 : 0 ≤ a) (hab : a ≤ b) (hb : b < N) : dF [a, b] N = if a = b then [] else [a, b] := by
  obtain ⟨x, rfl⟩ : ∃ x : Nat, a = x := ⟨a.toNat, by omega⟩
  obtain ⟨y, rfl⟩ : ∃ y : Nat, b = y := ⟨b.toNat, by omega⟩
  have h1 := tgl_dF (ns := []) (x := x) (fun z hz => by cases hz) (N := N) (by omega)
  have h2 := tgl_dF (ns := [(x : Int)]) (x := y) (fun z hz => by rw [List.mem_singleton.mp hz]; exact hab) (N := N) (by omega)
  have h3 : dF [] N = [] := dF_ext (a := 0) (fun y hy => by cases hy) N (Nat.zero_le _)
  have h1' : [(x : Int)] = dF [(x : Int)] N := by
    have : tgl (dF [] N) x = [(x : Int)] := by rw [h3]; rfl
    rw [this] at h1
    exact h1
  have h2' : dF [(x : Int), (y : Int)] N = tgl (dF [(x : Int)] N) y := h2.symm
  rw [h2', ← h1']
  unfold tgl
  by_cases e : (x : Int) = (y : Int)
  · rw [if_pos e, if_pos (by simp [e])]
    rfl
  · rw [if_neg e, if_neg (by simp [e])]
    rfl
def asR (ph p q t0 t1 : Int) : Int := if pnum ph p t0 = pnum ph p t1 then -1 else gpB q (pnum ph p t1 - pnum ph p t0)
theorem rg_two {ph p q t0 t1 : Int} {N : Nat} (hp : 0 < p) (h : t0 ≤ t1) (hN : pnum ph p t1 < N) : rgF ph p q [t0, t1] N = if pnum ph p t0 = pnum ph p t1 then [] else [gpB q (pnum ph p t1 - pnum ph p t0)] := by
  unfold rgF
  have e : [t0, t1].map (pnum ph p) = [pnum ph p t0, pnum ph p t1] := rfl
  rw [e, dF_two (pnum_nonneg _ _ _) (pnum_mono hp h) hN]
  split <;> rfl
section
variable {ph p q t0 t1 r : Int}
theorem pn_gt (hp : 0 < p) (h : ph < t0) : ph + (pnum ph p t0 - 1) * p < t0 := by
  have hn := pnum_nonneg ph p t0
  by_cases h0 : pnum ph p t0 = 0
  · rw [h0]
    omega
  · have := (pnum_le (ph := ph) (t := t0) (k := pnum ph p t0 - 1) hp (by omega))
    have h1 : ¬ pnum ph p t0 ≤ pnum ph p t0 - 1 := by omega
    rw [this] at h1
    omega
theorem pn_ge (hp : 0 < p) : t0 ≤ ph + pnum ph p t0 * p := (pnum_le hp (pnum_nonneg _ _ _)).mp (Int.le_refl _)
/-- a gap with margins is read as it is -/
theorem as_right (hp : 0 < p) (hq : 1 ≤ q) (hr : 1 ≤ r) (h0 : ph < t0) (hE : moP q (r - 1) * p + p ≤ t1 - t0) (hL : t1 - t0 ≤ moP q r * p) :
    pnum ph p t0 ≠ pnum ph p t1 ∧ gpB q (pnum ph p t1 - pnum ph p t0) = r := by
  have g0 := pn_gt hp h0
  have g1 := pn_ge (ph := ph) (t0 := t0) hp
  have n0 := pnum_nonneg ph p t0
  have m0 := moP_nonneg (q := q) (r := r - 1) (by omega) (by omega)
  have m1 := moP_nonneg (q := q) (r := r) (by omega) (by omega)
  have hlo : ¬ pnum ph p t1 ≤ pnum ph p t0 + moP q (r - 1) := by
    rw [pnum_le hp (by omega)]
    have e : (pnum ph p t0 + moP q (r - 1)) * p = pnum ph p t0 * p + moP q (r - 1) * p := by grind
    have e2 : (pnum ph p t0 - 1) * p = pnum ph p t0 * p - p := by grind
    omega
  have hhi : pnum ph p t1 ≤ pnum ph p t0 + moP q r := by
    rw [pnum_le hp (by omega)]
    have e : (pnum ph p t0 + moP q r) * p = pnum ph p t0 * p + moP q r * p := by grind
    omega
  exact ⟨by omega, (gpB_iff hq).mpr ⟨by omega, by omega⟩⟩
theorem as_early (hp : 0 < p) (hq : 1 ≤ q) (hr : 1 ≤ r) (h0 : p < t0) (hph : ph = (t0 + p - 1) % p) (hE : t1 - t0 < moP q (r - 1) * p + p) : asR ph p q t0 t1 ≠ r := by
  have d1 := Int.mul_ediv_add_emod (t0 + p - 1) p
  have d2 := Int.emod_nonneg (t0 + p - 1) (show p ≠ 0 by omega)
  have d3 := Int.emod_lt_of_pos (t0 + p - 1) hp
  rw [← hph] at d1 d2 d3
  generalize (t0 + p - 1) / p = k at d1
  have ek : p * k = k * p := Int.mul_comm _ _
  have hk : 0 ≤ k := by
    rcases Int.lt_or_le k 0 with h | h
    · have := Int.mul_le_mul_of_nonneg_right (show k ≤ -1 by omega) (show 0 ≤ p by omega)
      omega
    · exact h
  have m0 := moP_nonneg (q := q) (r := r - 1) (by omega) (by omega)
  have hlo : k ≤ pnum ph p t0 := by
    have g1 := pn_ge (ph := ph) (t0 := t0) hp
    rcases Int.lt_or_le (pnum ph p t0) k with h | h
    · exfalso
      have := Int.mul_le_mul_of_nonneg_right (show pnum ph p t0 ≤ k - 1 by omega) (show 0 ≤ p by omega)
      have e2 : (k - 1) * p = k * p - p := by grind
      omega
    · exact h
  have hhi : pnum ph p t1 ≤ k + moP q (r - 1) := by
    rw [pnum_le hp (by omega)]
    have e : (k + moP q (r - 1)) * p = k * p + moP q (r - 1) * p := by grind
    omega
  unfold asR
  split
  · omega
  · rw [Ne, gpB_iff hq]
    omega
theorem as_late (hp : 0 < p) (hq : 1 ≤ q) (hr : 1 ≤ r) (h0 : 0 ≤ t0) (hph : ph = t0 % p) (hL : moP q r * p < t1 - t0) : asR ph p q t0 t1 ≠ r := by
  have d1 := Int.mul_ediv_add_emod t0 p
  have d2 := Int.emod_nonneg t0 (show p ≠ 0 by omega)
  rw [← hph] at d1 d2
  have hk := Int.ediv_nonneg h0 (show 0 ≤ p by omega)
  generalize t0 / p = k at d1 hk
  have ek : p * k = k * p := Int.mul_comm _ _
  have m1 := moP_nonneg (q := q) (r := r) (by omega) (by omega)
  have hlo : pnum ph p t0 ≤ k := by
    rw [pnum_le hp hk]
    omega
  have hhi : ¬ pnum ph p t1 ≤ k + moP q r := by
    rw [pnum_le hp (by omega)]
    have e : (k + moP q r) * p = k * p + moP q r * p := by grind
    omega
  unfold asR
  split
  · omega
  · rw [Ne, gpB_iff hq]
    omega
end
end DL

namespace DL
open PySem PySem.Spec PyProof.Rows L2
/-! signals of places, and how a hop with margins reads them -/
def sg (st b : Int) (sh : List Int) : Nat → List Int → List Int
  | _, [] => []
  | k, z :: zs => (st + z * b + sh.getD k 0) :: sg st b sh (k + 1) zs
theorem sg_length (st b : Int) (sh : List Int) : ∀ (zs : List Int) (k : Nat), (sg st b sh k zs).length = zs.length
  | [], _ => rfl
  | z :: zs, k => by
    show (sg st b sh (k + 1) zs).length + 1 = zs.length + 1
    rw [sg_length]
theorem sg_range (st b : Int) (sh : List Int) (zs : List Int) : ((List.range zs.length).map fun (k : Nat) => st + zs.getD k 0 * b + sh.getD k 0) = sg st b sh 0 zs := by
  have aux : ∀ (zs : List Int) (k : Nat), sg st b sh k zs = (List.range zs.length).map fun (i : Nat) => st + zs.getD i 0 * b + sh.getD (k + i) 0 := by
    intro zs
    induction zs with
    | nil => intro k; rfl
    | cons z zs ih =>
      intro k
      rw [List.length_cons, List.range_succ_eq_map, List.map_cons, List.map_map]
      show _ :: sg st b sh (k + 1) zs = _
      rw [ih (k + 1)]
      congr 1
      apply List.map_congr_left
      intro i _
      show st + zs.getD i 0 * b + sh.getD (k + 1 + i) 0 = st + (z :: zs).getD (i + 1) 0 * b + sh.getD (k + (i + 1)) 0
      rw [show k + 1 + i = k + (i + 1) by omega]
      simp
  rw [aux zs 0]
  simp
/-- ascending numbers are detected as they are -/
theorem dF_asc {N : Nat} : ∀ (ns : List Int), ns.Pairwise (· < ·) → (∀ y ∈ ns, 0 ≤ y ∧ y < (N : Int)) → dF ns N = ns := by
  have aux : ∀ (ms : List Int), ms.reverse.Pairwise (· < ·) → (∀ y ∈ ms, 0 ≤ y ∧ y < (N : Int)) → dF ms.reverse N = ms.reverse := by
    intro ms
    induction ms with
    | nil => intro _ _; exact dF_ext (a := 0) (fun y hy => by cases hy) N (Nat.zero_le _)
    | cons x ms ih =>
      intro hp hb
      rw [List.reverse_cons] at hp ⊢
      rw [List.pairwise_append] at hp
      obtain ⟨hp1, _, hp2⟩ := hp
      obtain ⟨hx0, hxN⟩ := hb x (by simp)
      obtain ⟨y, rfl⟩ : ∃ y : Nat, x = y := ⟨x.toNat, by omega⟩
      have h := tgl_dF (ns := ms.reverse) (x := y) (fun z hz => by have := hp2 z hz (y : Int) (by simp); omega) (N := N) (by omega)
      have ih' := ih hp1 fun z hz => hb z (by simp [hz])
      rw [ih'] at h
      rw [← h]
      unfold tgl
      rw [if_neg]
      intro e
      have := List.mem_of_getLast? e
      have := hp2 _ this (y : Int) (by simp)
      omega
  intro ns hp hb
  have := aux ns.reverse (by rw [List.reverse_reverse]; exact hp) (fun y hy => hb y (by simpa using hy))
  rw [List.reverse_reverse] at this
  exact this
section
variable {l g j p q b ph st : Int} {sh : List Int}
/-- each gap of at least one bit and with margins is read as it is -/
theorem sg_read (hp : 0 < p) (hq : 1 ≤ q) (hl : 50 ≤ l) (hb : l ≤ b ∧ b ≤ g) (hj : 0 ≤ j ∧ 2 * j < l) (hph : 0 ≤ ph ∧ ph < p) (hst : p + j ≤ st) (hsh : ∀ s ∈ sh, -j ≤ s ∧ s ≤ j) :
    ∀ (zs : List Int) (z : Int) (k : Nat), 0 ≤ z → (∀ r ∈ gp z zs, 1 ≤ r ∧ 0 ≤ maE l j p q r ∧ 0 ≤ maL g j p q r) →
      ((st + z * b + sh.getD k 0) :: sg st b sh (k + 1) zs).Pairwise (· < ·) ∧
      ((((st + z * b + sh.getD k 0) :: sg st b sh (k + 1) zs).map (pnum ph p)).Pairwise (· < ·)) ∧
      (gp (pnum ph p (st + z * b + sh.getD k 0)) ((sg st b sh (k + 1) zs).map (pnum ph p))).map (gpB q) = gp z zs := by
  have hsd : ∀ k, -j ≤ sh.getD k 0 ∧ sh.getD k 0 ≤ j := fun k => by
    rw [List.getD_eq_getElem?_getD]
    cases e : sh[k]? with
    | none => simp; omega
    | some x => exact hsh x (List.mem_of_getElem? e)
  intro zs
  induction zs with
  | nil =>
    intro z k hz _
    exact ⟨List.pairwise_singleton _ _, List.pairwise_singleton _ _, rfl⟩
  | cons z2 zs ih =>
    intro z k hz hr
    have hg : gp z (z2 :: zs) = (z2 - z) :: gp z2 zs := rfl
    rw [hg] at hr
    obtain ⟨hr1, hE, hL⟩ := hr (z2 - z) (by simp)
    obtain ⟨i1, i2, i3⟩ := ih z2 (k + 1) (by omega) fun r h => hr r (by simp [h])
    have s0 := hsd k
    have s1 := hsd (k + 1)
    have zb : 0 ≤ z * b := Int.mul_nonneg hz (by omega)
    have eb : z2 * b - z * b = (z2 - z) * b := by rw [Int.sub_mul]
    have m0 := Int.mul_le_mul_of_nonneg_right hr1 (show 0 ≤ b by omega)
    have m1 := Int.mul_le_mul_of_nonneg_left hb.1 (show 0 ≤ z2 - z by omega)
    have m2 := Int.mul_le_mul_of_nonneg_left hb.2 (show 0 ≤ z2 - z by omega)
    unfold maE at hE
    unfold maL at hL
    obtain ⟨w1, w2⟩ := as_right (ph := ph) (p := p) (q := q) (t0 := st + z * b + sh.getD k 0) (t1 := st + z2 * b + sh.getD (k + 1) 0) (r := z2 - z) hp hq hr1 (by omega) (by omega) (by omega)
    have hlt : st + z * b + sh.getD k 0 < st + z2 * b + sh.getD (k + 1) 0 := by omega
    have hpl := pnum_mono (ph := ph) hp (Int.le_of_lt hlt)
    have hpl2 : pnum ph p (st + z * b + sh.getD k 0) < pnum ph p (st + z2 * b + sh.getD (k + 1) 0) := by omega
    have e1 : sg st b sh (k + 1) (z2 :: zs) = (st + z2 * b + sh.getD (k + 1) 0) :: sg st b sh (k + 1 + 1) zs := rfl
    rw [e1]
    refine ⟨?_, ?_, ?_⟩
    · refine List.pairwise_cons.mpr ⟨fun y hy => ?_, i1⟩
      rcases List.mem_cons.mp hy with e | h
      · rw [e]; exact hlt
      · exact Int.lt_trans hlt ((List.pairwise_cons.mp i1).1 y h)
    · rw [List.map_cons]
      refine List.pairwise_cons.mpr ⟨fun y hy => ?_, i2⟩
      rw [List.map_cons] at hy i2
      rcases List.mem_cons.mp hy with e | h
      · rw [e]; exact hpl2
      · exact Int.lt_trans hpl2 ((List.pairwise_cons.mp i2).1 y h)
    · rw [List.map_cons, hg]
      show gpB q (pnum ph p (st + z2 * b + sh.getD (k + 1) 0) - pnum ph p (st + z * b + sh.getD k 0)) :: _ = _
      rw [w2]
      congr 1
theorem rg_right {N : Nat} (hp : 0 < p) (hq : 1 ≤ q) (hl : 50 ≤ l) (hb : l ≤ b ∧ b ≤ g) (hj : 0 ≤ j ∧ 2 * j < l) (hph : 0 ≤ ph ∧ ph < p) (hst : p + j ≤ st) (hsh : ∀ s ∈ sh, -j ≤ s ∧ s ≤ j)
    (zs : List Int) (h0 : ∀ z ∈ zs, 0 ≤ z) (hr : ∀ r ∈ dist zs, 1 ≤ r ∧ 0 ≤ maE l j p q r ∧ 0 ≤ maL g j p q r) (hN : ∀ t ∈ sg st b sh 0 zs, pnum ph p t < N) : rgF ph p q (sg st b sh 0 zs) N = dist zs := by
  cases zs with
  | nil =>
    unfold rgF
    have : dF ((sg st b sh 0 []).map (pnum ph p)) N = [] := dF_ext (a := 0) (fun y hy => by cases hy) N (Nat.zero_le _)
    rw [this]
    rfl
  | cons z zs =>
    obtain ⟨i1, i2, i3⟩ := sg_read hp hq hl hb hj hph hst hsh zs z 0 (h0 z (by simp)) hr
    unfold rgF
    have e1 : sg st b sh 0 (z :: zs) = (st + z * b + sh.getD 0 0) :: sg st b sh (0 + 1) zs := rfl
    rw [e1] at hN ⊢
    rw [dF_asc _ i2 fun y hy => by
      obtain ⟨t, ht, rfl⟩ := List.mem_map.mp hy
      exact ⟨pnum_nonneg _ _ _, hN t ht⟩]
    rw [List.map_cons]
    exact i3
/-- edges in order, whatever the margins -/
theorem sg_asc (hl : 50 ≤ l) (hb : l ≤ b) (hj : 0 ≤ j ∧ 2 * j < l) (hsh : ∀ s ∈ sh, -j ≤ s ∧ s ≤ j) :
    ∀ (zs : List Int) (z : Int) (k : Nat), (∀ r ∈ gp z zs, 1 ≤ r) → ((st + z * b + sh.getD k 0) :: sg st b sh (k + 1) zs).Pairwise (· < ·) := by
  have hsd : ∀ k, -j ≤ sh.getD k 0 ∧ sh.getD k 0 ≤ j := fun k => by
    rw [List.getD_eq_getElem?_getD]
    cases e : sh[k]? with
    | none => simp; omega
    | some x => exact hsh x (List.mem_of_getElem? e)
  intro zs
  induction zs with
  | nil => intro z k _; exact List.pairwise_singleton _ _
  | cons z2 zs ih =>
    intro z k hr
    have hg : gp z (z2 :: zs) = (z2 - z) :: gp z2 zs := rfl
    rw [hg] at hr
    have hr1 := hr (z2 - z) (by simp)
    have i1 := ih z2 (k + 1) fun r h => hr r (by simp [h])
    have s0 := hsd k
    have s1 := hsd (k + 1)
    have eb : z2 * b - z * b = (z2 - z) * b := by rw [Int.sub_mul]
    have m0 := Int.mul_le_mul_of_nonneg_right hr1 (show 0 ≤ b by omega)
    have hlt : st + z * b + sh.getD k 0 < st + z2 * b + sh.getD (k + 1) 0 := by omega
    have e1 : sg st b sh (k + 1) (z2 :: zs) = (st + z2 * b + sh.getD (k + 1) 0) :: sg st b sh (k + 1 + 1) zs := rfl
    rw [e1]
    refine List.pairwise_cons.mpr ⟨fun y hy => ?_, i1⟩
    rcases List.mem_cons.mp hy with e | h
    · rw [e]; exact hlt
    · exact Int.lt_trans hlt ((List.pairwise_cons.mp i1).1 y h)
theorem sg_bound {M : Int} (hb : 0 ≤ b ∧ b ≤ 2000) (hst : st ≤ 4000) (hsh : ∀ s ∈ sh, -500 ≤ s ∧ s ≤ 500) (hM : 0 ≤ M) : ∀ (zs : List Int) (k : Nat), (∀ z ∈ zs, 0 ≤ z ∧ z ≤ M) → ∀ t ∈ sg st b sh k zs, t ≤ 4500 + M * 2000
  | [], _, _, t, h => by cases h
  | z :: zs, k, hz, t, h => by
    have hsd : sh.getD k 0 ≤ 500 := by
      rw [List.getD_eq_getElem?_getD]
      cases e : sh[k]? with
      | none => simp
      | some x => exact (hsh x (List.mem_of_getElem? e)).2
    rcases List.mem_cons.mp h with e | h
    · have h1 := hz z (by simp)
      have : z * b ≤ M * 2000 := Int.mul_le_mul h1.2 hb.2 hb.1 hM
      omega
    · exact sg_bound hb hst hsh hM zs (k + 1) (fun y hy => hz y (by simp [hy])) t h
end
/-- margins lie between those of the ends -/
theorem ma_between {l g j p q r m : Int} (h1 : 0 ≤ maE l j p q 1 ∧ 0 ≤ maL g j p q 1) (h2 : 0 ≤ maE l j p q m ∧ 0 ≤ maL g j p q m) (hr : 1 ≤ r ∧ r ≤ m) : 0 ≤ maE l j p q r ∧ 0 ≤ maL g j p q r := by
  have lin : ∀ {A a : Int}, 0 ≤ A → 0 ≤ A + (m - 1) * a → 0 ≤ A + (r - 1) * a := fun {A a} h1 h2 => by
    rcases Int.lt_or_le a 0 with h | h
    · have : (m - 1) * a ≤ (r - 1) * a := Int.mul_le_mul_of_nonpos_right (by omega) (by omega)
      omega
    · have := Int.mul_nonneg (show 0 ≤ r - 1 by omega) h
      omega
  have eE : ∀ r, maE l j p q r = maE l j p q 1 + (r - 1) * (l - p * q) := fun r => by
    unfold maE
    rw [moP_eq, moP_eq]
    grind
  have eL : ∀ r, maL g j p q r = maL g j p q 1 + (r - 1) * (p * q - g) := fun r => by
    unfold maL
    rw [moP_eq, moP_eq]
    grind
  have a1 := eE m
  have a2 := eL m
  rw [eE r, eL r]
  exact ⟨lin h1.1 (by omega), lin h1.2 (by omega)⟩
theorem rp1 (n : Int) : repL [49] n = ones n.toNat := repL_one 49 n
theorem stF_cons (L k c : Nat) (r : List Nat) : stF L k (c :: r) = if c = 49 then (if k + 1 = L then 49 :: 48 :: stF L 0 r else 49 :: stF L (k + 1) r) else c :: stF L 0 r := by rw [stF]
theorem stF_nil (L k : Nat) : stF L k [] = [] := by rw [stF]
end DL

namespace DL
open PySem PySem.Spec PyProof.Rows L2
/-! ## a dict of whole numbers, in a slot of its own -/
abbrev IM := List (Int × Int)
def kvD (m : IM) : List (Key × V) := m.map fun q => ((Sum.inl q.1 : Key), V.int q.2)
def look (m : IM) (k : Int) : Option Int := (m.find? fun q => decide (q.1 = k)).map (·.2)
def put (m : IM) (k v : Int) : IM := if (m.any fun q => decide (q.1 = k)) = true then m.map (fun q => if q.1 = k then (q.1, v) else q) else m ++ [(k, v)]
theorem valV_kvD (k : Int) : ∀ m : IM, valV (kvD m) (Sum.inl k) = (look m k).map V.int
  | [] => rfl
  | q :: r => by
    by_cases h : q.1 = k
    · have h2 : ((Sum.inl q.1 : Key), V.int q.2).1 = Sum.inl k := congrArg Sum.inl h
      show valV (_ :: kvD r) _ = _
      rw [valV_pos h2]
      unfold look
      rw [List.find?_cons_of_pos (by simpa using h)]
      rfl
    · have h2 : ¬ ((Sum.inl q.1 : Key), V.int q.2).1 = Sum.inl k := fun e => h (Sum.inl.inj e)
      show valV (_ :: kvD r) _ = _
      rw [valV_neg h2, valV_kvD k r]
      unfold look
      rw [List.find?_cons_of_neg (by simpa using h)]
theorem putK_kvD (m : IM) (k v : Int) : putK (kvD m) (Sum.inl k) (V.int v) = kvD (put m k v) := by
  have e : ((kvD m).any fun kv => decide (kv.1 = (Sum.inl k : Key))) = m.any fun q => decide (q.1 = k) := by
    unfold kvD
    rw [List.any_map]
    congr 1
    funext q
    by_cases h : q.1 = k
    · simp [h]
    · simp [h]
  unfold putK put
  rw [e]
  by_cases h : (m.any fun q => decide (q.1 = k)) = true
  · rw [if_pos h, if_pos h]
    unfold kvD
    rw [List.map_map, List.map_map]
    refine List.map_congr_left fun q _ => ?_
    by_cases h2 : q.1 = k
    · simp [h2]
    · simp [h2]
  · rw [if_neg h, if_neg h]
    unfold kvD
    rw [List.map_append]
    rfl
theorem kvD_length (m : IM) : (kvD m).length = m.length := List.length_map _
section
variable {X : Cx} {ρ ρ' : Envi} {pos : Pos} {s : Stmt} {ss : List Stmt} {st : List (List Stmt)} {i : Nat}
structure PostD (K : PySem.W.Frag) (i : Nat) (p : Addr) (G0 H0 : Hp) (D : Ends) (O : IM → Out → Prop) : Prop where
  nx : ∀ m ρ σ G H, O m (.nx ρ) → SR K G0 H0 ρ G H σ → σ[i]? = some (some (.ref p)) → H p = some (.dK (kvD m)) → G p = none → D.nx σ H
  rt : ∀ m d v G H, O m (.rt d) → Frm G0 H0 G H → Dp K G v d → D.rt v H
/-- the blocks from ρ on, where slot i holds the dict m -/
def BksD (X : Cx) (i : Nat) (m : IM) (ρ : Envi) (st : List (List Stmt)) (O : IM → Out → Prop) : Prop := ∀ p G0 H0 G H σ D, SR X.K G0 H0 ρ G H σ → σ[i]? = some (some (.ref p)) → H p = some (.dK (kvD m)) → G p = none → H0 p = none → PostD X.K i p G0 H0 D O → wK X st D σ H
theorem bkD_end {m : IM} {O : IM → Out → Prop} (h : O m (.nx ρ)) : BksD X i m ρ [] O := fun p G0 H0 G H σ D S h1 h2 h3 h4 P => P.nx m ρ σ G H h S h1 h2 h3
theorem bkD_nil {m : IM} {O : IM → Out → Prop} (h : BksD X i m ρ st O) : BksD X i m ρ ([] :: st) O := fun p G0 H0 G H σ D S h1 h2 h3 h4 P => wB_of pss_nil (h p G0 H0 G H σ D S h1 h2 h3 h4 P)
theorem frm_dict {G H G' H' : Hp} (f : Frm G H G' H') {p : Addr} {o : HO} (h2 : H p = some o) (h3 : G p = none) : H' p = some o ∧ G' p = none := ⟨f.h _ _ h2, (f.n _ _ h2).trans h3⟩
/-- name = e beside the dict -/
theorem bkD_set {m : IM} {O : IM → Out → Prop} {j : Nat} {x : Str} {e : Expr} {pos' : Pos} {d : D} (he : Ev X ρ e d) (hN : X.N.Nodup) (hi : X.N[j]? = some x) (hx : Loc X.env.scope x) (hij : j ≠ i)
    (hs : swapsWith e (some (.Name x pos')) pos.line X.env = pure false) (hf : X.fn x = true ∨ X.env.scope.names.lookup x = some .local)
    (h : BksD X i m (ρ.set j (.dat d)) (ss :: st) O) : BksD X i m ρ ((.Assign [.Name x pos'] e pos :: ss) :: st) O := fun p G0 H0 G H σ D S h1 h2 h3 h4 P =>
  wB_of (pss_cons ps_w pss_w) (wS_of (ps_set hN hi hx pe_w hs hf) (he σ G H _ S.env fun v G1 H1 f1 hv => by
    obtain ⟨k2, k3⟩ := frm_dict f1 h2 h3
    exact h p G0 H0 G1 H1 _ D ((S.go f1).tg ((S.env.frm f1).set hv j) (KeepO.set S.env.len)) (by rw [List.getElem?_set_ne hij]; exact h1) k2 k3 h4 P))
/-- an expression that reads the dict -/
def EvD (X : Cx) (i : Nat) (m : IM) (ρ : Envi) (e : Expr) (d : D) : Prop := ∀ p σ G H Q, EnvR X.K G H σ ρ → σ[i]? = some (some (.ref p)) → H p = some (.dK (kvD m)) → G p = none → (∀ v G' H', Frm G H G' H' → Dp X.K G' v d → Q v H') → wE X e σ H Q
theorem evD_of {m : IM} {e : Expr} {d : D} (h : Ev X ρ e d) : EvD X i m ρ e d := fun p σ G H Q E _ _ _ k => h σ G H Q E k
theorem evD_get {m : IM} {x : Str} {e z : Expr} {px apos cpos : Pos} {k c : Int} (hN : X.N[i]? = some x) (hv : Vis X.env.scope x) (he : Ev X ρ e (.int k)) (hz : Ev X ρ z (.int c)) (hu : X.A.units + 1 < cLine)
    (M : M2 X (.Name x px) "get" apos e z cpos) (hd : (x == ("__debug__" : Str)) = false) (hcd : (x == ("__classdict__" : Str)) = false) :
    EvD X i m ρ (.Call (.Attribute (.Name x px) "get" apos) [e, z] [] cpos) (.int ((look m k).getD c)) := fun p σ G H Q E h1 h2 h3 kk => by
  refine wE_of (pe_dget2 hu (pe_var hN hv hd hcd) pe_w pe_w M) ⟨.ref p, h1, p, rfl, .inl ⟨_, .inl h2⟩, he σ G H _ E fun y G1 H1 f1 hy => hz σ G1 H1 _ (E.frm f1) fun w G2 H2 f2 hw => ?_⟩
  cases hy
  cases hw
  have f := f1.trans f2
  refine ⟨valV (kvD m) (Sum.inl k), DGet.k (k := Sum.inl k) (f.h _ _ h2), ?_⟩
  rw [valV_kvD]
  have e : ((look m k).map V.int).getD (.int c) = V.int ((look m k).getD c) := by cases look m k <;> rfl
  rw [e]
  exact kk _ G2 H2 f (.int _)
theorem evD_add {m : IM} {a b : Expr} {j k : Int} (ha : EvD X i m ρ a (.int j)) (hb : Ev X ρ b (.int k)) : EvD X i m ρ (.BinOp a .Add b pos) (.int (j + k)) := fun p σ G H Q E h1 h2 h3 kk => by
  obtain ⟨r, hop, F⟩ := (bin_add (X := X) (i := j) (j := k))
  refine wE_of (pe_op hop pe_w pe_w) (ha p σ G H _ E h1 h2 h3 fun y G1 H1 f1 hy => hb σ G1 H1 _ (E.frm f1) fun w G2 H2 f2 hw => ?_)
  exact F _ _ G2 H2 _ f2.s (Dp.same f2.g hy) hw (Gets.frm kk (f1.trans f2))
/-- d[k] = e -/
theorem bkD_put {m : IM} {O : IM → Out → Prop} {x : Str} {b e : Expr} {px pos' : Pos} {k c : Int} (he : EvD X i m ρ e (.int c)) (hb : Ev X ρ b (.int k)) (hN : X.N[i]? = some x) (hv : Vis X.env.scope x) (hz : m.length < sizeLine) (hu : X.A.units + 1 < cLine)
    (hs : swapsWith e (some (.Subscript (.Name x px) b pos')) pos.line X.env = pure false) (hd : (x == ("__debug__" : Str)) = false) (hcd : (x == ("__classdict__" : Str)) = false)
    (h : BksD X i (put m k c) ρ (ss :: st) O) : BksD X i m ρ ((.Assign [.Subscript (.Name x px) b pos'] e pos :: ss) :: st) O := fun p G0 H0 G H σ D S h1 h2 h3 h4 P =>
  wB_of (pss_cons ps_w pss_w) (wS_of (ps_dput hu (pe_var hN hv hd hcd) pe_w pe_w hs) (he p σ G H _ S.env h1 h2 h3 fun y G1 H1 f1 hy => ⟨.ref p, h1, hb σ G1 H1 _ (S.env.frm f1) fun w G2 H2 f2 hw => by
    cases hy
    cases hw
    have f := f1.trans f2
    obtain ⟨k2, k3⟩ := frm_dict f h2 h3
    refine ⟨p, _, rfl, DPut.k (k := Sum.inl k) k2 (by rw [kvD_length]; exact hz), ?_⟩
    rw [putK_kvD]
    have E2 := S.env.frm f
    have hne : ∀ a o, G2 a = some o → a ≠ p := fun a o e z => by subst z; rw [k3] at e; cases e
    have hown : ∀ a vs, H2 a = some (.lst vs) → a ≠ p := fun a vs e z => by subst z; rw [k2] at e; cases e
    have S2 := S.go f
    refine h p G0 H0 G2 (L2.upd H2 p (.dK (kvD (put m k c)))) σ D ⟨⟨fun a o e => by rw [upd_ne (hne a o e)]; exact E2.s _ _ e, E2.len, E2.dat, fun j ds e => ?_, E2.inj, E2.raw⟩, ⟨S2.frm.g, fun a o e => by rw [upd_ne (ne_of_none e h4)]; exact S2.frm.h _ _ e, fun a o e => by rw [upd_ne (hne a o e)]; exact E2.s _ _ e, S2.frm.n⟩, S2.new⟩ h1 upd_same k3 h4 P
    obtain ⟨a, vs, q1, q2, q3, q4⟩ := E2.own j ds e
    exact ⟨a, vs, q1, by rw [upd_ne (hown a vs q2)]; exact q2, q3, q4⟩⟩))
/-- name = {} -/
theorem bk_dict {O : Out → Prop} {x : Str} {pos' pd : Pos} (hN : X.N.Nodup) (hi : X.N[i]? = some x) (hx : Loc X.env.scope x) (hl : i < ρ.length)
    (hs : swapsWith (.Dict [] [] pd) (some (.Name x pos')) pos.line X.env = pure false) (hf : X.fn x = true ∨ X.env.scope.names.lookup x = some .local)
    (h : BksD X i [] (ρ.set i .un) (ss :: st) (fun _ => O)) : Bks X ρ ((.Assign [.Name x pos'] (.Dict [] [] pd) pos :: ss) :: st) O := fun G0 H0 G H σ D S P =>
  wB_of (pss_cons ps_w pss_w) (wS_of (ps_set hN hi hx pe_dnewK hs hf) fun p hp => by
    have f : Frm G H G (L2.upd H p (.dK [])) := Frm.priv S.env.s hp
    have E1 := (S.env.frm f).un i (some (.ref p))
    have key : ∀ (j : Nat) (ds : List PyData), (ρ.set i .un)[j]? = some (.own ds) → i ≠ j ∧ ρ[j]? = some (.own ds) := fun j ds e => by
      by_cases z : i = j
      · subst z
        rw [List.getElem?_set_self hl] at e
        cases e
      · rw [List.getElem?_set_ne z] at e
        exact ⟨z, e⟩
    refine h p G0 H0 G _ _ D ⟨E1, S.frm.trans f, fun j ds a e1 e2 => ?_⟩ (List.getElem?_set_self (by rw [S.env.len]; exact hl)) upd_same (S.env.s.free hp) (S.frm.h.free hp) ⟨fun m ρ σ G H o S _ _ _ => P.nx ρ σ G H o S, fun m d v G H o f hv => P.rt d v G H o f hv⟩
    obtain ⟨z, e1⟩ := key j ds e1
    rw [List.getElem?_set_ne z] at e2
    exact S.new j ds a e1 e2)
/-- a loop beside the dict -/
theorem bkD_for {x : Str} {px : Pos} {j : Nat} {it : Expr} {bd : List Stmt} {ds : List D} {m0 : IM} {O : IM → Out → Prop} (P : Nat → IM → Envi → Prop) (hi : Iter X ρ (.Name x px) it ds) (h0 : P 0 m0 ρ) (hij : j ≠ i) (hN : X.N.Nodup) (hj : X.N[j]? = some x) (hx : Loc X.env.scope x) (hf : X.fn x = true ∨ X.env.scope.names.lookup x = some .local)
    (body : ∀ k m ρi d, ds[k]? = some d → P k m ρi → BksD X i m (ρi.set j (.dat d)) [bd] (fun m' o => match o with | .nx r => P (k + 1) m' r | _ => False))
    (after : ∀ m r, P ds.length m r → BksD X i m r (ss :: st) O) (hc : X.calm = true) (hp : PassesOwn (model X.prog X.w) X.A X.env X.xe) (hs : ∀ x, foldedSetIterable it X.env x = pure x) :
    BksD X i m0 ρ ((.For (.Name x px) it bd [] pos :: ss) :: st) O := fun p G0 H0 G H σ D S h1 h2 h3 h4 Po => by
  refine wB_of (pss_cons (ps_for hp hc pi_w (pg_name hN hj hx hf) pss_w hs) pss_w) (hi σ G H _ S.env fun J G1 H1 f1 hJ => ?_)
  obtain ⟨k2, k3⟩ := frm_dict f1 h2 h3
  refine ⟨fun i' n σ' H' => n = ds.length - i' ∧ i' ≤ ds.length ∧ ∃ m r G', P i' m r ∧ SR X.K G0 H0 r G' H' σ' ∧ Same G1 G' ∧ σ'[i]? = some (some (.ref p)) ∧ H' p = some (.dK (kvD m)) ∧ G' p = none, ⟨_, rfl, Nat.zero_le _, m0, ρ, G1, h0, S.go f1, Same.refl _, h1, k2, k3⟩, ?_⟩
  rintro i' n σ2 H2 ⟨rfl, hle, m, r, G2, hP, S2, s2, q1, q2, q3⟩
  by_cases hlt : i' < ds.length
  · refine .inr ⟨hJ.go i' H2 (s2.trans S2.env.s) hlt, fun σ' H' => ∃ m r' G', P (i' + 1) m r' ∧ SR X.K G0 H0 r' G' H' σ' ∧ Same G1 G' ∧ σ'[i]? = some (some (.ref p)) ∧ H' p = some (.dK (kvD m)) ∧ G' p = none, fun σ' H' ⟨m, r', G', a, b, c⟩ => ⟨ds.length - (i' + 1), by omega, rfl, hlt, m, r', G', a, b, c⟩, fun x H3 hy => ?_⟩
    obtain ⟨G3, f3, hv⟩ := hJ.item i' G2 H2 x H3 ds[i'] s2 S2.env.s hy (List.getElem?_eq_getElem hlt)
    obtain ⟨q2', q3'⟩ := frm_dict f3 q2 q3
    have S4 : SR X.K G0 H0 (r.set j (.dat ds[i'])) G3 H3 (σ2.set j (some x)) := (S2.go f3).tg ((S2.env.frm f3).set hv j) (KeepO.set S2.env.len)
    have sg : Same G1 G3 := s2.trans f3.g
    refine body i' m r ds[i'] (List.getElem?_eq_getElem hlt) hP p G3 H0 G3 H3 _ { nx := fun σ' H' => ∃ m r' G', P (i' + 1) m r' ∧ SR X.K G0 H0 r' G' H' σ' ∧ Same G1 G' ∧ σ'[i]? = some (some (.ref p)) ∧ H' p = some (.dK (kvD m)) ∧ G' p = none, ct := fun σ' H' => ∃ m r' G', P (i' + 1) m r' ∧ SR X.K G0 H0 r' G' H' σ' ∧ Same G1 G' ∧ σ'[i]? = some (some (.ref p)) ∧ H' p = some (.dK (kvD m)) ∧ G' p = none, rt := D.rt, bk := wK X (ss :: st) D } S4.rebase (by rw [List.getElem?_set_ne hij]; exact q1) q2' q3' h4 ⟨fun m' r' σ5 G5 H5 o S5 a b c => ?_, fun m' d v G5 H5 o f5 hv5 => o.elim⟩
    exact ⟨m', r', G5, o, SR.unbase S4.frm S5, sg.trans S5.frm.g, a, b, c⟩
  · have e : i' = ds.length := by omega
    subst e
    exact .inl ⟨hJ.stop _ H2 (s2.trans S2.env.s) (Nat.le_refl _), after m r hP p G0 H0 G2 H2 σ2 D S2 q1 q2 q3 h4 Po⟩
theorem bkD_ret {m : IM} {O : IM → Out → Prop} {e : Expr} {d : D} (he : EvD X i m ρ e d) (h : O m (.rt d)) : BksD X i m ρ ((.Return (some e) pos :: ss) :: st) O := fun p G0 H0 G H σ D S h1 h2 h3 h4 P =>
  wB_of (pss_cons (ps_ret pe_w) pss_w) (he p σ G H _ S.env h1 h2 h3 fun v G1 H1 f1 hv => P.rt m d v G1 H1 h (S.frm.trans f1) hv)
/-- a fresh list of whole numbers, by an expression that reads the dict -/
def EvLD (X : Cx) (i : Nat) (m : IM) (ρ : Envi) (e : Expr) (ns : List Int) : Prop := ∀ p σ G H Q, EnvR X.K G H σ ρ → σ[i]? = some (some (.ref p)) → H p = some (.dK (kvD m)) → G p = none → (∀ a G' H', Frm G H G' H' → H' a = some (.lst (ns.map V.int)) → Q (.ref a) H') → wE X e σ H Q
/-- what a locked dict is -/
def frzS (m : IM) : Hp → V → Prop := fun G v => ∃ a o, v = .ref a ∧ G a = some (.frz o (.dK (kvD m)))
theorem evLD_lock {m : IM} {e : Expr} {ns : List Int} (hl : i < ρ.length) (hun : ρ[i]? = some .un) (he : EvL X (ρ.set i (.raw (frzS m))) e (ns.map .int)) : EvLD X i m ρ e ns := fun p σ G H Q E h1 h2 h3 k => by
  refine wE_of (pe_lock pe_w) ⟨p, _, h2, trivial, fun od => ?_⟩
  have hne : ∀ a o, G a = some o → a ≠ p := fun a o e z => by subst z; rw [h3] at e; cases e
  have hown : ∀ a vs, H a = some (.lst vs) → a ≠ p := fun a vs e z => by subst z; rw [h2] at e; cases e
  have sG : Same G (L2.upd G p (.frz od (.dK (kvD m)))) := same_upd h3
  have key : ∀ (j : Nat) (sv : SV), (ρ.set i (.raw (frzS m)))[j]? = some sv → (i = j ∧ sv = .raw (frzS m)) ∨ (i ≠ j ∧ ρ[j]? = some sv) := fun j sv e => by
    by_cases z : i = j
    · subst z
      rw [List.getElem?_set_self hl] at e
      cases e
      exact .inl ⟨rfl, rfl⟩
    · rw [List.getElem?_set_ne z] at e
      exact .inr ⟨z, e⟩
  have E1 : EnvR X.K (L2.upd G p (.frz od (.dK (kvD m)))) (L2.upd H p (.frz od (.dK (kvD m)))) σ (ρ.set i (.raw (frzS m))) := by
    refine ⟨fun a o e => ?_, by simp [E.len], fun j d e => ?_, fun j ds e => ?_, fun j j' ds es b e1 e2 e3 e4 => ?_, fun j φ e => ?_⟩
    · by_cases z : a = p
      · subst z; rw [upd_same] at e ⊢; exact e
      · rw [upd_ne z] at e ⊢; exact E.s _ _ e
    · rcases key j _ e with ⟨_, z⟩ | ⟨_, e⟩
      · cases z
      · obtain ⟨v, q1, q2⟩ := E.dat j d e
        exact ⟨v, q1, Dp.same sG q2⟩
    · rcases key j _ e with ⟨_, z⟩ | ⟨_, e⟩
      · cases z
      · obtain ⟨a, vs, q1, q2, q3, q4⟩ := E.own j ds e
        exact ⟨a, vs, q1, by rw [upd_ne (hown a vs q2)]; exact q2, by rw [upd_ne (hown a vs q2)]; exact q3, DpAll.same sG q4⟩
    · rcases key j _ e1 with ⟨_, z⟩ | ⟨_, e1⟩
      · cases z
      · rcases key j' _ e2 with ⟨_, z⟩ | ⟨_, e2⟩
        · cases z
        · exact E.inj j j' ds es b e1 e2 e3 e4
    · rcases key j _ e with ⟨rfl, z⟩ | ⟨_, e⟩
      · cases z
        exact ⟨fun G G' v s ⟨a, o, e1, e2⟩ => ⟨a, o, e1, s _ _ e2⟩, .ref p, h1, p, od, rfl, upd_same⟩
      · obtain ⟨q0, v, q1, q2⟩ := E.raw j φ e
        exact ⟨q0, v, q1, q0 _ _ _ sG q2⟩
  refine he σ _ _ _ E1 fun a vs G' H' f e1 e2 e3 e4 => ?_
  have e5 := DpAll.ints e4
  subst e5
  have hp' : H' p = some (.frz od (.dK (kvD m))) := f.h _ _ upd_same
  have hap : a ≠ p := fun z => by subst z; rw [upd_same] at e3; cases e3
  refine ⟨hp', k a (fun x => if x = p then none else G' x) (L2.upd H' p (.dK (kvD m))) ⟨fun x o e => ?_, fun x o e => ?_, fun x o e => ?_, fun x o e => ?_⟩ (by rw [upd_ne hap]; exact e1)⟩
  · rw [if_neg (hne x o e)]
    exact f.g _ _ (by rw [upd_ne (hne x o e)]; exact e)
  · by_cases z : x = p
    · subst z; rw [h2] at e; cases e; exact upd_same
    · rw [upd_ne z]; exact f.h _ _ (by rw [upd_ne z]; exact e)
  · by_cases z : x = p
    · rw [if_pos z] at e; cases e
    · rw [if_neg z] at e; rw [upd_ne z]; exact f.s _ _ e
  · by_cases z : x = p
    · rw [if_pos z, z, h3]
    · rw [if_neg z]
      exact (f.n x o (by rw [upd_ne z]; exact e)).trans (upd_ne z)
theorem iter_frz {m : IM} {x : Str} {tg : Expr} (h0 : ρ[i]? = some (.raw (frzS m))) (hN : X.N[i]? = some x) (hv : Vis X.env.scope x) (hd : (x == ("__debug__" : Str)) = false) (hcd : (x == ("__classdict__" : Str)) = false) : Iter X ρ tg (.Name x pos) (m.map fun q => PyData.int q.1) := fun σ G H R E k => by
  obtain ⟨_, v, q1, a, o, rfl, q2⟩ := E.raw i _ h0
  refine wI_of (pi_keys (pe_var hN hv hd hcd)) ⟨.ref a, q1, a, o, rfl, .inl ⟨_, E.s _ _ q2, k _ G H (.refl E.s) ⟨fun j H1 s hj => ⟨s _ _ q2, by rw [kvD_length]; simpa using hj⟩, fun j H1 s hj => ⟨s _ _ q2, by rw [kvD_length]; simpa using hj⟩, fun j G1 H1 y H2 d s1 s2 hy hd => ?_⟩⟩⟩
  obtain ⟨rfl, kk, vv, e1, rfl⟩ := hy
  unfold kvD at e1
  rw [List.getElem?_map] at e1 hd
  cases hm : m[j]? with
  | none => rw [hm] at hd; cases hd
  | some q =>
    rw [hm] at e1 hd
    cases e1
    cases hd
    exact ⟨G1, .refl s2, .int _⟩
theorem ev_frzIx {m : IM} {x : Str} {px : Pos} {b : Expr} {k c : Int} (h0 : ρ[i]? = some (.raw (frzS m))) (hb : Ev X ρ b (.int k)) (hk : look m k = some c) (hN : X.N[i]? = some x) (hv : Vis X.env.scope x) (hu : X.A.units + 1 < cLine) (hs : NoSl b) (hd : (x == ("__debug__" : Str)) = false) (hcd : (x == ("__classdict__" : Str)) = false) : Ev X ρ (.Subscript (.Name x px) b pos) (.int c) := fun σ G H Q E kk => by
  obtain ⟨_, v, q1, a, o, rfl, q2⟩ := E.raw i _ h0
  refine wE_of (pe_dget hu (pe_var hN hv hd hcd) pe_w hs) ⟨.ref a, q1, hb σ G H _ E fun y G1 H1 f1 hy => ?_⟩
  cases hy
  refine ⟨a, .int c, rfl, .inl ⟨kvD m, Sum.inl k, .inr ⟨o, f1.h _ _ (E.s _ _ q2)⟩, rfl, ?_⟩, kk _ G1 H1 f1 (.int _)⟩
  rw [valV_kvD, hk]
  rfl
/-- sorted([..]) -/
theorem evD_sorted {m : IM} {e : Expr} {p : Pos} {ns ms : List Int} (he : EvLD X i m ρ e ns) (hms : ∀ l : List Int, l.Perm ns → l.Pairwise (· ≤ ·) → l = ms) (hg : Gl X "sorted") (hm : X.mg "sorted" = none) (hs : starEach [e] X.env = (false, eval e X.env) :: starEach [] X.env) (hp : ((backTo pos (starEach [] X.env)).any (·.1)) = false) :
    EvD X i m ρ (.Call (.Name "sorted" p) [e] [] pos) (.list (ms.map .int)) := fun pp σ G H Q E h1 h2 h3 k =>
  wE_of (pe_callB cr_sortedI hg hm (by decide +kernel) (pa_cons pe_w pa_nil hs) (by decide) (by decide) hs hp) (he pp σ G H _ E h1 h2 h3 fun a G1 H1 f1 ha => by
    refine ⟨a, ns, rfl, SqL.of ha, fun l q hl1 hl2 hq => ?_⟩
    rw [hms l hl1 hl2]
    exact k _ _ _ (f1.trans (Frm.new f1.s hq)) (.lst (.inl (.inl upd_same)) (DpAll.ofInts _)))
end
end DL

namespace DL
open PySem PySem.Spec PyProof.Rows L2
/-! ## 42. tuple[::-1] -/
section
variable {prog : Program} {w : World} {A : Around} {E : Value → Shared → Prop} {s : Shared}
theorem fm_congr {α β : Type} {f g : α → Option β} : ∀ {l : List α}, (∀ x ∈ l, f x = g x) → l.filterMap f = l.filterMap g
  | [], _ => rfl
  | a :: l, h => by rw [List.filterMap_cons, List.filterMap_cons, h a (by simp), fm_congr fun x hx => h x (by simp [hx])]
theorem sliceApplied_rev {sl : Addr} {t : Tok} {n : Nat} {Q : Int × Int × Nat → Shared → Prop} (hs : s.heap.IsSliceOf sl .none .none (.int (-1) t))
    (h : Q ((n : Int) - 1, -1, n) s) : wpAny (model prog w) A (Builtin.Slice.sliceApplied (.ref sl) (pure (n : Int))) Q E s := by
  obtain ⟨os, hos, hcs, hds⟩ := id hs
  unfold Builtin.Slice.sliceApplied Builtin.Slice.sliceFields
  refine wpAny_bind (wpAny_bind (wpAny_field hos hds (x := .none) rfl (wpAny_bind (wpAny_field hos hds (x := .none) rfl (wpAny_bind (wpAny_field hos hds (x := .int (-1) t) rfl (wpAny_pure ?_)))))))
  refine wpAny_bind (HT.slicePart_ (.int (-1) t) ?_)
  show wpAny _ _ (if ((-1 : Int) == 0) = true then _ else _) _ _ s
  rw [if_neg (by decide)]
  refine wpAny_bind (HT.slicePart_ .none (wpAny_bind (HT.slicePart_ .none (wpAny_bind (wpAny_pure ?_)))))
  have e : Builtin.Slice.sliceAdjust none none (-1) (n : Int) = ((n : Int) - 1, -1) := rfl
  show wpAny _ _ (match Builtin.Slice.sliceAdjust none none (-1) (n : Int) with | (lo, hi) => pure (lo, (-1 : Int), Builtin.Slice.slicePlaces lo hi (-1))) _ _ s
  rw [e]
  show wpAny _ _ (pure ((n : Int) - 1, (-1 : Int), Builtin.Slice.slicePlaces ((n : Int) - 1) (-1) (-1))) _ _ s
  have e2 : Builtin.Slice.slicePlaces ((n : Int) - 1) (-1) (-1) = n := by
    unfold Builtin.Slice.slicePlaces
    rw [if_neg (by decide), show (- -1 : Int) = 1 from rfl, Int.ediv_one]
    split <;> omega
  rw [e2]
  exact wpAny_pure h
theorem getItem_tuple_rev {t sl : Addr} {items : Array Value} {u : Tok} {Q : Value → Shared → Prop} (ht : IsTup s.heap t items) (hs : s.heap.IsSliceOf sl .none .none (.int (-1) u))
    (h : Q (.ref s.heap.objs.size) { s with heap := s.heap.push { cls := .type "tuple", data := .seq items.toList.reverse.toArray } })
    (hsz : items.size ≤ sizeLine) : wpAny (model prog w) A (getItem (.ref t) (.ref sl)) Q E s := by
  have htake : sizeOk (.seq items.toList.reverse.toArray) := by
    show items.toList.reverse.toArray.size ≤ sizeLine
    rw [List.size_toArray, List.length_reverse, Array.length_toList]
    omega
  obtain ⟨os, hos, hcs, hds⟩ := id hs
  have hTs : s.TypeIs (.ref sl) "slice" := ⟨os, hos, hcs⟩
  unfold getItem
  try with_reducible refine wpAny_holding ?_
  first | refine wpAny_bind (wpAny_pure ?_) | skip
  refine wpAny_bind (wpAny_sequenceKey ht.typeIs (by decide) ?_)
  refine wpAny_bind (wpAny_callSpecial?_slot (name := Str.ofString "__getitem__") ht.typeIs PyProof.Rows.slot_tuple_getitem
    (wpAny_call_entry PyProof.Rows.slot_tuple_getitem ht.typeIs entry_tuple_getitem ?_ (args_tuple_getitem _ _)))
  show wpAny _ _ (Builtin.Tuple.tupleItemsOf (.ref t) >>= _) _ _ s
  refine wpAny_bind (tupleItemsOf_ ht ?_)
  refine wpAny_bind (wpAny_typeOf hTs ?_)
  rw [if_pos (by decide)]
  refine wpAny_bind (sliceApplied_rev hs ?_)
  have hno : ¬ ((((items.size : Int) - 1) == 0 && (-1 : Int) == 1 && items.size == items.size) = true) := by
    rw [show ((-1 : Int) == 1) = false from by decide, Bool.and_false, Bool.false_and]
    exact Bool.false_ne_true
  show wpAny _ _ (if (((items.size : Int) - 1) == 0 && (-1 : Int) == 1 && items.size == items.size) = true then _ else _) _ _ s
  have hp : ((List.range items.size).filterMap fun (m : Nat) => items[((items.size : Int) - 1 + (m : Int) * (-1)).toNat]?).toArray = items.toList.reverse.toArray := by
    refine congrArg List.toArray ?_
    have e : ((List.range items.size).filterMap fun (m : Nat) => items[((items.size : Int) - 1 + (m : Int) * (-1)).toNat]?) = (List.range items.size).filterMap fun (m : Nat) => items.toList.reverse[m]? := by
      refine fm_congr fun m hm => ?_
      have hm := List.mem_range.mp hm
      rw [List.getElem?_reverse (by simpa using hm), Array.getElem?_toList, Array.length_toList]
      congr 1
      omega
    rw [e]
    have h2 : items.toList.reverse.length = items.size := by simp
    have h3 : ∀ l : List Value, (List.range l.length).filterMap (fun m => l[m]?) = l := fun l => by
      refine List.ext_getElem? fun i => ?_
      have e3 : (List.range l.length).filterMap (fun m => l[m]?) = l := by
        induction l with
        | nil => rfl
        | cons a l ih =>
          rw [List.length_cons, List.range_succ_eq_map, List.filterMap_cons]
          simp only [List.getElem?_cons_zero, List.filterMap_map]
          congr 1
      rw [e3]
    rw [← h2]
    exact h3 _
  rw [if_neg hno, hp]
  first
    | exact wpAny_bind (m := Builtin.Tuple.tupleExact _) (wpAny_newObj_type (wpAny_pure ⟨_, rfl, wpAny_pure h⟩) htake)
    | exact wpAny_bind (m := Builtin.Tuple.tupleExact _) (wpAny_newObj_type (wpAny_bind (wpAny_pure (wpAny_pure ⟨_, rfl, wpAny_pure h⟩))) htake)
    | exact wpAny_bind (wpAny_bind (m := Builtin.Tuple.tupleExact _) (wpAny_newObj_type (wpAny_pure (wpAny_pure ⟨_, rfl, wpAny_pure h⟩)) htake))
    | exact wpAny_bind (wpAny_bind (m := Builtin.Tuple.tupleExact _) (wpAny_newObj_type (wpAny_pure ⟨_, rfl, wpAny_pure h⟩) htake))
end
section
variable {X : Cx} {ρ : Envi} {pos : Pos}
def tRevT (K : PySem.W.Frag) (te : TE) : TE := fun σ H Q => te σ H fun x H1 => ∃ a xs, x = .ref a ∧ SqT K H1 a xs ∧ ∀ p, H1 p = none → Q (.ref p) (upd H1 p (.tup xs.reverse))
theorem vals_rev : ∀ {xs : List V} {us : List Value}, Vals xs us → Vals xs.reverse us.reverse
  | _, _, .nil => .nil
  | _, _, .cons r1 r2 => by
    rw [List.reverse_cons, List.reverse_cons]
    exact (vals_rev r2).append (.cons r1 .nil)
theorem pe_revT {e : Expr} {te : TE} {k : Nat} {p1 p2 p3 pos : Pos} (he : PE X e te) : PE X (.Subscript e (.Slice none none (some (.UnaryOp .USub (.Constant (.int 1) k p1) p2)) p3) pos) (tRevT X.K te) := by
  refine ⟨fun pins s σ H Q I h => ?_⟩
  refine Subscript_ (thn (he.run pins s σ H _ I h) fun v s1 ⟨x, H1, I1, r1, q1⟩ => ?_)
  obtain ⟨a, xs, ex, hx, q⟩ := q1
  subst ex
  cases r1
  have hst : PO X (some (.UnaryOp .USub (.Constant (.int 1) k p1) p2)) (tPart (tUn (rU fun i => .int (-i)) (tC (.int 1)))) := po_some (pe_un un_neg pe_int)
  refine wpAny_Slice (thn (po_none.run pins s1 σ H1 (fun o H2 => o = none ∧ H2 = H1) I1 ⟨rfl, rfl⟩) fun vl s2 ⟨l, H2, I2, pl, el, e2⟩ => ?_)
  subst el e2
  refine thn (po_none.run pins s2 σ H2 (fun o H3 => o = none ∧ H3 = H2) I2 ⟨rfl, rfl⟩) fun vu s3 ⟨u, H3, I3, pu, eu, e3⟩ => ?_
  subst eu e3
  refine thn (hst.run pins s3 σ H3 (fun o H4 => o = some (-1) ∧ H4 = H3) I3 ⟨1, rfl, -1, rfl, rfl, rfl⟩) fun vs s4 ⟨o, H4, I4, ps, eo, e4⟩ => ?_
  subst eo e4
  have I5 : Inv X pins σ H4 { s4 with heap := s4.heap.push { cls := .type "slice", data := .fields #[vl, vu, vs] } } := I4.kept (t' := s4.toks) fun b ob q => Heap.get?_push_of_some _ q
  cases pl
  cases pu
  obtain ⟨u, rfl⟩ : ∃ u, vs = .int (-1) u := by
    cases ps with
    | int i t => exact ⟨t, rfl⟩
  obtain ⟨its, r, ht, hz⟩ := I5.tuple hx
  show wpAny (model X.prog X.w) X.A (subscriptTail e (.Slice none none (some (.UnaryOp .USub (.Constant (.int 1) k p1) p2)) p3) (.ref a) (.ref s4.heap.objs.size)) (EP X pins σ Q) X.xe _
  refine tail_any (ops := [.ref a, .ref s4.heap.objs.size]) ht.typeIs (PyProof.Rows.slot_tuple_getitem.lookup) ?_ (by with_unfolding_all rfl)
  refine getItem_tuple_rev ht (Heap.IsSliceOf.new ..) ?_ (by rw [List.size_toArray, ← r.length]; exact hz)
  refine ⟨.ref _, _, I5.laid (t' := s4.toks) (o := .tup xs.reverse) (fun b ob q => Heap.get?_push_of_some _ q) (Nat.le_refl _) ?_, rfl, q _ (I5.hok.fresh (Nat.le_refl _))⟩
  exact ⟨by rw [List.length_reverse]; exact hz, _, vals_rev r, IsTup.new _ _⟩
theorem dpall_rev {K : PySem.W.Frag} {G : Hp} : ∀ {ds : List D} {vs : List V}, DpAll K G vs ds → DpAll K G vs.reverse ds.reverse
  | _, _, .nil => .nil
  | _, _, .cons r1 r2 => by
    rw [List.reverse_cons, List.reverse_cons]
    exact DpAll.append (dpall_rev r2) (.cons r1 .nil)
theorem ev_revT {e : Expr} {ds : List D} {k : Nat} {p1 p2 p3 : Pos} (he : Ev X ρ e (.tuple ds)) : Ev X ρ (.Subscript e (.Slice none none (some (.UnaryOp .USub (.Constant (.int 1) k p1) p2)) p3) pos) (.tuple ds.reverse) := fun σ G H Q E kk =>
  wE_of (pe_revT pe_w) (he σ G H _ E fun v G1 H1 f1 hv => by
    cases hv with
    | tup hs ha =>
      exact ⟨_, _, rfl, Same.tupq f1.s hs, fun p hp => kk _ _ _ (f1.trans (Frm.new f1.s hp)) (.tup (.inl (.inl upd_same)) (DpAll.same (same_upd (f1.s.free hp)) (dpall_rev ha)))⟩)
/-! ## 43. a, b = a list -/
theorem tg_unlF {es : List Expr} {n : Nat} {ds : List D} {ρ' : Envi} {is : List Nat} (hc : X.calm = true) (h : Tgs X es ds ρ ρ' is) (hn : (assignEach es X.env).length = ds.length) (hf : List.findIdx? (fun x => x.1) (assignEach es X.env) = none) :
    Tg X (.Tuple es n pos) (.list ds) ρ ρ' is := fun σ G H v Q E hv k => by
  cases hv with
  | lst hs ha => exact wG_of (pg_unl hc pgs_w hn hf) ⟨_, _, rfl, E.s.seq hs, DpAll.length ha, h σ G H _ _ E ha k⟩
end
end DL

namespace DL
open PySem PySem.Spec PyProof.Rows L2
/-! ## 44. list.index of whole numbers; five things together -/
section
variable {X : Cx} {ρ : Envi} {pos : Pos}
theorem ev_lindexI {e a : Expr} {apos cpos : Pos} {ns : List Int} {k : Int} {j : Nat} (he : Ev X ρ e (.list (ns.map .int))) (ha : Ev X ρ a (.int k)) (hj : ns[j]? = some k) (hno : ∀ m, m < j → ns[m]? ≠ some k)
    (h2 : ((((backTo cpos (starEach [a] X.env)).all fun x => !x.1) && (backToKw cpos (keywordEach [] X.env)).all fun x => x.1.isSome) && decide (([a] : List Expr).length + ([] : List Keyword).length + (if ([] : List Keyword).isEmpty = true then 0 else 1) < 30)) = true)
    (hb : attributeBase e "index" X.env (eval e X.env) = eval e X.env)
    (hl : (apos.endLine == cpos.line) = true) (hs : starEach [a] X.env = (false, eval a X.env) :: starEach [] X.env) (h5 : ((backTo cpos (starEach [] X.env)).any fun x => x.1) = false) :
    Ev X ρ (.Call (.Attribute e "index" apos) [a] [] cpos) (.int ((j : Nat) : Int)) := fun σ G H Q E kk => by
  refine wE_of (pe_bm PySem.F.plainAttrs_list PySem.F.slot_list_index PySem.F.type_list_index mt_index pe_w pa_w hb h2 hl hs h5) (he σ G H _ E fun x G1 H1 f1 hx => ?_)
  cases hx with
  | lst hq hd =>
    have e2 := DpAll.ints hd
    subst e2
    refine ⟨.inl ⟨rfl, _, f1.s.seq hq⟩, evs_cons ha evs_nil hs σ G1 H1 _ (E.frm f1) fun us G2 H2 f2 hu => ?_⟩
    obtain ⟨u, rfl, hu1⟩ := DpAll.one hu
    cases hu1
    refine ⟨_, _, _, j, .int k, rfl, rfl, f2.h.seq (f1.s.seq hq), rfl, flat_ints ns, ?_, ?_, fun m z hm hz => ?_, ?_⟩
    · rw [List.getElem?_map, hj]
      rfl
    · show decide (k = k) = true
      exact decide_eq_true rfl
    · rw [List.getElem?_map] at hz
      cases e : ns[m]? with
      | none => rw [e] at hz; cases hz
      | some y =>
        rw [e] at hz
        cases hz
        have : y ≠ k := fun q => hno m hm (by rw [e, q])
        show decide (y = k) = false
        exact decide_eq_false this
    · exact kk _ G2 H2 (f1.trans f2) (.int _)
end
theorem Emb.five {α β γ δ ε : Type} [DecidableEq α] [DecidableEq β] [DecidableEq γ] [DecidableEq δ] [DecidableEq ε] {g : α → D} {h : β → D} {i : γ → D} {o : δ → D} {u : ε → D} {p : α → Prop} {q : β → Prop} {r : γ → Prop} {s : δ → Prop} {t : ε → Prop} {k l m n z : Nat} (E : Emb g p k) (F : Emb h q l) (I : Emb i r m) (O : Emb o s n) (U : Emb u t z) :
    Emb (fun x : α × β × γ × δ × ε => PyData.tuple [g x.1, h x.2.1, i x.2.2.1, o x.2.2.2.1, u x.2.2.2.2]) (fun x => p x.1 ∧ q x.2.1 ∧ r x.2.2.1 ∧ s x.2.2.2.1 ∧ t x.2.2.2.2) (max k (max l (max m (max n z))) + 1) :=
  ⟨fun x hx => by rw [PyData.canLay0, PyData.canLayAll0, PyData.canLayAll0, PyData.canLayAll0, PyData.canLayAll0, PyData.canLayAll0, PyData.canLayAll0, E.lay _ hx.1, F.lay _ hx.2.1, I.lay _ hx.2.2.1, O.lay _ hx.2.2.2.1, U.lay _ hx.2.2.2.2]; rfl,
   fun x => by
    rw [PyData.depth, PyData.depthAll, PyData.depthAll, PyData.depthAll, PyData.depthAll, PyData.depthAll, PyData.depthAll]
    have h1 := E.dep x.1
    have h2 := F.dep x.2.1
    have h3 := I.dep x.2.2.1
    have h4 := O.dep x.2.2.2.1
    have h5 := U.dep x.2.2.2.2
    omega,
   fun x y => by
    rw [PyData.eqv, PyData.eqvAll, PyData.eqvAll, PyData.eqvAll, PyData.eqvAll, PyData.eqvAll, PyData.eqvAll, E.eq, F.eq, I.eq, O.eq, U.eq]
    obtain ⟨a, b, e, a2, b2⟩ := x
    obtain ⟨c, d, f, c2, d2⟩ := y
    by_cases h1 : a = c <;> by_cases h2 : b = d <;> by_cases h3 : e = f <;> by_cases h4 : a2 = c2 <;> by_cases h5 : b2 = d2 <;> simp [h1, h2, h3, h4, h5]⟩
end DL

namespace DL
open PySem PySem.Spec PyProof.Rows L2
/-! ## 45. list(zip(a, b)) -/
theorem zip_no_len : typeLookup (.type "zip") "__len__" = pure none := by rw [typeLookup_type, builtinLookup_eq_fast]; kernel_rfl
theorem zip_no_hint : typeLookup (.type "zip") "__length_hint__" = pure none := by rw [typeLookup_type, builtinLookup_eq_fast]; kernel_rfl
section
variable {prog : Program} {w : World} {A : Around} {R : Result → Shared → Prop} {I : Addr} {n : Nat} {J : Nat → Shared → Prop} {Jd : Shared → Prop}
/-- list.extend.loop, turn by turn, with what is known at each -/
theorem extend_loopJ (S : Addr) (res : Value)
    (item : ∀ (i : Nat) (s : Shared) (Q : Option Value → Shared → Prop) (E : Value → Shared → Prop), i < n → J i s →
      (∀ (v : Value) (s' : Shared) (acc : Array Value) (c : Nat), s'.heap.get? S = some { cls := .type "list", dict := none, data := .seq acc c, slots := #[] } → acc.size < sizeLine → J (i + 1) { s' with heap := s'.heap.update S (Obj.mapSeq (·.push v)) } → Q (some v) s') → wpAny (model prog w) A.in1 (pyNext (.ref I)) Q E s)
    (done : ∀ (s : Shared) (Q : Option Value → Shared → Prop) (E : Value → Shared → Prop), J n s → (∀ s', Jd s' → Q none s') → wpAny (model prog w) A.in1 (pyNext (.ref I)) Q E s)
    (hR : ∀ s', Jd s' → R (.ok (.ret res)) s') :
    ∀ (k i : Nat) (s : Shared), n - i = k → i ≤ n → J i s → codeAny (model prog w) A (.builtin "list.extend.loop" ⟨[.ref S, .ref I, res], []⟩) R s := by
  intro k
  induction k with
  | zero =>
    intro i s hk hi hst
    have hin : i = n := by omega
    subst hin
    refine codeAny_builtin F.entry_extend_loop ?_
    rw [Around.under_plainId F.plain_extend_loop _]
    show wpAny _ A.in1 (pyNext (.ref I) >>= _) _ _ s
    refine wpAny_bind (done s _ _ hst fun s' hm => ?_)
    exact wpAny_pure (hR s' hm)
  | succ k ih =>
    intro i s hk hi hst
    have hlt : i < n := by omega
    refine codeAny_builtin F.entry_extend_loop ?_
    rw [Around.under_plainId F.plain_extend_loop _]
    show wpAny _ A.in1 (pyNext (.ref I) >>= _) _ _ s
    refine wpAny_bind (item i s _ _ hlt hst fun v s' acc c hS hz hJ => ?_)
    show wpAny _ A.in1 (updateSeq S (·.push v) >>= _) _ _ _
    refine wpAny_bind ?_
    exact wpAny_updateSeq hS rfl (wpAny_pure ⟨plainId_quiet F.plain_extend_loop _, ih (i + 1) _ (by omega) hlt hJ⟩)
      (by omega) (by show (acc.push v).size ≤ sizeLine + 1; rw [Array.size_push]; omega)
end
section
variable {prog : Program} {w : World} {A : Around} {E : Value → Shared → Prop} {s : Shared} {z TI TO : Addr} {f0 : Value} {n : Nat} {J : Nat → Shared → Prop} {Jd : Shared → Prop}
theorem call_list_zipJ {Q : Value → Shared → Prop} (hz : IsZip s.heap z TI TO f0)
    (h0 : ∀ (h' : Heap) (c : Nat), (∀ b o, s.heap.get? b = some o → h'.get? b = some o) → h'.get? s.heap.objs.size = some { cls := .type "list", dict := none, data := .seq #[] c, slots := #[] } → h'.objs.size = s.heap.objs.size + 1 → J 0 { s with heap := h' })
    (item : ∀ (i : Nat) (s1 : Shared) (Q : Option Value → Shared → Prop) (E : Value → Shared → Prop), i < n → J i s1 →
      (∀ (v : Value) (s' : Shared) (acc : Array Value) (c : Nat), s'.heap.get? s.heap.objs.size = some { cls := .type "list", dict := none, data := .seq acc c, slots := #[] } → acc.size < sizeLine → J (i + 1) { s' with heap := s'.heap.update s.heap.objs.size (Obj.mapSeq (·.push v)) } → Q (some v) s') → wpAny (model prog w) A.in1.in1 (pyNext (.ref z)) Q E s1)
    (done : ∀ (s1 : Shared) (Q : Option Value → Shared → Prop) (E : Value → Shared → Prop), J n s1 → (∀ s', Jd s' → Q none s') → wpAny (model prog w) A.in1.in1 (pyNext (.ref z)) Q E s1)
    (hQ : ∀ s', Jd s' → Q (.ref s.heap.objs.size) s') : wpAny (model prog w) A (call (.type "list") [.ref z]) Q E s := by
  have hzl : z < s.heap.objs.size := Heap.lt_size hz
  refine callType_codes (Q₁ := fun obj s₁ => obj = .ref s.heap.objs.size ∧ s₁ = { s with heap := s.heap.push { cls := .type "list", data := .seq #[] } }) F.called_list (F.typeCall_list_1 _) F.entry_list_init
    (code_list_new _ ⟨rfl, rfl⟩) fun obj s₁ h₁ => ?_
  obtain ⟨rfl, rfl⟩ := h₁
  have hS : (s.heap.push { cls := .type "list", data := .seq #[] }).get? s.heap.objs.size = some { cls := .type "list", data := .seq #[] } := Heap.get?_push_size _ rfl
  refine ⟨⟨_, hS, rfl⟩, F.args_list_init_2 _ _, ?_⟩
  have hsz0 : (s.heap.push { cls := .type "list", data := .seq #[] }).objs.size = s.heap.objs.size + 1 := Heap.size_push ..
  have hk0 : ∀ b o, s.heap.get? b = some o → (s.heap.push { cls := .type "list", data := .seq #[] }).get? b = some o := fun b o e => Heap.get?_push_of_some _ e
  generalize s.heap.push { cls := .type "list", data := .seq #[] } = g0 at hS hsz0 hk0
  show wpAny _ A.in1.in1 (do let old ← Builtin.List.listItems (.ref s.heap.objs.size); Builtin.List.listUpdate (.ref s.heap.objs.size) (fun _ => #[]); letGo old.toList.reverse; Builtin.List.listExtendWith (.ref s.heap.objs.size) (.ref z) .none) _ _ _
  refine wpAny_bind ?_
  unfold Builtin.List.listItems
  refine wpAny_bind (wpAny_seqItems hS rfl (wpAny_pure ?_))
  show wpAny _ A.in1.in1 (updateSeq s.heap.objs.size (fun _ => #[]) >>= fun _ => letGo (#[] : Array Value).toList.reverse >>= fun _ => Builtin.List.listExtendWith (.ref s.heap.objs.size) (.ref z) .none) _ _ _
  refine wpAny_bind (wpAny_updateSeq hS rfl ?_)
  have hS₂ := Heap.get?_update_self (Obj.mapSeq (fun _ => (#[] : Array Value))) hS rfl
  have sb1 : Heap.SameBut s.heap.objs.size g0 (g0.update s.heap.objs.size (Obj.mapSeq (fun _ => (#[] : Array Value)))) := Heap.SameBut.update ..
  have hk1 : ∀ b o, s.heap.get? b = some o → (g0.update s.heap.objs.size (Obj.mapSeq (fun _ => (#[] : Array Value)))).get? b = some o := fun b o e => sb1.extBut _ _ (Nat.ne_of_lt (Heap.lt_size e)) (hk0 b o e)
  have hsz1 : (g0.update s.heap.objs.size (Obj.mapSeq (fun _ => (#[] : Array Value)))).objs.size = s.heap.objs.size + 1 := sb1.1.trans hsz0
  generalize g0.update s.heap.objs.size (Obj.mapSeq (fun _ => (#[] : Array Value))) = g1 at hS₂ hk1 hsz1
  refine wpAny_bind (wpAny_letGo ?_)
  have hSI : s.heap.objs.size ≠ z := Nat.ne_of_gt hzl
  have hTz : (Shared.mk g1 s.gens s.drawn s.toks s.os).TypeIs (.ref z) "zip" := ⟨_, hk1 _ _ hz, rfl⟩
  unfold Builtin.List.listExtendWith
  refine wpAny_bind (wpAny_typeOf hTz ?_)
  have h1 : Builtin.List.listSameRef (.ref s.heap.objs.size) (.ref z) = false := by simp [Builtin.List.listSameRef, hSI]
  have h2 : (Value.type "zip" == Value.type "list") = false := by decide
  have h3 : (Value.type "zip" == Value.type "tuple") = false := by decide
  simp only [h1, h2, h3, Bool.or_false, Bool.false_eq_true, if_false]
  refine wpAny_bind (wpAny_pyIter_zip (hk1 _ _ hz) ?_)
  refine wpAny_bind (wpAny_holding ?_)
  unfold Builtin.List.listLengthHint
  refine wpAny_bind (wpAny_specialOf hTz zip_no_len ?_)
  show wpAny _ A.in1.in1 (specialOf (Value.ref z) (Str.ofString "__length_hint__") >>= _) _ _ _
  refine wpAny_bind (wpAny_specialOf hTz zip_no_hint ?_)
  refine wpAny_pure ?_
  show wpAny _ A.in1.in1 (rule "list.extend.makes-room" >>= fun _ => Builtin.List.listTouch (.ref s.heap.objs.size) >>= fun _ =>
    again (.builtin "list.extend.loop" ⟨[.ref s.heap.objs.size, .ref z, .none], []⟩)) _ _ _
  refine wpAny_bind (wpAny_rule ?_)
  refine wpAny_bind ?_
  show wpAny _ A.in1.in1 (updateSeq s.heap.objs.size (·.push .none) >>= fun _ => updateSeq s.heap.objs.size (·.pop)) _ _ _
  refine wpAny_bind (wpAny_updateSeq hS₂ rfl ?_)
  have hS₃ := Heap.get?_update_self (Obj.mapSeq (·.push Value.none)) hS₂ rfl
  refine wpAny_updateSeq (hz := by seq_fits) hS₃ rfl ?_
  have hS₄ := Heap.get?_update_self (Obj.mapSeq (·.pop)) hS₃ rfl
  have sb3 : Heap.SameBut s.heap.objs.size g1 (g1.update s.heap.objs.size (Obj.mapSeq (·.push Value.none))) := Heap.SameBut.update ..
  have sb4 : Heap.SameBut s.heap.objs.size (g1.update s.heap.objs.size (Obj.mapSeq (·.push Value.none))) ((g1.update s.heap.objs.size (Obj.mapSeq (·.push Value.none))).update s.heap.objs.size (Obj.mapSeq (·.pop))) := Heap.SameBut.update ..
  refine wpAny_pure ⟨plainId_quiet F.plain_extend_loop _, extend_loopJ (A := A.in1) (J := J) (Jd := Jd) (n := n) s.heap.objs.size .none item done (fun s' hd => ⟨rfl, hQ s' hd⟩) n 0 _ rfl (Nat.zero_le _) ?_⟩
  exact h0 _ _ (fun b o e => sb4.extBut _ _ (Nat.ne_of_lt (Heap.lt_size e)) (sb3.extBut _ _ (Nat.ne_of_lt (Heap.lt_size e)) (hk1 b o e))) hS₄ (by rw [sb4.1, sb3.1, hsz1])
end
section
variable {X : Cx} {pins : List (Addr × Obj)} {σ : L2.St}
/-- what is laid while list(zip(a, b)) runs -/
structure ZLay (H1 Hf : Hp) (S : Addr) (xs ys : List V) (ps : List Addr) : Prop where
  fresh : H1 S = none
  lst : Hf S = some (.lst (ps.map V.ref))
  ext : L2.Same H1 Hf
  tup : ∀ (j : Nat) (p : Addr), ps[j]? = some p → H1 p = none ∧ p ≠ S ∧ ∃ x y, xs[j]? = some x ∧ ys[j]? = some y ∧ Hf p = some (.tup [x, y])
def ZJ (X : Cx) (pins : List (Addr × Obj)) (σ : L2.St) (H1 : Hp) (a b S z TI TO i1 i2 : Addr) (xs ys : List V) (i : Nat) (s : Shared) : Prop :=
  ∃ (Hi : Hp) (ps : List Addr), Inv X pins σ Hi s ∧ (∀ c ∈ [z, TI, TO, i1, i2], FpOk X pins Hi c) ∧ ZLay H1 Hi S xs ys ps ∧ ps.length = i ∧ z < s.heap.objs.size ∧ TI < s.heap.objs.size ∧ TO < s.heap.objs.size ∧ i1 < s.heap.objs.size ∧ i2 < s.heap.objs.size ∧
    IsPair s.heap TI (.ref i1) (.ref i2) ∧ s.heap.IsListIter i1 a i ∧ s.heap.IsListIter i2 b i ∧
    ((i = 0 ∧ IsZip s.heap z TI TO .none ∧ ∃ u v, IsPair s.heap TO u v) ∨ (∃ T f oT, IsZipHeld s.heap z TI TO T f ∧ s.heap.get? T = some oT ∧ T ≠ S ∧ T ≠ z ∧ T ≠ TO ∧ T ≠ i1 ∧ T ≠ i2))
theorem zj_item {H1 : Hp} {a b S z TI TO i1 i2 : Addr} {xs ys : List V} (D : ZipApart z TI TO i1 i2 a b) (ha : SqL X.K H1 a xs) (hb : SqL X.K H1 b ys) (hn : min xs.length ys.length ≤ sizeLine) (A : Around)
    (i : Nat) (s : Shared) (Q : Option Value → Shared → Prop) (E : Value → Shared → Prop) (hi : i < min xs.length ys.length) (hJ : ZJ X pins σ H1 a b S z TI TO i1 i2 xs ys i s)
    (k : ∀ (v : Value) (s' : Shared) (acc : Array Value) (c : Nat), s'.heap.get? S = some { cls := .type "list", dict := none, data := .seq acc c, slots := #[] } → acc.size < sizeLine → ZJ X pins σ H1 a b S z TI TO i1 i2 xs ys (i + 1) { s' with heap := s'.heap.update S (Obj.mapSeq (·.push v)) } → Q (some v) s') :
    wpAny (model X.prog X.w) A (pyNext (.ref z)) Q E s := by
  obtain ⟨Hi, ps, I, hf, L, hpl, lz, lTI, lTO, l1, l2, hTI, h1, h2, hz⟩ := hJ
  obtain ⟨its, rv, p, _⟩ := I.list (L.ext.seq ha)
  obtain ⟨its2, rv2, p2, _⟩ := I.list (L.ext.seq hb)
  obtain ⟨x, hx⟩ : ∃ x, xs[i]? = some x := ⟨_, List.getElem?_eq_getElem (by omega)⟩
  obtain ⟨y, hy⟩ : ∃ y, ys[i]? = some y := ⟨_, List.getElem?_eq_getElem (by omega)⟩
  obtain ⟨u, hu, ru⟩ := rv.get hx
  obtain ⟨u2, hu2, ru2⟩ := rv2.get hy
  have hux : its.toArray[i]? = some u := by simpa using hu
  have huy : its2.toArray[i]? = some u2 := by simpa using hu2
  obtain ⟨_, its0, n0, r0, hlen0, e0⟩ := I.lstM L.lst
  have hSl : S < s.heap.objs.size := Heap.lt_size e0
  have hSn : ∀ c, c ∈ [z, TI, TO, i1, i2] → S ≠ c := fun c hc q => by
    have := (hf c hc).1
    rw [← q, L.lst] at this
    cases this
  have go : ∀ (h' : Heap) (T' : Addr) (f' : Bool) (oT' : Obj), IsZipHeld h' z TI TO T' f' → h'.get? T' = some oT' → T' ≠ S → T' ≠ z → T' ≠ TO → T' ≠ i1 → T' ≠ i2 → h'.IsListIter i1 a (i + 1) → h'.IsListIter i2 b (i + 1) → IsPair h' s.heap.objs.size u u2 → h'.objs.size = s.heap.objs.size + 1 →
      (∀ c o, c ≠ z → c ≠ TO → c ≠ i1 → c ≠ i2 → s.heap.get? c = some o → h'.get? c = some o) → Q (some (.ref s.heap.objs.size)) { s with heap := h' } := by
    intro h' T' f' oT' hz' hT' tS tz tTO t1 t2 h1' h2' hT hsz hk
    have hS' : h'.get? S = some { cls := .type "list", data := .seq its0.toArray n0 } := hk S _ (hSn z (by simp)) (hSn TO (by simp)) (hSn i1 (by simp)) (hSn i2 (by simp)) e0
    have hl0 : its0.length = i := by rw [← hlen0, List.length_map, hpl]
    refine k _ _ its0.toArray n0 hS' (by rw [List.size_toArray]; omega) ?_
    have new : ObjOk X.prog X.w (upd Hi s.heap.objs.size (.tup [x, y])) h' s.heap.objs.size (.tup [x, y]) :=
      ⟨by show 2 ≤ sizeLine; decide, [u, u2], .cons ru (.cons ru2 .nil), ⟨_, hT, rfl, _, rfl⟩⟩
    have I1 : Inv X pins σ (upd Hi s.heap.objs.size (.tup [x, y])) { s with heap := h' } :=
      I.turnedNew (t' := s.toks) (ch := [z, TI, TO, i1, i2]) (fun c o hb q => hk c o (fun q' => hb (by simp [q'])) (fun q' => hb (by simp [q'])) (fun q' => hb (by simp [q'])) (fun q' => hb (by simp [q'])) q) hf (Nat.le_refl _) new
    have hST : S ≠ s.heap.objs.size := Nat.ne_of_lt hSl
    have hS1 : (upd Hi s.heap.objs.size (.tup [x, y])) S = some (.lst (ps.map V.ref)) := (upd_ne hST).trans L.lst
    have I2 := I1.lset (f := fun arr => arr.push (.ref s.heap.objs.size)) (its' := its0 ++ [.ref s.heap.objs.size]) (ys := ps.map V.ref ++ [.ref s.heap.objs.size]) (t' := s.toks) hS1 hS' (by simp) (r0.append (.cons (show L2.RelV (V.ref s.heap.objs.size) (Value.ref s.heap.objs.size) from rfl) .nil)) (by rw [List.length_append, List.length_map, List.length_singleton]; omega)
    have sb : Heap.SameBut S h' (h'.update S (Obj.mapSeq fun arr => arr.push (.ref s.heap.objs.size))) := Heap.SameBut.update ..
    have hlt : ∀ c, c ∈ [z, TI, TO, i1, i2] → c < s.heap.objs.size := fun c hc => by
      have e' : c = z ∨ c = TI ∨ c = TO ∨ c = i1 ∨ c = i2 := by simpa using hc
      rcases e' with q | q | q | q | q <;> rw [q] <;> assumption
    have hHn : ∀ c, c ∈ [z, TI, TO, i1, i2] → upd (upd Hi s.heap.objs.size (.tup [x, y])) S (.lst (ps.map V.ref ++ [.ref s.heap.objs.size])) c = none := fun c hc => by
      rw [upd_ne (fun q => hSn c hc q.symm), upd_ne (Nat.ne_of_lt (hlt c hc))]
      exact (hf c hc).1
    have hsz2 := sb.1.trans hsz
    have hTn : Hi s.heap.objs.size = none := I.hok.fresh (Nat.le_refl _)
    refine ⟨_, ps ++ [s.heap.objs.size], I2, fun c hc => ⟨hHn c hc, (hf c hc).2⟩, ⟨L.fresh, ?_, fun c o q => ?_, fun j p' hj => ?_⟩, by rw [List.length_append, hpl]; rfl, ?_, ?_, ?_, ?_, ?_, ?_, ?_, ?_, .inr ⟨T', f', oT', ?_, ?_, tS, tz, tTO, t1, t2⟩⟩
    · rw [upd_same, List.map_append]; rfl
    · have h := L.ext c o q
      have hcS : c ≠ S := fun z' => by rw [z', L.fresh] at q; cases q
      have hcT : c ≠ s.heap.objs.size := fun z' => by rw [z', hTn] at h; cases h
      rw [upd_ne hcS, upd_ne hcT]
      exact h
    · by_cases hjl : j < ps.length
      · rw [List.getElem?_append_left hjl] at hj
        obtain ⟨q1, q2, x', y', q3, q4, q5⟩ := L.tup j p' hj
        have hcT : p' ≠ s.heap.objs.size := fun z' => by rw [z', hTn] at q5; cases q5
        refine ⟨q1, q2, x', y', q3, q4, ?_⟩
        rw [upd_ne q2, upd_ne hcT]
        exact q5
      · rw [List.getElem?_append_right (by omega)] at hj
        have hj0 : j = i := by
          have := (List.getElem?_eq_some_iff.mp hj).1
          simp only [List.length_singleton] at this
          omega
        subst hj0
        rw [hpl, Nat.sub_self] at hj
        have hp' : s.heap.objs.size = p' := Option.some.inj hj
        subst hp'
        exact ⟨L.ext.free hTn, hST.symm, x, y, hx, hy, by rw [upd_ne hST.symm, upd_same]⟩
    · rw [hsz2]; exact Nat.lt_succ_of_lt lz
    · rw [hsz2]; exact Nat.lt_succ_of_lt lTI
    · rw [hsz2]; exact Nat.lt_succ_of_lt lTO
    · rw [hsz2]; exact Nat.lt_succ_of_lt l1
    · rw [hsz2]; exact Nat.lt_succ_of_lt l2
    · exact sb.extBut _ _ (hSn TI (by simp)).symm (hk TI _ D.TIz D.TITO D.TIi1 D.TIi2 hTI)
    · exact h1'.at fun o q => sb.extBut _ _ (hSn i1 (by simp)).symm q
    · exact h2'.at fun o q => sb.extBut _ _ (hSn i2 (by simp)).symm q
    · exact sb.extBut _ _ (hSn z (by simp)).symm hz'
    · exact sb.extBut _ _ tS hT'
  rcases hz with ⟨rfl, hz, w1, w2, hTO⟩ | ⟨T, f, oT, hz, hT, tS, tz, tTO, t1, t2⟩
  · refine wpAny_pyNext_zip_item D hz hTI hTO h1 h2 p.isList p2.isList hux huy fun h' z' TO' h1' h2' hT hsz hk => ?_
    exact go h' s.heap.objs.size false _ z' hT (Nat.ne_of_gt hSl) (Nat.ne_of_gt lz) (Nat.ne_of_gt lTO) (Nat.ne_of_gt l1) (Nat.ne_of_gt l2) h1' h2' hT hsz hk
  · refine wpAny_pyNext_zip_item_held D hz hT hTI h1 h2 p.isList p2.isList hux huy fun h' z' h1' h2' hTn hsz hk => ?_
    exact go h' T true oT z' (hk T _ tz t1 t2 hT) tS tz tTO t1 t2 h1' h2' hTn hsz (fun c o c1 _ c3 c4 q => hk c o c1 c3 c4 q)
theorem zj_done {H1 : Hp} {a b S z TI TO i1 i2 : Addr} {xs ys : List V} (D : ZipApart z TI TO i1 i2 a b) (ha : SqL X.K H1 a xs) (hb : SqL X.K H1 b ys) {A : Around} (hh : A.handled = none)
    (s : Shared) (Q : Option Value → Shared → Prop) (E : Value → Shared → Prop) (hJ : ZJ X pins σ H1 a b S z TI TO i1 i2 xs ys (min xs.length ys.length) s)
    (k : ∀ s', (∃ Hf ps, Inv X pins σ Hf s' ∧ ZLay H1 Hf S xs ys ps ∧ ps.length = min xs.length ys.length) → Q none s') : wpAny (model X.prog X.w) A (pyNext (.ref z)) Q E s := by
  obtain ⟨Hi, ps, I, hf, L, hpl, lz, lTI, lTO, l1, l2, hTI, h1, h2, hz⟩ := hJ
  obtain ⟨its, rv, p, _⟩ := I.list (L.ext.seq ha)
  obtain ⟨its2, rv2, p2, _⟩ := I.list (L.ext.seq hb)
  have e1 := rv.length
  have e2 := rv2.length
  have he : its.toArray[min xs.length ys.length]? = none ∨ its2.toArray[min xs.length ys.length]? = none := by
    by_cases c : xs.length ≤ ys.length
    · exact .inl (by simp; omega)
    · exact .inr (by simp; omega)
  rcases hz with ⟨q0, hz, w1, w2, hTO⟩ | ⟨T, f, oT, hz, hT, tS, tz, tTO, t1, t2⟩
  · refine wpAny_pyNext_zip_end hh D hz hTI hTO h1 h2 p.isList p2.isList he fun h' hk => k _ ⟨Hi, ps, ?_, L, hpl⟩
    exact I.turnedL (t' := s.toks) (ch := [z, TI, TO, i1, i2]) (fun c o hb q => hk c o (fun q' => hb (by simp [q'])) (fun q' => hb (by simp [q'])) (fun q' => hb (by simp [q'])) (fun q' => hb (by simp [q'])) q) hf
  · refine wpAny_pyNext_zip_end_held hh D hz hT hTI h1 h2 p.isList p2.isList he fun h' hk => k _ ⟨Hi, ps, ?_, L, hpl⟩
    exact I.turnedL (t' := s.toks) (ch := [z, TI, TO, i1, i2]) (fun c o hb q => hk c o (fun q' => hb (by simp [q'])) (fun q' => hb (by simp [q'])) (fun q' => hb (by simp [q'])) q) hf
end
section
variable {X : Cx}
/-- list(zip(a, b)) -/
def tLstZip (K : PySem.W.Frag) (ta : TA) : TE := fun σ H Q => ta σ H fun vs H1 => ∃ a b xs ys, vs = [.ref a, .ref b] ∧ SqL K H1 a xs ∧ SqL K H1 b ys ∧ ∀ S Hf ps, ZLay H1 Hf S xs ys ps → ps.length = min xs.length ys.length → Q (.ref S) Hf
theorem pe_listZip {e e2 : Expr} {ta : TA} {p p2 pos pos2 : Pos} (hc : X.calm = true) (hg : Gl X "list") (hm : X.mg "list" = none) (hg2 : Gl X "zip") (hm2 : X.mg "zip" = none) (ha : PA X [e, e2] ta)
    (hs : starEach [e, e2] X.env = (false, eval e X.env) :: starEach [e2] X.env) (hpl : (backTo pos2 (starEach [e2] X.env)).any (·.1) = false)
    (na : starEach [.Call (.Name "zip" p2) [e, e2] [] pos2] X.env = (false, eval (.Call (.Name "zip" p2) [e, e2] [] pos2) X.env) :: starEach [] X.env) :
    PE X (.Call (.Name "list" p) [.Call (.Name "zip" p2) [e, e2] [] pos2] [] pos) (tLstZip X.K ta) := by
  refine ⟨fun pins s σ H Q I h => ?_⟩
  have made : wpAny (model X.prog X.w) X.A (eval (.Call (.Name "zip" p2) [e, e2] [] pos2) X.env) (fun v s2 => ∃ (H1 : Hp) (a b z TI TO i1 i2 : Addr) (xs ys : List V), v = .ref z ∧ Inv X pins σ H1 s2 ∧ (∀ c ∈ [z, TI, TO, i1, i2], FpOk X pins H1 c) ∧ z < s2.heap.objs.size ∧ TI < s2.heap.objs.size ∧ TO < s2.heap.objs.size ∧ i1 < s2.heap.objs.size ∧ i2 < s2.heap.objs.size ∧
      ZipApart z TI TO i1 i2 a b ∧ IsZip s2.heap z TI TO .none ∧ IsPair s2.heap TI (.ref i1) (.ref i2) ∧ IsPair s2.heap TO .none .none ∧ s2.heap.IsListIter i1 a 0 ∧ s2.heap.IsListIter i2 b 0 ∧ SqL X.K H1 a xs ∧ SqL X.K H1 b ys ∧ ∀ S Hf ps, ZLay H1 Hf S xs ys ps → ps.length = min xs.length ys.length → Q (.ref S) Hf) X.xe s := by
    refine Call_ (ld_blt I hg2 hm2 PyProof.Rows.boot_zip (PyProof.Rows.callWith_type1 (thn (ha.run pos2 pins s σ H _ I h) fun us s1 ⟨vs, H1, I1, r1, q1⟩ => ?_) hs hpl))
    obtain ⟨a, b, xs, ys, ex, hqx, hqy, q⟩ := q1
    subst ex
    cases r1 with
    | cons r rr =>
      cases rr with
      | cons r' rr =>
        cases rr
        cases r
        cases r'
        obtain ⟨its, rv, p1, _⟩ := I1.list hqx
        obtain ⟨its2, rv2, p2', _⟩ := I1.list hqy
        refine call_zip_2 p1.isList p2'.isList fun h' hz hTI hTO h1 h2 hsz hk => ?_
        have I2 : Inv X pins σ H1 { s1 with heap := h' } := I1.kept (t' := s1.toks) hk
        refine ⟨H1, a, b, s1.heap.objs.size + 4, s1.heap.objs.size + 2, s1.heap.objs.size + 3, s1.heap.objs.size, s1.heap.objs.size + 1, xs, ys, rfl, I2, fun c hcm => ?_, ?_, ?_, ?_, ?_, ?_, PySem.W.ktu_apart s1.heap.objs.size a b p1.lt p2'.lt, hz, hTI, hTO, h1, h2, hqx, hqy, q⟩
        · have e' : c = s1.heap.objs.size + 4 ∨ c = s1.heap.objs.size + 2 ∨ c = s1.heap.objs.size + 3 ∨ c = s1.heap.objs.size ∨ c = s1.heap.objs.size + 1 := by simpa using hcm
          have hle : s1.heap.objs.size ≤ c := by
            rcases e' with z | z | z | z | z
            · rw [z]; exact Nat.le_add_right _ _
            · rw [z]; exact Nat.le_add_right _ _
            · rw [z]; exact Nat.le_add_right _ _
            · rw [z]; exact Nat.le_refl _
            · rw [z]; exact Nat.le_add_right _ _
          exact I1.fpOk hle (I1.hok.fresh hle)
        · show _ < h'.objs.size; rw [hsz]; exact Nat.add_lt_add_left (by decide) _
        · show _ < h'.objs.size; rw [hsz]; exact Nat.add_lt_add_left (by decide) _
        · show _ < h'.objs.size; rw [hsz]; exact Nat.add_lt_add_left (by decide) _
        · show _ < h'.objs.size; rw [hsz]; exact Nat.lt_add_of_pos_right (by decide)
        · show _ < h'.objs.size; rw [hsz]; exact Nat.add_lt_add_left (by decide) _
  refine Call_ (ld_blt I hg hm boot_list (PyProof.Rows.callWith_type1 (args_cons (thn made fun v s2 ⟨H1, a, b, z, TI, TO, i1, i2, xs, ys, ev, I2, hf, lz, lTI, lTO, l1, l2, D, hz, hTI, hTO, h1, h2, hqx, hqy, q⟩ => args_nil ?_) na) na))
  subst ev
  obtain ⟨its, rv, p1, hzx⟩ := I2.list hqx
  have hSn : ∀ c, c < s2.heap.objs.size → c ≠ s2.heap.objs.size := fun c hc => Nat.ne_of_lt hc
  refine call_list_zipJ (J := ZJ X pins σ H1 a b s2.heap.objs.size z TI TO i1 i2 xs ys) (n := min xs.length ys.length) hz (fun h' c hk hS hsz => ?_) (zj_item D hqx hqy (by omega) _) (zj_done D hqx hqy (I2.ok.hd hc)) (fun s' hd => ?_)
  · have I3 : Inv X pins σ (upd H1 s2.heap.objs.size (.lst [])) { s2 with heap := h' } := I2.laid (t' := s2.toks) hk (Nat.le_refl _) (show ObjOk X.prog X.w _ _ _ (.lst []) from ⟨Nat.zero_le _, [], c, .nil, hS⟩)
    refine ⟨_, [], I3, fun c' hc' => ?_, ⟨I2.hok.fresh (Nat.le_refl _), upd_same, fun c' o q' => ?_, fun j p' hj => by cases hj⟩, rfl, ?_, ?_, ?_, ?_, ?_, hk _ _ hTI, h1.at fun o q' => hk _ _ q', h2.at fun o q' => hk _ _ q', .inl ⟨rfl, hk _ _ hz, _, _, hk _ _ hTO⟩⟩
    · have hlt : c' < s2.heap.objs.size := by
        have e' : c' = z ∨ c' = TI ∨ c' = TO ∨ c' = i1 ∨ c' = i2 := by simpa using hc'
        rcases e' with q' | q' | q' | q' | q' <;> rw [q'] <;> assumption
      exact ⟨(upd_ne (hSn c' hlt)).trans (hf c' hc').1, (hf c' hc').2⟩
    · have : c' ≠ s2.heap.objs.size := fun z' => by rw [z', I2.hok.fresh (Nat.le_refl _)] at q'; cases q'
      rw [upd_ne this]
      exact q'
    · show _ < h'.objs.size; rw [hsz]; exact Nat.lt_succ_of_lt lz
    · show _ < h'.objs.size; rw [hsz]; exact Nat.lt_succ_of_lt lTI
    · show _ < h'.objs.size; rw [hsz]; exact Nat.lt_succ_of_lt lTO
    · show _ < h'.objs.size; rw [hsz]; exact Nat.lt_succ_of_lt l1
    · show _ < h'.objs.size; rw [hsz]; exact Nat.lt_succ_of_lt l2
  · obtain ⟨Hf, ps, I4, L, hpl'⟩ := hd
    exact ⟨.ref _, Hf, I4, rfl, q _ _ ps L hpl'⟩
end
section
theorem dp_zip {K : PySem.W.Frag} {G1 G' : Hp} (s : L2.Same G1 G') : ∀ (ps : List Addr) {xs ys : List V} {ds es : List D}, DpAll K G1 xs ds → DpAll K G1 ys es → ps.length = min xs.length ys.length →
    (∀ (j : Nat) (p : Addr), ps[j]? = some p → ∃ x y, xs[j]? = some x ∧ ys[j]? = some y ∧ G' p = some (.tup [x, y])) → DpAll K G' (ps.map V.ref) ((ds.zip es).map fun q => PyData.tuple [q.1, q.2])
  | [], xs, ys, ds, es, hx, hy, hl, _ => by
    have l1 := DpAll.length hx
    have l2 := DpAll.length hy
    have e : ds.zip es = [] := List.eq_nil_of_length_eq_zero (by rw [List.length_zip]; simp only [List.length_nil] at hl; omega)
    rw [e]
    exact .nil
  | p :: ps, [], ys, ds, es, hx, hy, hl, h => by simp at hl
  | p :: ps, x :: xs, [], ds, es, hx, hy, hl, h => by simp at hl
  | p :: ps, x :: xs, y :: ys, ds, es, hx, hy, hl, h => by
    cases hx with
    | cons a1 a2 =>
      cases hy with
      | cons b1 b2 =>
        obtain ⟨x', y', q1, q2, q3⟩ := h 0 p rfl
        cases q1
        cases q2
        exact .cons (.tup (.inl (.inl q3)) (.cons (Dp.same s a1) (.cons (Dp.same s b1) .nil))) (dp_zip s ps a2 b2 (by simp only [List.length_cons] at hl; omega) fun j p' hj => h (j + 1) p' hj)
variable {X : Cx} {ρ : Envi} {pos : Pos}
theorem evl_listZip {a b : Expr} {ds es : List D} {p p2 pos2 : Pos} (hc : X.calm = true) (ha : Ev X ρ a (.list ds)) (hb : Ev X ρ b (.list es)) (hg : Gl X "list") (hm : X.mg "list" = none) (hg2 : Gl X "zip") (hm2 : X.mg "zip" = none)
    (hs : starEach [a, b] X.env = (false, eval a X.env) :: starEach [b] X.env) (hs2 : starEach [b] X.env = (false, eval b X.env) :: starEach [] X.env) (hpl : (backTo pos2 (starEach [b] X.env)).any (·.1) = false)
    (na : starEach [.Call (.Name "zip" p2) [a, b] [] pos2] X.env = (false, eval (.Call (.Name "zip" p2) [a, b] [] pos2) X.env) :: starEach [] X.env) :
    EvL X ρ (.Call (.Name "list" p) [.Call (.Name "zip" p2) [a, b] [] pos2] [] pos) ((ds.zip es).map fun q => PyData.tuple [q.1, q.2]) := fun σ G H Q E k =>
  wE_of (pe_listZip hc hg hm hg2 hm2 pa_w hs hpl na) (evs_cons ha (evs_cons hb evs_nil hs2) hs σ G H _ E fun vs G1 H1 f1 hv => by
    obtain ⟨v, w, rfl, hx, hy⟩ := DpAll.two hv
    cases hx with
    | lst hqx hax =>
      cases hy with
      | lst hqy hay =>
        refine ⟨_, _, _, _, rfl, f1.s.seq hqx, f1.s.seq hqy, fun S Hf ps L hl => ?_⟩
        have hS1 : H1 S = none := L.fresh
        have hin : ∀ c, c ∈ ps → H1 c = none ∧ c ≠ S ∧ ∃ o, Hf c = some o := fun c hcm => by
          obtain ⟨j, hj, e⟩ := List.getElem_of_mem hcm
          obtain ⟨q1, q2, x, y, _, _, q5⟩ := L.tup j c (by rw [List.getElem?_eq_getElem hj, e])
          exact ⟨q1, q2, _, q5⟩
        have sG : L2.Same G1 (fun c => if c ∈ ps then Hf c else G1 c) := fun c o e => by
          have h1 : H1 c = some o := f1.s c o e
          show (if c ∈ ps then Hf c else G1 c) = some o
          rw [if_neg fun hcm => by rw [(hin c hcm).1] at h1; cases h1]
          exact e
        have f2 : Frm G1 H1 (fun c => if c ∈ ps then Hf c else G1 c) Hf := ⟨sG, L.ext, fun c o e => by
          have e : (if c ∈ ps then Hf c else G1 c) = some o := e
          by_cases hcm : c ∈ ps
          · rw [if_pos hcm] at e; exact e
          · rw [if_neg hcm] at e; exact L.ext c o (f1.s c o e), fun c o e => by
          show (if c ∈ ps then Hf c else G1 c) = G1 c
          rw [if_neg fun hcm => by rw [(hin c hcm).1] at e; cases e]⟩
        refine k S (ps.map V.ref) _ Hf (f1.trans f2) L.lst ?_ (f1.h.free hS1) (dp_zip sG ps hax hay hl fun j p' hj => ?_)
        · show (if S ∈ ps then Hf S else G1 S) = none
          rw [if_neg fun hcm => (hin S hcm).2.1 rfl]
          exact f1.s.free hS1
        · obtain ⟨_, _, x, y, q3, q4, q5⟩ := L.tup j p' hj
          refine ⟨x, y, q3, q4, ?_⟩
          show (if p' ∈ ps then Hf p' else G1 p') = _
          rw [if_pos (List.mem_of_getElem? hj)]
          exact q5)
end
end DL

namespace DL
open PySem PySem.Spec PyProof.Rows L2
/-! ## zip(tuple, tuple); zip of three -/
def ItzTT (K : PySem.W.Frag) (a b : Addr) (n1 n2 : Nat) : It :=
  ⟨fun i H => ∃ (xs ys : List V), SqT K H a xs ∧ SqT K H b ys ∧ xs.length = n1 ∧ ys.length = n2 ∧ i < n1 ∧ i < n2,
    fun i H v H' => ∃ T x y, v = .ref T ∧ H T = none ∧ H' = upd H T (.tup [x, y]) ∧ (∀ xs, SqT K H a xs → xs[i]? = some x) ∧ ∀ ys, SqT K H b ys → ys[i]? = some y,
    fun i H => ∃ xs ys : List V, SqT K H a xs ∧ SqT K H b ys ∧ xs.length = n1 ∧ ys.length = n2 ∧ (n1 ≤ i ∨ n2 ≤ i)⟩
def stTT (z TI TO i1 i2 a b : Addr) (n : Nat) (i : Nat) (h : Heap) : Prop := (IsZip h z TI TO .none ∧ IsTupOf2 h TI (.ref i1) (.ref i2) ∧ (∃ x y, IsTupOf2 h TO x y) ∧ h.IsTupleIter i1 a i ∧ h.IsTupleIter i2 b i) ∧ i ≤ n
theorem turn_zipTT {P : Program} {w : World} {K : PySem.W.Frag} {elts : List Expr} {kk : Nat} {tpos : Pos} {a b z TI TO i1 i2 : Addr} {n1 n2 : Nat} (sep : ZipSep2 z TI TO i1 i2 [i1, a] [i2, b]) (h1a : a ≠ i1) (h2b : b ≠ i2) :
    Turn P w K (.Tuple elts kk tpos) (ItzTT K a b n1 n2) [z, TI, TO, i1, i2] z (stTT z TI TO i1 i2 a b (min n1 n2)) where
  mem := by simp
  obj := fun i h st c hc => by
    obtain ⟨⟨hz, hTI, ⟨x, y, hTO⟩, ⟨o1, e1, _, d1⟩, ⟨o2, e2, _, d2⟩⟩, _⟩ := st
    have e' : c = z ∨ c = TI ∨ c = TO ∨ c = i1 ∨ c = i2 := by simpa using hc
    rcases e' with q | q | q | q | q
    · rw [q]; exact ⟨_, hz, fun v q => nomatch q⟩
    · rw [q]; exact ⟨_, hTI, fun v q => nomatch q⟩
    · rw [q]; exact ⟨_, hTO, fun v q => nomatch q⟩
    · rw [q]; exact ⟨o1, e1, fun v q => by rw [d1] at q; cases q⟩
    · rw [q]; exact ⟨o2, e2, fun v q => by rw [d2] at q; cases q⟩
  keep := fun i h h' st k => by
    obtain ⟨⟨hz, hTI, ⟨x, y, hTO⟩, h1, h2⟩, hle⟩ := st
    exact ⟨⟨k z (by simp) _ hz, k TI (by simp) _ hTI, ⟨x, y, k TO (by simp) _ hTO⟩, h1.at fun o q => k i1 (by simp) o q, h2.at fun o q => k i2 (by simp) o q⟩, hle⟩
  item := by
    intro X hP hw hK hc i pins s σ H E I hf st hg
    subst hP hw hK
    obtain ⟨⟨hz, hTI, hTO, h1, h2⟩, hle⟩ := st
    obtain ⟨xs, ys, hqx, hqy, ex, ey, hi1, hi2⟩ := hg
    obtain ⟨its, rv, p, _⟩ := I.tuple hqx
    obtain ⟨its2, rv2, p2, _⟩ := I.tuple hqy
    have l1 := rv.length
    have l2 := rv2.length
    have hh := I.ok.hd hc
    have W := WalksT.zipD2 (prog := X.prog) (w := X.w) (A := X.A) sep (Draws.tuple (A := X.A.in1) hh i1 a h1a its.toArray) (Draws.tuple (A := X.A.in1) hh i2 b h2b its2.toArray)
    refine W.item i s _ _ (by simp; omega) ⟨hz, hTI, hTO, ⟨h1, p⟩, h2, p2⟩ fun T vals h' tk hPt hT hTup hm hk => ⟨.ref T, rfl, ?_⟩
    refine W.go elts kk tpos i T { s with heap := h', toks := tk } _ _ hm fun h2' st2 hk2 => ?_
    obtain ⟨u, u2, hu, hu2, rfl⟩ := hPt
    obtain ⟨x, hx, ru⟩ := vals_get rv (i := i) (v := u) (by simpa using hu)
    obtain ⟨y, hy, ru2⟩ := vals_get rv2 (i := i) (v := u2) (by simpa using hu2)
    have hTup2 : h2'.IsTuple T #[u, u2] := by
      obtain ⟨o, e1, e2, e3⟩ := hTup
      exact ⟨o, hk2 T o (W.apart i T h' hm) e1, e2, e3⟩
    have fpw : ∀ c ∈ [z, TO, i1, i2], c ∈ [z, TI, TO, i1, i2] := fun c hcm => by
      have e' : c = z ∨ c = TO ∨ c = i1 ∨ c = i2 := by simpa using hcm
      rcases e' with q | q | q | q <;> subst q <;> simp
    have new : ObjOk X.prog X.w (upd H T (.tup [x, y])) h2' T (.tup [x, y]) := ⟨by show 2 ≤ sizeLine; decide, [u, u2], .cons ru (.cons ru2 .nil), hTup2⟩
    have I1 : Inv X pins σ (upd H T (.tup [x, y])) { s with heap := h2', toks := tk } :=
      I.turnedNew (ch := [z, TO, i1, i2]) (fun c o hb q => hk2 c o hb (hk c o hb q)) (fun c hcm => hf c (fpw c hcm)) hT new
    obtain ⟨a1, a2, a3, ⟨a4, _⟩, a5, _⟩ := st2
    refine ⟨.ref T, _, I1, rfl, ⟨T, x, y, rfl, I.hok.fresh hT, rfl, fun l hl => by rw [I.tuple_inj hl hqx]; exact hx, fun l hl => by rw [I.tuple_inj hl hqy]; exact hy⟩, ⟨⟨a1, a2, a3, a4, a5⟩, by omega⟩, fun c hcm => ?_⟩
    have hlt : c ≠ T := fun e => by
      subst e
      have e' : c = z ∨ c = TI ∨ c = TO ∨ c = i1 ∨ c = i2 := by simpa using hcm
      obtain ⟨x0, y0, hTO⟩ := hTO
      have : c < s.heap.objs.size := by
        rcases e' with q | q | q | q | q
        · rw [q]; exact Heap.lt_size hz
        · rw [q]; exact Heap.lt_size hTI
        · rw [q]; exact Heap.lt_size hTO
        · rw [q]; obtain ⟨_, e1, _⟩ := h1; exact Heap.lt_size e1
        · rw [q]; obtain ⟨_, e2, _⟩ := h2; exact Heap.lt_size e2
      exact Nat.lt_irrefl _ (Nat.lt_of_lt_of_le this hT)
    rw [upd_ne hlt]
    exact (hf c hcm).1
  done := by
    intro X hP hw hK hc i pins s σ H E I hf st hg
    subst hP hw hK
    obtain ⟨⟨hz, hTI, hTO, h1, h2⟩, hle⟩ := st
    obtain ⟨xs, ys, hqx, hqy, ex, ey, hend⟩ := hg
    obtain ⟨its, rv, p, _⟩ := I.tuple hqx
    obtain ⟨its2, rv2, p2, _⟩ := I.tuple hqy
    have l1 := rv.length
    have l2 := rv2.length
    have hh := I.ok.hd hc
    have W := WalksT.zipD2 (prog := X.prog) (w := X.w) (A := X.A) sep (Draws.tuple (A := X.A.in1) hh i1 a h1a its.toArray) (Draws.tuple (A := X.A.in1) hh i2 b h2b its2.toArray)
    have hin : i = min its.toArray.size its2.toArray.size := by simp; omega
    have fpw : ∀ c ∈ [z, TO, i1, i2], c ∈ [z, TI, TO, i1, i2] := fun c hcm => by
      have e' : c = z ∨ c = TO ∨ c = i1 ∨ c = i2 := by simpa using hcm
      rcases e' with q | q | q | q <;> subst q <;> simp
    refine W.done s _ _ (by rw [← hin]; exact ⟨hz, hTI, hTO, ⟨h1, p⟩, h2, p2⟩) fun h' tk hk => ⟨rfl, I.turnedL (t' := tk) (ch := [z, TO, i1, i2]) (fun c o hb q => hk c o hb q) fun c hcm => hf c (fpw c hcm)⟩
  self := fun A i s Q E st h => wpAny_pyIter_zip st.1.1 h
section
variable {X : Cx} {ρ : Envi} {pos : Pos}
def iZipTT (K : PySem.W.Frag) (ta : TA) : TI := fun σ H R => ta σ H fun vs H1 => ∃ a b xs ys, vs = [.ref a, .ref b] ∧ SqT K H1 a xs ∧ SqT K H1 b ys ∧ R (ItzTT K a b xs.length ys.length) H1
theorem pi_zipTT {e e2 : Expr} {ta : TA} {p tpos : Pos} {elts : List Expr} {kk : Nat} (hg : Gl X "zip") (hm : X.mg "zip" = none) (ha : PA X [e, e2] ta)
    (hs : starEach [e, e2] X.env = (false, eval e X.env) :: starEach [e2] X.env) (hpl : (backTo pos (starEach [e2] X.env)).any (·.1) = false) :
    PI X (.Tuple elts kk tpos) (.Call (.Name "zip" p) [e, e2] [] pos) (iZipTT X.K ta) := by
  refine ⟨fun pins s σ H R I h => ?_⟩
  refine Call_ (ld_blt I hg hm PyProof.Rows.boot_zip (PyProof.Rows.callWith_type1 (thn (ha.run pos pins s σ H _ I h) fun us s1 ⟨vs, H1, I1, r1, q1⟩ => ?_) hs hpl))
  obtain ⟨a, b, xs, ys, ex, hqx, hqy, q⟩ := q1
  subst ex
  cases r1 with
  | cons r rr =>
    cases rr with
    | cons r' rr =>
      cases rr
      cases r
      cases r'
      obtain ⟨its, rv, p1, _⟩ := I1.tuple hqx
      obtain ⟨its2, rv2, p2, _⟩ := I1.tuple hqy
      have ha : a < s1.heap.objs.size := by obtain ⟨o2, ho2, _⟩ := id p1; exact Heap.lt_size ho2
      have hb : b < s1.heap.objs.size := by obtain ⟨o2, ho2, _⟩ := id p2; exact Heap.lt_size ho2
      refine zip_begins2 (begins_tuple a its.toArray) (begins_tuple b its2.toArray) p1 p2 fun h' hz hTI hTO h1 h2 hsz hk => wpAny_pyIter_zip hz ?_
      generalize hN : s1.heap.objs.size = N at *
      have I2 : Inv X pins σ H1 { s1 with heap := h' } := I1.kept (t' := s1.toks) hk
      have sep : ZipSep2 (N + 4) (N + 2) (N + 3) N (N + 1) [N, a] [N + 1, b] := zip_sep2 (fp1 := [a]) (fp2 := [b]) (by simpa using ha) (by simpa using hb)
      refine ⟨N + 4, [N + 4, N + 2, N + 3, N, N + 1], _, _, H1, rfl, I2, turn_zipTT (n1 := xs.length) (n2 := ys.length) sep (Nat.ne_of_lt ha) (Nat.ne_of_lt (Nat.lt_succ_of_lt hb)),
        ⟨⟨hz, hTI, ⟨_, _, hTO⟩, ⟨_, h1, rfl, rfl⟩, ⟨_, h2, rfl, rfl⟩⟩, Nat.zero_le _⟩, fun c hcm => ?_, q⟩
      have hle : s1.heap.objs.size ≤ c := by
        rw [hN]
        simp only [List.mem_cons, List.not_mem_nil, or_false] at hcm
        rcases hcm with z | z | z | z | z
        · rw [z]; exact Nat.le_add_right _ _
        · rw [z]; exact Nat.le_add_right _ _
        · rw [z]; exact Nat.le_add_right _ _
        · rw [z]; exact Nat.le_refl _
        · rw [z]; exact Nat.le_add_right _ _
      exact I1.fpOk hle (I1.hok.fresh hle)
theorem iter_zipTT {e e2 : Expr} {ds es : List D} {p tpos : Pos} {elts : List Expr} {kk : Nat} (he : Ev X ρ e (.tuple ds)) (he2 : Ev X ρ e2 (.tuple es)) (hg : Gl X "zip") (hm : X.mg "zip" = none) (hs : starEach [e, e2] X.env = (false, eval e X.env) :: starEach [e2] X.env)
    (hs2 : starEach [e2] X.env = (false, eval e2 X.env) :: starEach [] X.env) (hp : ((backTo pos (starEach [e2] X.env)).any (·.1)) = false) :
    Iter X ρ (.Tuple elts kk tpos) (.Call (.Name "zip" p) [e, e2] [] pos) ((ds.zip es).map fun (q : D × D) => PyData.tuple [q.1, q.2]) := fun σ G H R E k =>
  wI_of (pi_zipTT hg hm pa_w hs hp) (evs_cons he (evs_cons he2 evs_nil hs2) hs σ G H _ E fun vs G1 H1 f1 hv => by
    obtain ⟨v, w, rfl, hx, hy⟩ := DpAll.two hv
    cases hx with
    | tup hs1 ha1 =>
      cases hy with
      | tup hs2 ha2 =>
        have n1 := DpAll.length ha1
        have n2 := DpAll.length ha2
        refine ⟨_, _, _, _, rfl, Same.tupq f1.s hs1, Same.tupq f1.s hs2, k _ G1 H1 f1 ⟨fun i H s hi => ?_, fun i H s hi => ?_, fun i G2 H x H' d s1 s2 hy hd => ?_⟩⟩
        · simp only [List.length_map, List.length_zip] at hi
          exact ⟨_, _, Same.tupq s hs1, Same.tupq s hs2, rfl, rfl, by omega, by omega⟩
        · simp only [List.length_map, List.length_zip] at hi
          exact ⟨_, _, Same.tupq s hs1, Same.tupq s hs2, rfl, rfl, by omega⟩
        · obtain ⟨T, x0, y0, rfl, hT, rfl, hall1, hall2⟩ := hy
          rw [List.getElem?_map] at hd
          cases q : (ds.zip es)[i]? with
          | none => rw [q] at hd; cases hd
          | some dd =>
            rw [q] at hd
            obtain ⟨d1, d2⟩ := dd
            obtain ⟨q1, q2⟩ := List.getElem?_zip_eq_some.mp q
            obtain ⟨v1, a1, b1⟩ := DpAll.get ha1 q1
            obtain ⟨v2, a2, b2⟩ := DpAll.get ha2 q2
            have e1 := hall1 _ (Same.tupq s2 (Same.tupq s1 hs1))
            have e2 := hall2 _ (Same.tupq s2 (Same.tupq s1 hs2))
            rw [a1] at e1
            rw [a2] at e2
            cases e1
            cases e2
            simp only [Option.map_some, Option.some.injEq] at hd
            subst hd
            have st := s1.trans (same_upd (o := .tup [x0, y0]) (s2.free hT))
            exact ⟨_, Frm.new s2 hT, .tup (.inl (.inl upd_same)) (.cons (Dp.same st b1) (.cons (Dp.same st b2) .nil))⟩)
end

/-! ## zip(tuple, tuple, list) -/
def ItzTTL (K : PySem.W.Frag) (a b c : Addr) (n1 n2 n3 : Nat) : It :=
  ⟨fun i H => ∃ (xs ys zs : List V), SqT K H a xs ∧ SqT K H b ys ∧ SqL K H c zs ∧ xs.length = n1 ∧ ys.length = n2 ∧ zs.length = n3 ∧ i < n1 ∧ i < n2 ∧ i < n3,
    fun i H v H' => ∃ T x y z, v = .ref T ∧ H T = none ∧ H' = upd H T (.tup [x, y, z]) ∧ (∀ xs, SqT K H a xs → xs[i]? = some x) ∧ (∀ ys, SqT K H b ys → ys[i]? = some y) ∧ ∀ zs, SqL K H c zs → zs[i]? = some z,
    fun i H => ∃ xs ys zs : List V, SqT K H a xs ∧ SqT K H b ys ∧ SqL K H c zs ∧ xs.length = n1 ∧ ys.length = n2 ∧ zs.length = n3 ∧ (n1 ≤ i ∨ n2 ≤ i ∨ n3 ≤ i)⟩
def stTTL (z TI TO i1 i2 i3 a b c : Addr) (n : Nat) (i : Nat) (h : Heap) : Prop := (IsZip h z TI TO .none ∧ IsTupOf3 h TI (.ref i1) (.ref i2) (.ref i3) ∧ (∃ x y u, IsTupOf3 h TO x y u) ∧ h.IsTupleIter i1 a i ∧ h.IsTupleIter i2 b i ∧ h.IsListIter i3 c i) ∧ i ≤ n
theorem turn_zipTTL {P : Program} {w : World} {K : PySem.W.Frag} {elts : List Expr} {kk : Nat} {tpos : Pos} {a b c z TI TO i1 i2 i3 : Addr} {n1 n2 n3 : Nat} (sep : ZipSep3 z TI TO i1 i2 i3 [i1, a] [i2, b] [i3, c]) (h1a : a ≠ i1) (h2b : b ≠ i2) (h3c : c ≠ i3) :
    Turn P w K (.Tuple elts kk tpos) (ItzTTL K a b c n1 n2 n3) [z, TI, TO, i1, i2, i3] z (stTTL z TI TO i1 i2 i3 a b c (min (min n1 n2) n3)) where
  mem := by simp
  obj := fun i h st q hq => by
    obtain ⟨⟨hz, hTI, ⟨x, y, u, hTO⟩, ⟨o1, e1, _, d1⟩, ⟨o2, e2, _, d2⟩, ⟨o3, e3, _, d3⟩⟩, _⟩ := st
    have e' : q = z ∨ q = TI ∨ q = TO ∨ q = i1 ∨ q = i2 ∨ q = i3 := by simpa using hq
    rcases e' with q | q | q | q | q | q
    · rw [q]; exact ⟨_, hz, fun v q => nomatch q⟩
    · rw [q]; exact ⟨_, hTI, fun v q => nomatch q⟩
    · rw [q]; exact ⟨_, hTO, fun v q => nomatch q⟩
    · rw [q]; exact ⟨o1, e1, fun v q => by rw [d1] at q; cases q⟩
    · rw [q]; exact ⟨o2, e2, fun v q => by rw [d2] at q; cases q⟩
    · rw [q]; exact ⟨o3, e3, fun v q => by rw [d3] at q; cases q⟩
  keep := fun i h h' st k => by
    obtain ⟨⟨hz, hTI, ⟨x, y, u, hTO⟩, h1, h2, h3⟩, hle⟩ := st
    exact ⟨⟨k z (by simp) _ hz, k TI (by simp) _ hTI, ⟨x, y, u, k TO (by simp) _ hTO⟩, h1.at fun o q => k i1 (by simp) o q, h2.at fun o q => k i2 (by simp) o q, h3.at fun o q => k i3 (by simp) o q⟩, hle⟩
  item := by
    intro X hP hw hK hc i pins s σ H E I hf st hg
    subst hP hw hK
    obtain ⟨⟨hz, hTI, hTO, h1, h2, h3⟩, hle⟩ := st
    obtain ⟨xs, ys, zs, hqx, hqy, hqz, ex, ey, ez, hi1, hi2, hi3⟩ := hg
    obtain ⟨its, rv, p, _⟩ := I.tuple hqx
    obtain ⟨its2, rv2, p2, _⟩ := I.tuple hqy
    obtain ⟨its3, rv3, p3, _⟩ := I.list hqz
    have l1 := rv.length
    have l2 := rv2.length
    have l3 := rv3.length
    have hh := I.ok.hd hc
    have W := WalksT.zipD3 (prog := X.prog) (w := X.w) (A := X.A) sep (Draws.tuple (A := X.A.in1) hh i1 a h1a its.toArray) (Draws.tuple (A := X.A.in1) hh i2 b h2b its2.toArray) (Draws.list (A := X.A.in1) hh i3 c h3c its3.toArray)
    refine W.item i s _ _ (by simp; omega) ⟨hz, hTI, hTO, ⟨h1, p⟩, ⟨h2, p2⟩, h3, p3.isList⟩ fun T vals h' tk hPt hT hTup hm hk => ⟨.ref T, rfl, ?_⟩
    refine W.go elts kk tpos i T { s with heap := h', toks := tk } _ _ hm fun h2' st2 hk2 => ?_
    obtain ⟨u, u2, u3, hu, hu2, hu3, rfl⟩ := hPt
    obtain ⟨x, hx, ru⟩ := vals_get rv (i := i) (v := u) (by simpa using hu)
    obtain ⟨y, hy, ru2⟩ := vals_get rv2 (i := i) (v := u2) (by simpa using hu2)
    obtain ⟨y3, hy3, ru3⟩ := vals_get rv3 (i := i) (v := u3) (by simpa using hu3)
    have hTup2 : h2'.IsTuple T #[u, u2, u3] := by
      obtain ⟨o, e1, e2, e3⟩ := hTup
      exact ⟨o, hk2 T o (W.apart i T h' hm) e1, e2, e3⟩
    have fpw : ∀ c ∈ [z, TO, i1, i2, i3], c ∈ [z, TI, TO, i1, i2, i3] := fun c hcm => by
      have e' : c = z ∨ c = TO ∨ c = i1 ∨ c = i2 ∨ c = i3 := by simpa using hcm
      rcases e' with q | q | q | q | q <;> subst q <;> simp
    have new : ObjOk X.prog X.w (upd H T (.tup [x, y, y3])) h2' T (.tup [x, y, y3]) := ⟨by show 3 ≤ sizeLine; decide, [u, u2, u3], .cons ru (.cons ru2 (.cons ru3 .nil)), hTup2⟩
    have I1 : Inv X pins σ (upd H T (.tup [x, y, y3])) { s with heap := h2', toks := tk } :=
      I.turnedNew (ch := [z, TO, i1, i2, i3]) (fun c o hb q => hk2 c o hb (hk c o hb q)) (fun c hcm => hf c (fpw c hcm)) hT new
    obtain ⟨a1, a2, a3, ⟨a4, _⟩, ⟨a5, _⟩, a6, _⟩ := st2
    refine ⟨.ref T, _, I1, rfl, ⟨T, x, y, y3, rfl, I.hok.fresh hT, rfl, fun l hl => by rw [I.tuple_inj hl hqx]; exact hx, fun l hl => by rw [I.tuple_inj hl hqy]; exact hy, fun l hl => by rw [I.list_inj hl hqz]; exact hy3⟩, ⟨⟨a1, a2, a3, a4, a5, a6⟩, by omega⟩, fun c hcm => ?_⟩
    have hlt : c ≠ T := fun e => by
      subst e
      have e' : c = z ∨ c = TI ∨ c = TO ∨ c = i1 ∨ c = i2 ∨ c = i3 := by simpa using hcm
      obtain ⟨x0, y0, u0, hTO⟩ := hTO
      have : c < s.heap.objs.size := by
        rcases e' with q | q | q | q | q | q
        · rw [q]; exact Heap.lt_size hz
        · rw [q]; exact Heap.lt_size hTI
        · rw [q]; exact Heap.lt_size hTO
        · rw [q]; obtain ⟨_, e1, _⟩ := h1; exact Heap.lt_size e1
        · rw [q]; obtain ⟨_, e2, _⟩ := h2; exact Heap.lt_size e2
        · rw [q]; obtain ⟨_, e3, _⟩ := h3; exact Heap.lt_size e3
      exact Nat.lt_irrefl _ (Nat.lt_of_lt_of_le this hT)
    rw [upd_ne hlt]
    exact (hf c hcm).1
  done := by
    intro X hP hw hK hc i pins s σ H E I hf st hg
    subst hP hw hK
    obtain ⟨⟨hz, hTI, hTO, h1, h2, h3⟩, hle⟩ := st
    obtain ⟨xs, ys, zs, hqx, hqy, hqz, ex, ey, ez, hend⟩ := hg
    obtain ⟨its, rv, p, _⟩ := I.tuple hqx
    obtain ⟨its2, rv2, p2, _⟩ := I.tuple hqy
    obtain ⟨its3, rv3, p3, _⟩ := I.list hqz
    have l1 := rv.length
    have l2 := rv2.length
    have l3 := rv3.length
    have hh := I.ok.hd hc
    have W := WalksT.zipD3 (prog := X.prog) (w := X.w) (A := X.A) sep (Draws.tuple (A := X.A.in1) hh i1 a h1a its.toArray) (Draws.tuple (A := X.A.in1) hh i2 b h2b its2.toArray) (Draws.list (A := X.A.in1) hh i3 c h3c its3.toArray)
    have hin : i = min (min its.toArray.size its2.toArray.size) its3.toArray.size := by simp; omega
    have fpw : ∀ c ∈ [z, TO, i1, i2, i3], c ∈ [z, TI, TO, i1, i2, i3] := fun c hcm => by
      have e' : c = z ∨ c = TO ∨ c = i1 ∨ c = i2 ∨ c = i3 := by simpa using hcm
      rcases e' with q | q | q | q | q <;> subst q <;> simp
    refine W.done s _ _ (by rw [← hin]; exact ⟨hz, hTI, hTO, ⟨h1, p⟩, ⟨h2, p2⟩, h3, p3.isList⟩) fun h' tk hk => ⟨rfl, I.turnedL (t' := tk) (ch := [z, TO, i1, i2, i3]) (fun c o hb q => hk c o hb q) fun c hcm => hf c (fpw c hcm)⟩
  self := fun A i s Q E st h => wpAny_pyIter_zip st.1.1 h
section
variable {X : Cx} {ρ : Envi} {pos : Pos}
theorem callWith_type3 {prog : Program} {w : World} {A : Around} {E : Value → Shared → Prop} {s : Shared} {T : String} {pos : Pos} {l : List (Bool × Sem Value)} {Q : Value → Shared → Prop} (h : wpAny (model prog w) A (callWith pos (.type T) [] l []) Q E s) : wpAny (model prog w) A (callWith pos (.type T) [] l []) Q E s := h
theorem DpAll.three {K : PySem.W.Frag} {G : Hp} {vs : List V} {d1 d2 d3 : D} (h : DpAll K G vs [d1, d2, d3]) : ∃ v w u, vs = [v, w, u] ∧ Dp K G v d1 ∧ Dp K G w d2 ∧ Dp K G u d3 := by
  cases h with
  | cons h1 h =>
    cases h with
    | cons h2 h =>
      cases h with
      | cons h3 h =>
        cases h
        exact ⟨_, _, _, rfl, h1, h2, h3⟩
def iZipTTL (K : PySem.W.Frag) (ta : TA) : TI := fun σ H R => ta σ H fun vs H1 => ∃ a b c xs ys zs, vs = [.ref a, .ref b, .ref c] ∧ SqT K H1 a xs ∧ SqT K H1 b ys ∧ SqL K H1 c zs ∧ R (ItzTTL K a b c xs.length ys.length zs.length) H1
theorem pi_zipTTL {e e2 e3 : Expr} {ta : TA} {p tpos : Pos} {elts : List Expr} {kk : Nat} (hg : Gl X "zip") (hm : X.mg "zip" = none) (ha : PA X [e, e2, e3] ta)
    (hs : starEach [e, e2, e3] X.env = (false, eval e X.env) :: starEach [e2, e3] X.env) (hpl : (backTo pos (starEach [e2, e3] X.env)).any (·.1) = false) :
    PI X (.Tuple elts kk tpos) (.Call (.Name "zip" p) [e, e2, e3] [] pos) (iZipTTL X.K ta) := by
  refine ⟨fun pins s σ H R I h => ?_⟩
  refine Call_ (ld_blt I hg hm PyProof.Rows.boot_zip (PyProof.Rows.callWith_type1 (thn (ha.run pos pins s σ H _ I h) fun us s1 ⟨vs, H1, I1, r1, q1⟩ => ?_) hs hpl))
  obtain ⟨a, b, c, xs, ys, zs, ex, hqx, hqy, hqz, q⟩ := q1
  subst ex
  cases r1 with
  | cons r rr =>
    cases rr with
    | cons r' rr =>
      cases rr with
      | cons r'' rr =>
        cases rr
        cases r
        cases r'
        cases r''
        obtain ⟨its, rv, p1, _⟩ := I1.tuple hqx
        obtain ⟨its2, rv2, p2, _⟩ := I1.tuple hqy
        obtain ⟨its3, rv3, p3, _⟩ := I1.list hqz
        have ha : a < s1.heap.objs.size := by obtain ⟨o2, ho2, _⟩ := id p1; exact Heap.lt_size ho2
        have hb : b < s1.heap.objs.size := by obtain ⟨o2, ho2, _⟩ := id p2; exact Heap.lt_size ho2
        have hc : c < s1.heap.objs.size := p3.lt
        refine zip_begins3 (begins_tuple a its.toArray) (begins_tuple b its2.toArray) (begins_list c its3.toArray) p1 p2 p3.isList fun h' hz hTI hTO h1 h2 h3 hsz hk => wpAny_pyIter_zip hz ?_
        generalize hN : s1.heap.objs.size = N at *
        have I2 : Inv X pins σ H1 { s1 with heap := h' } := I1.kept (t' := s1.toks) hk
        have sep : ZipSep3 (N + 5) (N + 3) (N + 4) N (N + 1) (N + 2) [N, a] [N + 1, b] [N + 2, c] := zip_sep3 (fp1 := [a]) (fp2 := [b]) (fp3 := [c]) (by simpa using ha) (by simpa using hb) (by simpa using hc)
        refine ⟨N + 5, [N + 5, N + 3, N + 4, N, N + 1, N + 2], _, _, H1, rfl, I2, turn_zipTTL (n1 := xs.length) (n2 := ys.length) (n3 := zs.length) sep (Nat.ne_of_lt ha) (Nat.ne_of_lt (Nat.lt_succ_of_lt hb)) (Nat.ne_of_lt (Nat.lt_succ_of_lt (Nat.lt_succ_of_lt hc))),
          ⟨⟨hz, hTI, ⟨_, _, _, hTO⟩, ⟨_, h1, rfl, rfl⟩, ⟨_, h2, rfl, rfl⟩, ⟨_, h3, rfl, rfl⟩⟩, Nat.zero_le _⟩, fun c hcm => ?_, q⟩
        have hle : s1.heap.objs.size ≤ c := by
          rw [hN]
          simp only [List.mem_cons, List.not_mem_nil, or_false] at hcm
          rcases hcm with z | z | z | z | z | z
          · rw [z]; exact Nat.le_add_right _ _
          · rw [z]; exact Nat.le_add_right _ _
          · rw [z]; exact Nat.le_add_right _ _
          · rw [z]; exact Nat.le_refl _
          · rw [z]; exact Nat.le_add_right _ _
          · rw [z]; exact Nat.le_add_right _ _
        exact I1.fpOk hle (I1.hok.fresh hle)
theorem iter_zipTTL {e e2 e3 : Expr} {ds es fs : List D} {p tpos : Pos} {elts : List Expr} {kk : Nat} (he : Ev X ρ e (.tuple ds)) (he2 : Ev X ρ e2 (.tuple es)) (he3 : Ev X ρ e3 (.list fs)) (hg : Gl X "zip") (hm : X.mg "zip" = none)
    (hs : starEach [e, e2, e3] X.env = (false, eval e X.env) :: starEach [e2, e3] X.env) (hs2 : starEach [e2, e3] X.env = (false, eval e2 X.env) :: starEach [e3] X.env) (hs3 : starEach [e3] X.env = (false, eval e3 X.env) :: starEach [] X.env)
    (hp : ((backTo pos (starEach [e2, e3] X.env)).any (·.1)) = false) :
    Iter X ρ (.Tuple elts kk tpos) (.Call (.Name "zip" p) [e, e2, e3] [] pos) ((ds.zip (es.zip fs)).map fun (q : D × D × D) => PyData.tuple [q.1, q.2.1, q.2.2]) := fun σ G H R E k =>
  wI_of (pi_zipTTL hg hm pa_w hs hp) (evs_cons he (evs_cons he2 (evs_cons he3 evs_nil hs3) hs2) hs σ G H _ E fun vs G1 H1 f1 hv => by
    obtain ⟨v, w, u, rfl, hx, hy, hz⟩ := DpAll.three hv
    cases hx with
    | tup hs1 ha1 =>
      cases hy with
      | tup hs2 ha2 =>
        cases hz with
        | lst hs3 ha3 =>
          have n1 := DpAll.length ha1
          have n2 := DpAll.length ha2
          have n3 := DpAll.length ha3
          refine ⟨_, _, _, _, _, _, rfl, Same.tupq f1.s hs1, Same.tupq f1.s hs2, f1.s.seq hs3, k _ G1 H1 f1 ⟨fun i H s hi => ?_, fun i H s hi => ?_, fun i G2 H2 x H' d s1 s2 hy hd => ?_⟩⟩
          · simp only [List.length_map, List.length_zip] at hi
            exact ⟨_, _, _, Same.tupq s hs1, Same.tupq s hs2, s.seq hs3, rfl, rfl, rfl, by omega, by omega, by omega⟩
          · simp only [List.length_map, List.length_zip] at hi
            exact ⟨_, _, _, Same.tupq s hs1, Same.tupq s hs2, s.seq hs3, rfl, rfl, rfl, by omega⟩
          · obtain ⟨T, x0, y0, z0, rfl, hT, rfl, hall1, hall2, hall3⟩ := hy
            rw [List.getElem?_map] at hd
            cases q : (ds.zip (es.zip fs))[i]? with
            | none => rw [q] at hd; cases hd
            | some dd =>
              rw [q] at hd
              obtain ⟨d1, d2, d3⟩ := dd
              obtain ⟨q1, q23⟩ := List.getElem?_zip_eq_some.mp q
              obtain ⟨q2, q3⟩ := List.getElem?_zip_eq_some.mp q23
              obtain ⟨v1, a1, b1⟩ := DpAll.get ha1 q1
              obtain ⟨v2, a2, b2⟩ := DpAll.get ha2 q2
              obtain ⟨v3, a3, b3⟩ := DpAll.get ha3 q3
              have e1 := hall1 _ (Same.tupq s2 (Same.tupq s1 hs1))
              have e2 := hall2 _ (Same.tupq s2 (Same.tupq s1 hs2))
              have e3 := hall3 _ (s2.seq (s1.seq hs3))
              rw [a1] at e1
              rw [a2] at e2
              rw [a3] at e3
              cases e1
              cases e2
              cases e3
              simp only [Option.map_some, Option.some.injEq] at hd
              subst hd
              have st := s1.trans (same_upd (o := .tup [x0, y0, z0]) (s2.free hT))
              exact ⟨_, Frm.new s2 hT, .tup (.inl (.inl upd_same)) (.cons (Dp.same st b1) (.cons (Dp.same st b2) (.cons (Dp.same st b3) .nil)))⟩)
end
section
variable {X : Cx} {ρ : Envi} {pos : Pos}
theorem iter_zipM {p : Pos} {tg e e2 : Expr} {α β : Type} {xs : List α} {ys : List β} {g : α → D} {h : β → D} (i : Iter X ρ tg (.Call (.Name "zip" p) [e, e2] [] pos) (((xs.map g).zip (ys.map h)).map fun q => .tuple [q.1, q.2])) :
    Iter X ρ tg (.Call (.Name "zip" p) [e, e2] [] pos) ((xs.zip ys).map fun q => .tuple [g q.1, h q.2]) := by
  rw [List.zip_map, List.map_map] at i
  exact i
theorem iter_zipM3 {p : Pos} {tg e e2 e3 : Expr} {α β γ : Type} {xs : List α} {ys : List β} {zs : List γ} {g : α → D} {h : β → D} {k : γ → D} (i : Iter X ρ tg (.Call (.Name "zip" p) [e, e2, e3] [] pos) (((xs.map g).zip ((ys.map h).zip (zs.map k))).map fun q => .tuple [q.1, q.2.1, q.2.2])) :
    Iter X ρ tg (.Call (.Name "zip" p) [e, e2, e3] [] pos) ((xs.zip (ys.zip zs)).map fun q => .tuple [g q.1, h q.2.1, k q.2.2]) := by
  rw [List.zip_map, List.zip_map, List.map_map] at i
  exact i
end
end DL

namespace DL
open PySem PySem.Spec PyProof.Rows L2
/-! ## f-strings of texts and whole numbers -/
abbrev numS (i : Int) : Str := Str.ofString (toString i)
theorem numS_len {i : Int} (h : i.natAbs.log2 < 1920) : (numS i).length ≤ 1921 := int_text_len_1921 h
theorem log2_small {i : Int} (h : -(10 ^ 100) ≤ i ∧ i ≤ 10 ^ 100) : i.natAbs.log2 < 1920 := by
  by_cases h0 : i.natAbs = 0
  · rw [h0]; decide
  · rw [Nat.log2_lt h0]
    have h1 : i.natAbs ≤ 10 ^ 100 := by
      have : ((10 : Nat) ^ 100 : Int) = 10 ^ 100 := by norm_cast
      omega
    exact Nat.lt_of_le_of_lt h1 (by decide +kernel)
theorem S_empty (a : Str) : Str.empty ++ a = a := by
  cases a with
  | mk c =>
    show (⟨#[] ++ c⟩ : Str) = ⟨c⟩
    simp
def catS (ys : List Str) : Str := ys.foldl (· ++ ·) Str.empty
inductive Pcs (X : Cx) (ρ : Envi) : List Expr → List Str → Prop where
  | nil : Pcs X ρ [] []
  | const {y : Str} {j : Nat} {pos : Pos} {es : List Expr} {ys : List Str} (r : Pcs X ρ es ys) : Pcs X ρ (.Constant (.str y) j pos :: es) (y :: ys)
  | str {e : Expr} {pos : Pos} {y : Str} {es : List Expr} {ys : List Str} (he : Ev X ρ e (.str y)) (hy : y.length ≤ sizeLine) (r : Pcs X ρ es ys) : Pcs X ρ (.FormattedValue e (-1) none pos :: es) (y :: ys)
  | int {e : Expr} {pos : Pos} {i : Int} {es : List Expr} {ys : List Str} (he : Ev X ρ e (.int i)) (hi : i.natAbs.log2 < 1920) (r : Pcs X ρ es ys) : Pcs X ρ (.FormattedValue e (-1) none pos :: es) (numS i :: ys)
theorem str_app_len (a b : Str) : (a ++ b).length = a.length + b.length := by
  show (a.cps ++ b.cps).size = _
  rw [Array.size_append]
  rfl
theorem pcs_run {X : Cx} {ρ : Envi} {es : List Expr} {ys : List Str} (h : Pcs X ρ es ys) : ∃ ts, PJ X es ts ∧ ∀ (acc : Str) σ G H (Q : Str → Hp → Prop), EnvR X.K G H σ ρ → acc.length + (ys.map (·.length)).sum ≤ sizeLine → (∀ G' H', Frm G H G' H' → Q (ys.foldl (· ++ ·) acc) H') → tJs ts acc σ H Q := by
  induction h with
  | nil => exact ⟨[], .nil, fun acc σ G H Q E hz k => k G H (.refl E.s)⟩
  | @const y j pos es ys r ih =>
    obtain ⟨ts, h1, h2⟩ := ih
    refine ⟨_ :: ts, .cons pe_str h1, fun acc σ G H Q E hz k => ?_⟩
    rw [List.map_cons, List.sum_cons] at hz
    exact ⟨y, rfl, by rw [str_app_len]; omega, h2 (acc ++ y) σ G H Q E (by rw [str_app_len]; omega) k⟩
  | @str e pos y es ys he hy r ih =>
    obtain ⟨ts, h1, h2⟩ := ih
    refine ⟨_ :: ts, .cons (pe_fmt pe_w) h1, fun acc σ G H Q E hz k => ?_⟩
    rw [List.map_cons, List.sum_cons] at hz
    refine he σ G H _ E fun v G1 H1 f1 hv => ?_
    cases hv
    exact .inl ⟨y, rfl, hy, y, rfl, by rw [str_app_len]; omega, h2 (acc ++ y) σ G1 H1 Q (E.frm f1) (by rw [str_app_len]; omega) fun G' H' f => k G' H' (f1.trans f)⟩
  | @int e pos i es ys he hi r ih =>
    obtain ⟨ts, h1, h2⟩ := ih
    refine ⟨_ :: ts, .cons (pe_fmt pe_w) h1, fun acc σ G H Q E hz k => ?_⟩
    rw [List.map_cons, List.sum_cons] at hz
    refine he σ G H _ E fun v G1 H1 f1 hv => ?_
    cases hv
    exact .inr ⟨i, rfl, hi, numS i, rfl, by rw [str_app_len]; omega, h2 (acc ++ numS i) σ G1 H1 Q (E.frm f1) (by rw [str_app_len]; omega) fun G' H' f => k G' H' (f1.trans f)⟩
section
variable {X : Cx} {ρ : Envi} {pos : Pos}
theorem ev_fs {v1 v2 : Expr} {rest : List Expr} {ys : List Str} (h : Pcs X ρ (v1 :: v2 :: rest) ys) (hz : (ys.map (·.length)).sum ≤ sizeLine) : Ev X ρ (.JoinedStr (v1 :: v2 :: rest) pos) (.str (catS ys)) := fun σ G H Q E k => by
  obtain ⟨ts, h1, h2⟩ := pcs_run h
  exact wE_of (pe_joined h1) (h2 Str.empty σ G H _ E (by show 0 + _ ≤ _; omega) fun G' H' f => k _ G' H' f (.str _))
theorem blt_strN {i : Int} (h : i.natAbs.log2 < 1920) : BltD X "str" [.int i] (.str (numS i)) := blt_strI h
end
theorem strOk_ofS (s : String) : PyData.strOk (Str.ofString s) = true := by
  unfold PyData.strOk
  rw [Str.ofString_eq_toList, ← Array.all_toList]
  refine List.all_eq_true.mpr fun c hc => ?_
  have hc : c ∈ s.toList.map Char.toNat := hc
  obtain ⟨x, _, rfl⟩ := List.mem_map.mp hc
  have hv : x.val.toNat < 0xD800 ∨ (0xDFFF < x.val.toNat ∧ x.val.toNat < 0x110000) := x.valid
  have : x.toNat = x.val.toNat := rfl
  exact decide_eq_true (by omega)
theorem strOk_app {a b : Str} (ha : PyData.strOk a = true) (hb : PyData.strOk b = true) : PyData.strOk (a ++ b) = true := by
  unfold PyData.strOk at *
  show (a.cps ++ b.cps).all _ = true
  rw [Array.all_append, ha, hb]
  rfl
theorem strOk_cat {ys : List Str} (h : ∀ y ∈ ys, PyData.strOk y = true) : PyData.strOk (catS ys) = true := by
  have : ∀ (ys : List Str) (a : Str), PyData.strOk a = true → (∀ y ∈ ys, PyData.strOk y = true) → PyData.strOk (ys.foldl (· ++ ·) a) = true := by
    intro ys
    induction ys with
    | nil => exact fun a h _ => h
    | cons y ys ih => exact fun a ha h => ih (a ++ y) (strOk_app ha (h y (by simp))) fun z hz => h z (by simp [hz])
  exact this ys Str.empty (by first | decide +kernel | (unfold PyData.strOk Str.empty; simp)) h
end DL

namespace PySem
open Sem (wp)
set_option maxHeartbeats 1000000 in
theorem dl_meets_enumerate_newB1 {v : Value} {o : Obj} {H : Heap → Prop} (B : Begins v o H) :
    Meets (Builtin.«enumerate.__new__» ⟨[.type "enumerate", v], []⟩) (fun _ R s => H s.heap ∧
      R (.ok (.ret (.ref (s.heap.push o).objs.size))) { s with heap := (s.heap.push o).push { cls := .type "enumerate", data := .fields #[.none, .bool false, .ref s.heap.objs.size, rawInt 0, .none, .none] } }) :=
  .of_wp fun prog w A R s h => by
    obtain ⟨hp, g, d, tk, os⟩ := s
    obtain ⟨h1, h⟩ := h
    have hsub := sub_enumerate
    have q1 : ∀ {A' : Around} {E : Value → Shared → Prop} {Q : Value → Shared → Prop}, Q (.ref hp.objs.size) ⟨hp.push o, g, d, tk, os⟩ → wpAny (model prog w) A' (pyIter v) Q E ⟨hp, g, d, tk, os⟩ :=
      fun q => B.iter prog w _ _ ⟨hp, g, d, tk, os⟩ _ h1 q
    wp_walk using q1
    refine wpAny_stack_any fun st => wpAny_pure ?_
    split
    · rename_i c _ _ _ _ _
      cases (c == Value.type "enumerate")
      · wp_walk using q1
        exact ⟨_, rfl, h⟩
      · wp_walk using q1
        exact ⟨_, rfl, h⟩
    · wp_walk using q1
      exact ⟨_, rfl, h⟩
section
variable {prog : Program} {w : World} {A : Around} {E : Value → Shared → Prop} {s : Shared}
theorem dl_enum_begins1 {v : Value} {o : Obj} {H : Heap → Prop} {Q : Value → Shared → Prop} (B : Begins v o H) (h1 : H s.heap)
    (h : ∀ h', IsEnum h' (s.heap.objs.size + 1) s.heap.objs.size 0 .none → h'.get? s.heap.objs.size = some o → h'.objs.size = s.heap.objs.size + 2 →
      (∀ b o, s.heap.get? b = some o → h'.get? b = some o) → Q (.ref (s.heap.objs.size + 1)) { s with heap := h' }) :
    wpAny (model prog w) A (call (.type "enumerate") [v]) Q E s := by
  refine callType_new F.called_enumerate (by decide) (F.typeCall_enumerate_1 _) (F.newCall_enumerate_1 _) (fun obj => F.args_object_init_2 obj _) F.entry_enumerate_new
    (dl_meets_enumerate_newB1 B) ⟨h1, ?_⟩
  have hz : (s.heap.push o).objs.size = s.heap.objs.size + 1 := Heap.size_push ..
  show _ ∧ _
  rw [hz]
  have he : IsEnum ((s.heap.push o).push { cls := .type "enumerate", data := .fields #[.none, .bool false, .ref s.heap.objs.size, rawInt 0, .none, .none] }) (s.heap.objs.size + 1) s.heap.objs.size 0 .none := by
    have := Heap.get?_push_size (s.heap.push o) (o := { cls := .type "enumerate", data := .fields #[.none, .bool false, .ref s.heap.objs.size, rawInt 0, .none, .none] }) rfl
    rw [hz] at this; exact this
  refine ⟨⟨_, he, rfl⟩, h _ he (Heap.get?_push_of_some _ (Heap.get?_push_size _ B.free)) (by rw [Heap.size_push, hz]) fun b o x => Heap.get?_push_of_some _ (Heap.get?_push_of_some _ x)⟩
end
end PySem
namespace DL
open PySem PySem.Spec PyProof.Rows L2
/-! ## enumerate(tuple) -/
def IteT (K : PySem.W.Frag) (a : Addr) (n : Nat) : It :=
  ⟨fun i H => ∃ xs : List V, SqT K H a xs ∧ xs.length = n ∧ i < n,
    fun i H v H' => ∃ T x, v = .ref T ∧ H T = none ∧ H' = upd H T (.tup [.int (i : Nat), x]) ∧ ∀ xs, SqT K H a xs → xs[i]? = some x,
    fun i H => ∃ xs : List V, SqT K H a xs ∧ xs.length = n ∧ n ≤ i⟩
def stET (e it a : Addr) (n : Nat) (i : Nat) (h : Heap) : Prop := ((∃ old, IsEnum h e it ((i : Nat) : Int) old) ∧ h.IsTupleIter it a i) ∧ i ≤ n
theorem turn_enumT {P : Program} {w : World} {K : PySem.W.Frag} {elts : List Expr} {kk : Nat} {tpos : Pos} {a e it : Addr} {n : Nat} (hei : e ≠ it) (hea : e ≠ a) (hai : a ≠ it) :
    Turn P w K (.Tuple elts kk tpos) (IteT K a n) [e, it] e (stET e it a n) where
  mem := by simp
  obj := fun i h st c hc => by
    obtain ⟨⟨⟨old, he⟩, ⟨o1, e1, _, d1⟩⟩, _⟩ := st
    have e' : c = e ∨ c = it := by simpa using hc
    rcases e' with q | q
    · rw [q]; exact ⟨_, he, fun v q => nomatch q⟩
    · rw [q]; exact ⟨o1, e1, fun v q => by rw [d1] at q; cases q⟩
  keep := fun i h h' st k => by
    obtain ⟨⟨⟨old, he⟩, h1⟩, hle⟩ := st
    exact ⟨⟨⟨old, k e (by simp) _ he⟩, h1.at fun o q => k it (by simp) o q⟩, hle⟩
  item := by
    intro X hP hw hK hc i pins s σ H E I hf st hg
    subst hP hw hK
    obtain ⟨⟨he, h1⟩, hle⟩ := st
    obtain ⟨xs, hqx, ex, hi1⟩ := hg
    obtain ⟨its, rv, p, _⟩ := I.tuple hqx
    have l1 := rv.length
    have hh := I.ok.hd hc
    have W := WalksT.enumerateD (Draws.tuple (prog := X.prog) (w := X.w) (A := X.A.in1) hh it a hai its.toArray) e hei (by simp; exact ⟨hei, hea⟩) (by simp)
    refine W.item i s _ _ (by simp; omega) ⟨he, h1, p⟩ fun T vals h' tk hPt hT hTup hm hk => ⟨.ref T, rfl, ?_⟩
    refine W.go elts kk tpos i T { s with heap := h', toks := tk } _ _ hm fun h2' st2 hk2 => ?_
    obtain ⟨t2, u, hu, rfl⟩ := hPt
    obtain ⟨x, hx, ru⟩ := vals_get rv (i := i) (v := u) (by simpa using hu)
    have hTup2 : h2'.IsTuple T #[.int (i : Nat) t2, u] := by
      obtain ⟨o, e1, e2, e3⟩ := hTup
      exact ⟨o, hk2 T o (W.apart i T h' hm) e1, e2, e3⟩
    have new : ObjOk X.prog X.w (upd H T (.tup [.int (i : Nat), x])) h2' T (.tup [.int (i : Nat), x]) := ⟨by show 2 ≤ sizeLine; decide, [.int (i : Nat) t2, u], .cons ⟨_, rfl⟩ (.cons ru .nil), hTup2⟩
    have I1 : Inv X pins σ (upd H T (.tup [.int (i : Nat), x])) { s with heap := h2', toks := tk } :=
      I.turnedNew (ch := [e, it]) (fun c o hb q => hk2 c o hb (hk c o hb q)) (fun c hcm => hf c hcm) hT new
    obtain ⟨a1, ⟨a2, _⟩⟩ := st2
    refine ⟨.ref T, _, I1, rfl, ⟨T, x, rfl, I.hok.fresh hT, rfl, fun l hl => by rw [I.tuple_inj hl hqx]; exact hx⟩, ⟨⟨a1, a2⟩, by omega⟩, fun c hcm => ?_⟩
    have hlt : c ≠ T := fun e2 => by
      subst e2
      have e' : c = e ∨ c = it := by simpa using hcm
      have : c < s.heap.objs.size := by
        rcases e' with q | q
        · rw [q]; obtain ⟨_, he⟩ := he; exact Heap.lt_size he
        · rw [q]; obtain ⟨_, e1, _⟩ := h1; exact Heap.lt_size e1
      exact Nat.lt_irrefl _ (Nat.lt_of_lt_of_le this hT)
    rw [upd_ne hlt]
    exact (hf c hcm).1
  done := by
    intro X hP hw hK hc i pins s σ H E I hf st hg
    subst hP hw hK
    obtain ⟨⟨he, h1⟩, hle⟩ := st
    obtain ⟨xs, hqx, ex, hend⟩ := hg
    obtain ⟨its, rv, p, _⟩ := I.tuple hqx
    have l1 := rv.length
    have hh := I.ok.hd hc
    have W := WalksT.enumerateD (Draws.tuple (prog := X.prog) (w := X.w) (A := X.A.in1) hh it a hai its.toArray) e hei (by simp; exact ⟨hei, hea⟩) (by simp)
    have hin : i = its.toArray.size := by simp; omega
    refine W.done s _ _ (by rw [← hin]; exact ⟨he, h1, p⟩) fun h' tk hk => ⟨rfl, I.turnedL (t' := tk) (ch := [e, it]) (fun c o hb q => hk c o hb q) fun c hcm => hf c hcm⟩
  self := fun A i s Q E st h => by
    obtain ⟨⟨⟨old, h1⟩, _⟩, _⟩ := st
    exact wpAny_pyIter_enum h1 h
section
variable {X : Cx} {ρ : Envi} {pos : Pos}
def iEnumT (K : PySem.W.Frag) (ta : TA) : TI := fun σ H R => ta σ H fun vs H1 => ∃ a xs, vs = [.ref a] ∧ SqT K H1 a xs ∧ R (IteT K a xs.length) H1
theorem pi_enumT {e : Expr} {ta : TA} {p tpos : Pos} {elts : List Expr} {kk : Nat} (hg : Gl X "enumerate") (hm : X.mg "enumerate" = none) (ha : PA X [e] ta) (hs : starEach [e] X.env = (false, eval e X.env) :: starEach [] X.env) :
    PI X (.Tuple elts kk tpos) (.Call (.Name "enumerate" p) [e] [] pos) (iEnumT X.K ta) := by
  refine ⟨fun pins s σ H R I h => ?_⟩
  refine Call_ (ld_blt I hg hm boot_enumerate (PyProof.Rows.callWith_type1 (thn (ha.run pos pins s σ H _ I h) fun us s1 ⟨vs, H1, I1, r1, q1⟩ => ?_) hs rfl))
  obtain ⟨a, xs, ex, hqx, q⟩ := q1
  subst ex
  cases r1 with
  | cons r rr =>
    cases rr
    cases r
    obtain ⟨its, rv, p1, _⟩ := I1.tuple hqx
    have ha : a < s1.heap.objs.size := by obtain ⟨o2, ho2, _⟩ := id p1; exact Heap.lt_size ho2
    refine dl_enum_begins1 (begins_tuple a its.toArray) p1 fun h' he h1 hsz hk => wpAny_pyIter_enum he ?_
    generalize hN : s1.heap.objs.size = N at *
    have I2 : Inv X pins σ H1 { s1 with heap := h' } := I1.kept (t' := s1.toks) hk
    refine ⟨N + 1, [N + 1, N], _, _, H1, rfl, I2, turn_enumT (n := xs.length) (Nat.succ_ne_self _) (Nat.ne_of_gt (Nat.lt_succ_of_lt ha)) (Nat.ne_of_lt ha), ⟨⟨⟨_, he⟩, ⟨_, h1, rfl, rfl⟩⟩, Nat.zero_le _⟩, fun c hcm => ?_, q⟩
    have hle : s1.heap.objs.size ≤ c := by
      rw [hN]
      simp only [List.mem_cons, List.not_mem_nil, or_false] at hcm
      rcases hcm with z | z
      · rw [z]; exact Nat.le_add_right _ _
      · rw [z]; exact Nat.le_refl _
    exact I1.fpOk hle (I1.hok.fresh hle)
theorem iter_enumT {e : Expr} {ds : List D} {p tpos : Pos} {elts : List Expr} {kk : Nat} (he : Ev X ρ e (.tuple ds)) (hg : Gl X "enumerate") (hm : X.mg "enumerate" = none) (hs : starEach [e] X.env = (false, eval e X.env) :: starEach [] X.env) :
    Iter X ρ (.Tuple elts kk tpos) (.Call (.Name "enumerate" p) [e] [] pos) (ds.zipIdx.map fun (q : D × Nat) => PyData.tuple [.int ((q.2 : Nat) : Int), q.1]) := fun σ G H R E k =>
  wI_of (pi_enumT hg hm pa_w hs) (evs_cons he evs_nil hs σ G H _ E fun vs G1 H1 f1 hv => by
    obtain ⟨v, rfl, hx⟩ := DpAll.one hv
    cases hx with
    | tup hs ha =>
      have n1 := DpAll.length ha
      refine ⟨_, _, rfl, Same.tupq f1.s hs, k _ G1 H1 f1 ⟨fun i H s hi => ?_, fun i H s hi => ?_, fun i G2 H x H' d s1 s2 hy hd => ?_⟩⟩
      · simp only [List.length_map, List.length_zipIdx] at hi
        exact ⟨_, Same.tupq s hs, rfl, by omega⟩
      · simp only [List.length_map, List.length_zipIdx] at hi
        exact ⟨_, Same.tupq s hs, rfl, by omega⟩
      · obtain ⟨T, x0, rfl, hT, rfl, hall⟩ := hy
        rw [List.getElem?_map, List.getElem?_zipIdx] at hd
        cases q : ds[i]? with
        | none => rw [q] at hd; cases hd
        | some d0 =>
          rw [q] at hd
          obtain ⟨v, h1, h2⟩ := DpAll.get ha q
          have e := hall _ (Same.tupq s2 (Same.tupq s1 hs))
          rw [h1] at e
          cases e
          simp only [Option.map_some, Option.some.injEq, Nat.zero_add] at hd
          subst hd
          have st := s1.trans (same_upd (o := .tup [.int (i : Nat), x0]) (s2.free hT))
          exact ⟨_, Frm.new s2 hT, .tup (.inl (.inl upd_same)) (.cons (.int _) (.cons (Dp.same st h2) .nil))⟩)
theorem iter_enumM {p : Pos} {tg e : Expr} {α : Type} {xs : List α} {g : α → D} (h : Iter X ρ tg (.Call (.Name "enumerate" p) [e] [] pos) (((xs.map g).zipIdx).map fun q => .tuple [.int (q.2 : Nat), q.1])) :
    Iter X ρ tg (.Call (.Name "enumerate" p) [e] [] pos) (xs.zipIdx.map fun q => .tuple [.int (q.2 : Nat), g q.1]) := by
  rw [List.zipIdx_map, List.map_map] at h
  exact h
end
end DL

namespace DL
open PySem PySem.Spec PyProof.Rows L2
/-! ## list(r), r a range that is kept -/
section
variable {X : Cx} {ρ : Envi} {pos : Pos}
theorem prg_kept {y : Str} {k : Nat} {p : Pos} {i j : Int} (hN : X.N[k]? = some y) (hv : Vis X.env.scope y) (hd : (y == ("__debug__" : Str)) = false) (hcd : (y == ("__classdict__" : Str)) = false) :
    PRg X (.Name y p) (fun σ H Q => ∃ q, σ[k]? = some (some (.ref q)) ∧ H q = some (.ext (rngF q i j 1)) ∧ Q i j H) := by
  intro pins s σ H Q I ⟨q, f1, f2, hR⟩
  refine thn ((pe_var hN hv hd hcd).run pins s σ H (fun x H1 => x = .ref q ∧ H1 = H) I ⟨.ref q, f1, rfl, rfl⟩) fun v s1 ⟨x, H1, I1, r1, e1, e2⟩ => ?_
  subst e1 e2
  obtain ⟨⟨t, u, v', ho⟩, _, _⟩ := I1.hok q _ f2
  cases r1
  exact ⟨q, i, j, t, u, v', _, rfl, ho, I1, hR⟩
theorem evl_listKept {y : Str} {k : Nat} {p p2 : Pos} {i j : Int} (h0 : ρ[k]? = some (.raw (rngS i j 1))) (hk : 0 ≤ i ∧ i ≤ 16777216 ∧ 0 ≤ j ∧ j ≤ 16777216) (hN : X.N[k]? = some y) (hv : Vis X.env.scope y) (hc : X.calm = true) (hg2 : Gl X "list") (hm2 : X.mg "list" = none)
    (hd : (y == ("__debug__" : Str)) = false) (hcd : (y == ("__classdict__" : Str)) = false) (n2 : starEach [.Name y p2] X.env = (false, eval (.Name y p2) X.env) :: starEach [] X.env) :
    EvL X ρ (.Call (.Name "list" p) [.Name y p2] [] pos) (((List.range (j - i).toNat).map fun (m : Nat) => i + (m : Int)).map .int) := fun σ G H Q E k => by
  obtain ⟨_, v, e1, q, rfl, e2⟩ := E.raw _ _ h0
  refine wE_of (pe_listRg hc hg2 hm2 (prg_kept hN hv hd hcd) n2) ⟨q, e1, E.s _ _ e2, RgOk.of_le hk.1 hk.2.2.2 hk.2.1 hk.2.2.1, fun a ha => ?_⟩
  have e : rgV i j = ((List.range (j - i).toNat).map fun (m : Nat) => i + (m : Int)).map V.int := by
    unfold rgV
    rw [List.map_map]
    rfl
  refine k a _ G _ (Frm.priv E.s ha) upd_same (E.s.free ha) ha ?_
  rw [e]
  exact DpAll.ofInts _
end
/-! ## sum of a tuple -/
section
variable {X : Cx}
theorem cr_sumT (hc : X.calm = true) : CallR X (.builtin "sum") (fun vs H Q => ∃ (a : Addr) (ns : List Int), vs = [V.ref a] ∧ SqT X.K H a (ns.map V.int) ∧ Q (.int ns.sum) H) := by
  intro pins s σ H vs us Q I r h
  obtain ⟨a, ns, rfl, hs, q⟩ := h
  obtain ⟨its, rv, hl, _⟩ := I.tuple hs
  rw [Vals.ref1 r]
  obtain ⟨xs, e⟩ := rv.ints.allInts.items
  have hn : numsOf (intItems xs).toList = ns := by rw [← e]; exact rv.ints.numsOf
  rw [nums_intItems] at hn
  rw [e] at hl
  refine PySem.W.ktm_sumG (I.ok.hd hc) hl fun h' tk t' hk => ?_
  rw [preSum_eq, List.take_of_length_le (by simp), hn]
  exact ⟨.int _, H, I.kept hk, ⟨_, rfl⟩, q⟩
theorem blt_sumT {ns : List Int} (hc : X.calm = true) : BltD X "sum" [.tuple (ns.map .int)] (.int ns.sum) := ⟨_, .inl ⟨_, by decide +kernel, cr_sumT hc⟩, fun vs G H Q s hv k => by
  obtain ⟨v, rfl, hx⟩ := DpAll.one hv
  cases hx with
  | tup hs ha =>
    have e := DpAll.ints ha
    subst e
    exact ⟨_, ns, rfl, Same.tupq s hs, k.here s (.int _)⟩⟩
end
end DL

namespace DL
open PySem PySem.Spec PyProof.Rows L2
/-! ## enumerate(list, start=k) -/
section
variable {M : Model} {A : Around} {E : Value → Shared → Prop} {s : Shared} {env : Env}
theorem callWith_tykw {pos : Pos} {T : String} {e : Expr} {rest : List Expr} {kws : List Keyword} {Q : Value → Shared → Prop}
    (h : wpAny M A (spliced (backTo pos (starEach (e :: rest) env))) (fun vs s₁ => wpAny M A (evalAll ((backToKw pos (keywordEach kws env)).map (·.2)))
      (fun kvs s₂ => wpAny M A (call (.type T) vs (((backToKw pos (keywordEach kws env)).filterMap (·.1)).zip kvs)) Q E s₂) E s₁) E s)
    (he : backTo pos (starEach (e :: rest) env) = (false, eval e env) :: backTo pos (starEach rest env))
    (hplain : (backTo pos (starEach (e :: rest) env)).any (·.1) = false)
    (hall : (backToKw pos (keywordEach kws env)).all (·.1.isSome) = true)
    (hkw : (backToKw pos (keywordEach kws env)).any (·.1.isNone) = false) :
    wpAny M A (callWith pos (.type T) [] (backTo pos (starEach (e :: rest) env)) (backToKw pos (keywordEach kws env))) Q E s := by
  have h2 : wpAny M A (evalArgs (.type T) true (backTo pos (starEach (e :: rest) env)) (backToKw pos (keywordEach kws env))) (fun a s₁ => wpAny M A (call (.type T) ([] ++ a.pos) a.kw) Q E s₁) E s := by
    rw [he] at h ⊢
    exact evalArgs_kwB hall h
  unfold callWith
  refine wpAny_bind (wpAny_holding (wpAny_mono h2 (fun a s₁ h₁ => wpAny_bind (wpAny_standAt ?_)) fun _ _ x => x))
  simp only [hplain, hkw, Bool.or_false]
  refine wpAny_bind (wpAny_pure ?_)
  exact wpAny_bind (wpAny_mono h₁ (fun r s₂ hr => wpAny_bind (wpAny_holding (wpAny_point (wpAny_pure hr)))) fun _ _ x => x)
end
def IteK (K : PySem.W.Frag) (k0 : Int) (a : Addr) (n : Nat) : It :=
  ⟨fun i H => ∃ xs : List V, SqL K H a xs ∧ xs.length = n ∧ i < n,
    fun i H v H' => ∃ T x, v = .ref T ∧ H T = none ∧ H' = upd H T (.tup [.int (k0 + (i : Nat)), x]) ∧ ∀ xs, SqL K H a xs → xs[i]? = some x,
    fun i H => ∃ xs : List V, SqL K H a xs ∧ xs.length = n ∧ n ≤ i⟩
def stEK (k0 : Int) (e it a : Addr) (n : Nat) (i : Nat) (h : Heap) : Prop := ((∃ old, IsEnum h e it (k0 + ((i : Nat) : Int)) old) ∧ h.IsListIter it a i) ∧ i ≤ n
theorem turn_enumK {P : Program} {w : World} {K : PySem.W.Frag} {elts : List Expr} {kk : Nat} {tpos : Pos} {k0 : Int} {a e it : Addr} {n : Nat} (hei : e ≠ it) (hea : e ≠ a) (hai : a ≠ it) :
    Turn P w K (.Tuple elts kk tpos) (IteK K k0 a n) [e, it] e (stEK k0 e it a n) where
  mem := by simp
  obj := fun i h st c hc => by
    obtain ⟨⟨⟨old, he⟩, ⟨o1, e1, _, d1⟩⟩, _⟩ := st
    have e' : c = e ∨ c = it := by simpa using hc
    rcases e' with q | q
    · rw [q]; exact ⟨_, he, fun v q => nomatch q⟩
    · rw [q]; exact ⟨o1, e1, fun v q => by rw [d1] at q; cases q⟩
  keep := fun i h h' st k => by
    obtain ⟨⟨⟨old, he⟩, h1⟩, hle⟩ := st
    exact ⟨⟨⟨old, k e (by simp) _ he⟩, h1.at fun o q => k it (by simp) o q⟩, hle⟩
  item := by
    intro X hP hw hK hc i pins s σ H E I hf st hg
    subst hP hw hK
    obtain ⟨⟨he, h1⟩, hle⟩ := st
    obtain ⟨xs, hqx, ex, hi1⟩ := hg
    obtain ⟨its, rv, p, _⟩ := I.list hqx
    have l1 := rv.length
    have hh := I.ok.hd hc
    have W := WalksT.enumFrom k0 (Draws.list (prog := X.prog) (w := X.w) (A := X.A.in1) hh it a hai its.toArray) e hei (by simp; exact ⟨hei, hea⟩) (by simp)
    refine W.item i s _ _ (by simp; omega) ⟨he, h1, p.isList⟩ fun T vals h' tk hPt hT hTup hm hk => ⟨.ref T, rfl, ?_⟩
    refine W.go elts kk tpos i T { s with heap := h', toks := tk } _ _ hm fun h2' st2 hk2 => ?_
    obtain ⟨t2, u, hu, rfl⟩ := hPt
    obtain ⟨x, hx, ru⟩ := vals_get rv (i := i) (v := u) (by simpa using hu)
    have hTup2 : h2'.IsTuple T #[.int (k0 + (i : Nat)) t2, u] := by
      obtain ⟨o, e1, e2, e3⟩ := hTup
      exact ⟨o, hk2 T o (W.apart i T h' hm) e1, e2, e3⟩
    have new : ObjOk X.prog X.w (upd H T (.tup [.int (k0 + (i : Nat)), x])) h2' T (.tup [.int (k0 + (i : Nat)), x]) := ⟨by show 2 ≤ sizeLine; decide, [.int (k0 + (i : Nat)) t2, u], .cons ⟨_, rfl⟩ (.cons ru .nil), hTup2⟩
    have I1 : Inv X pins σ (upd H T (.tup [.int (k0 + (i : Nat)), x])) { s with heap := h2', toks := tk } :=
      I.turnedNew (ch := [e, it]) (fun c o hb q => hk2 c o hb (hk c o hb q)) (fun c hcm => hf c hcm) hT new
    obtain ⟨a1, ⟨a2, _⟩⟩ := st2
    refine ⟨.ref T, _, I1, rfl, ⟨T, x, rfl, I.hok.fresh hT, rfl, fun l hl => by rw [I.list_inj hl hqx]; exact hx⟩, ⟨⟨a1, a2⟩, by omega⟩, fun c hcm => ?_⟩
    have hlt : c ≠ T := fun e2 => by
      subst e2
      have e' : c = e ∨ c = it := by simpa using hcm
      have : c < s.heap.objs.size := by
        rcases e' with q | q
        · rw [q]; obtain ⟨_, he⟩ := he; exact Heap.lt_size he
        · rw [q]; obtain ⟨_, e1, _⟩ := h1; exact Heap.lt_size e1
      exact Nat.lt_irrefl _ (Nat.lt_of_lt_of_le this hT)
    rw [upd_ne hlt]
    exact (hf c hcm).1
  done := by
    intro X hP hw hK hc i pins s σ H E I hf st hg
    subst hP hw hK
    obtain ⟨⟨he, h1⟩, hle⟩ := st
    obtain ⟨xs, hqx, ex, hend⟩ := hg
    obtain ⟨its, rv, p, _⟩ := I.list hqx
    have l1 := rv.length
    have hh := I.ok.hd hc
    have W := WalksT.enumFrom k0 (Draws.list (prog := X.prog) (w := X.w) (A := X.A.in1) hh it a hai its.toArray) e hei (by simp; exact ⟨hei, hea⟩) (by simp)
    have hin : i = its.toArray.size := by simp; omega
    refine W.done s _ _ (by rw [← hin]; exact ⟨he, h1, p.isList⟩) fun h' tk hk => ⟨rfl, I.turnedL (t' := tk) (ch := [e, it]) (fun c o hb q => hk c o hb q) fun c hcm => hf c hcm⟩
  self := fun A i s Q E st h => by
    obtain ⟨⟨⟨old, h1⟩, _⟩, _⟩ := st
    exact wpAny_pyIter_enum h1 h
section
variable {X : Cx} {ρ : Envi} {pos : Pos}
def iEnumK (K : PySem.W.Frag) (ta tk : TA) : TI := fun σ H R => ta σ H fun vs H1 => tk σ H1 fun zs H2 => ∃ a xs k0, vs = [.ref a] ∧ zs = [.int k0] ∧ -(2 ^ 62) ≤ k0 ∧ k0 < 2 ^ 62 ∧ SqL K H2 a xs ∧ R (IteK K k0 a xs.length) H2
theorem pi_enumK {e ek : Expr} {ta tk : TA} {p tpos kp : Pos} {elts : List Expr} {kk : Nat} (hg : Gl X "enumerate") (hm : X.mg "enumerate" = none) (ha : PA X [e] ta) (hk : PK X [⟨some "start", ek, kp⟩] tk)
    (he : backTo pos (starEach [e] X.env) = (false, eval e X.env) :: backTo pos (starEach [] X.env)) (hpl : (backTo pos (starEach [e] X.env)).any (·.1) = false)
    (hall : (backToKw pos (keywordEach [⟨some "start", ek, kp⟩] X.env)).all (·.1.isSome) = true) (hnone : (backToKw pos (keywordEach [⟨some "start", ek, kp⟩] X.env)).any (·.1.isNone) = false) (hks : (backToKw pos (keywordEach [⟨some "start", ek, kp⟩] X.env)).filterMap (·.1) = [Str.ofString "start"]) :
    PI X (.Tuple elts kk tpos) (.Call (.Name "enumerate" p) [e] [⟨some "start", ek, kp⟩] pos) (iEnumK X.K ta tk) := by
  refine ⟨fun pins s σ H R I h => ?_⟩
  refine wpAny_Call_Name_kw (ld_blt I hg hm boot_enumerate (callWith_tykw (thn (ha.run pos pins s σ H _ I h) fun us s1 ⟨vs, H1, I1, r1, q1⟩ => thn (hk.run pos pins s1 σ H1 _ I1 q1) fun ws s2 ⟨zs, H2, I2, r2, q2⟩ => ?_) he hpl hall hnone))
  rw [hks]
  obtain ⟨a, xs, k0, ex, ez, hk0, hk1, hqx, q⟩ := q2
  subst ex ez
  cases r1 with
  | cons r rr =>
    cases rr
    cases r
    cases r2 with
    | cons z zr =>
      cases zr
      obtain ⟨t, rfl⟩ := z
      obtain ⟨its, rv, p1, _⟩ := I2.list hqx
      have ha : a < s2.heap.objs.size := p1.lt
      refine enum_begins_start (begins_list a its.toArray) p1.isList (by omega) (by omega) fun h' he h1 hsz hk => wpAny_pyIter_enum he ?_
      generalize hN : s2.heap.objs.size = N at *
      have I3 : Inv X pins σ H2 { s2 with heap := h' } := I2.kept (t' := s2.toks) hk
      refine ⟨N + 1, [N + 1, N], _, _, H2, rfl, I3, turn_enumK (k0 := k0) (n := xs.length) (Nat.succ_ne_self _) (Nat.ne_of_gt (Nat.lt_succ_of_lt ha)) (Nat.ne_of_lt ha), ⟨⟨⟨_, by rw [show k0 + (((0 : Nat) : Nat) : Int) = k0 by omega]; exact he⟩, ⟨_, h1, rfl, rfl⟩⟩, Nat.zero_le _⟩, fun c hcm => ?_, q⟩
      have hle : s2.heap.objs.size ≤ c := by
        rw [hN]
        simp only [List.mem_cons, List.not_mem_nil, or_false] at hcm
        rcases hcm with z | z
        · rw [z]; exact Nat.le_add_right _ _
        · rw [z]; exact Nat.le_refl _
      exact I2.fpOk hle (I2.hok.fresh hle)
theorem iter_enumK {e ek : Expr} {ds : List D} {p tpos kp : Pos} {elts : List Expr} {kk : Nat} {k0 : Int} (he : Ev X ρ e (.list ds)) (hek : Ev X ρ ek (.int k0)) (hk : -(2 ^ 62) ≤ k0 ∧ k0 < 2 ^ 62) (hg : Gl X "enumerate") (hm : X.mg "enumerate" = none) (hs : starEach [e] X.env = (false, eval e X.env) :: starEach [] X.env)
    (heb : backTo pos (starEach [e] X.env) = (false, eval e X.env) :: backTo pos (starEach [] X.env)) (hpl : (backTo pos (starEach [e] X.env)).any (·.1) = false)
    (hall : (backToKw pos (keywordEach [⟨some "start", ek, kp⟩] X.env)).all (·.1.isSome) = true) (hnone : (backToKw pos (keywordEach [⟨some "start", ek, kp⟩] X.env)).any (·.1.isNone) = false) (hks : (backToKw pos (keywordEach [⟨some "start", ek, kp⟩] X.env)).filterMap (·.1) = [Str.ofString "start"]) :
    Iter X ρ (.Tuple elts kk tpos) (.Call (.Name "enumerate" p) [e] [⟨some "start", ek, kp⟩] pos) (ds.zipIdx.map fun (q : D × Nat) => PyData.tuple [.int (k0 + ((q.2 : Nat) : Int)), q.1]) := fun σ G H R E k =>
  wI_of (pi_enumK hg hm pa_w (pk_cons pe_w pk_nil) heb hpl hall hnone hks) (evs_cons he evs_nil hs σ G H _ E fun vs G1 H1 f1 hv => by
    refine hek σ G1 H1 _ (E.frm f1) fun z G2 H2 f2 hz => ?_
    cases hz
    obtain ⟨v, rfl, hx⟩ := DpAll.one hv
    cases hx with
    | lst hs ha =>
      have n1 := DpAll.length ha
      have ha2 := DpAll.same f2.g ha
      refine ⟨_, _, k0, rfl, rfl, hk.1, hk.2, f2.s.seq (f2.g.seq hs), k _ G2 H2 (f1.trans f2) ⟨fun i H s hi => ?_, fun i H s hi => ?_, fun i G3 H3 x H' d s1 s2 hy hd => ?_⟩⟩
      · simp only [List.length_map, List.length_zipIdx] at hi
        exact ⟨_, s.seq (f2.g.seq hs), rfl, by omega⟩
      · simp only [List.length_map, List.length_zipIdx] at hi
        exact ⟨_, s.seq (f2.g.seq hs), rfl, by omega⟩
      · obtain ⟨T, x0, rfl, hT, rfl, hall⟩ := hy
        rw [List.getElem?_map, List.getElem?_zipIdx] at hd
        cases q : ds[i]? with
        | none => rw [q] at hd; cases hd
        | some d0 =>
          rw [q] at hd
          obtain ⟨v, h1, h2⟩ := DpAll.get ha2 q
          have e := hall _ (s2.seq (s1.seq (f2.g.seq hs)))
          rw [h1] at e
          cases e
          simp only [Option.map_some, Option.some.injEq, Nat.zero_add] at hd
          subst hd
          have st := s1.trans (same_upd (o := .tup [.int (k0 + (i : Nat)), x0]) (s2.free hT))
          exact ⟨_, Frm.new s2 hT, .tup (.inl (.inl upd_same)) (.cons (.int _) (.cons (Dp.same st h2) .nil))⟩)
end
end DL

namespace DL
open PySem PySem.Spec PyProof.Rows L2
section
variable {X : Cx} {ρ : Envi} {pos : Pos} {ss : List Stmt} {st : List (List Stmt)} {O : Out → Prop}
/-- a, b, c = x, y, z with plain local names -/
theorem sm_par3 {i j l : Nat} {x y z : Str} {a b c : Expr} {px py pz pt : Pos} {kt k2 : Nat} {pt2 : Pos} {d1 d2 d3 : D} (ha : Ev X ρ a d1) (hb : Ev X ρ b d2) (hc' : Ev X ρ c d3) (hc : X.calm = true) (hN : X.N.Nodup) (hi : X.N[i]? = some x) (hj : X.N[j]? = some y) (hl : X.N[l]? = some z) (hij : i ≠ j) (hil : i ≠ l) (hjl : j ≠ l)
    (hx : X.env.scope.names.lookup x = some .local) (hy : X.env.scope.names.lookup y = some .local) (hz : X.env.scope.names.lookup z = some .local)
    (hs1 : starEach [a, b, c] X.env = (false, eval a X.env) :: starEach [b, c] X.env) (hs2 : starEach [b, c] X.env = (false, eval b X.env) :: starEach [c] X.env) (hs3 : starEach [c] X.env = (false, eval c X.env) :: starEach [] X.env)
    (hw : swappedStores [.Tuple [.Name x px, .Name y py, .Name z pz] kt pt] (.Tuple [a, b, c] k2 pt2) X.env = pure (some [x, y, z])) (hs : swapsWithSole [.Tuple [.Name x px, .Name y py, .Name z pz] kt pt] (.Tuple [a, b, c] k2 pt2) pos.line X.env = pure false) :
    Sm X ρ (.Assign [.Tuple [.Name x px, .Name y py, .Name z pz] kt pt] (.Tuple [a, b, c] k2 pt2) pos) (((ρ.set i (.dat d1)).set j (.dat d2)).set l (.dat d3)) := fun G0 H0 G H σ D S k =>
  wS_of (ps_par3 hc hN hi hj hl hij hil hjl hx hy hz pa_w hw hs) (evs_cons ha (evs_cons hb (evs_cons hc' evs_nil hs3) hs2) hs1 σ G H _ S.env fun vs G1 H1 f1 hv => by
    cases hv with
    | cons h1 r => cases r with
      | cons h2 r => cases r with
        | cons h3 r =>
          cases r
          have S1 := (S.go f1).tg ((S.env.frm f1).set h1 i) (KeepO.set S.env.len)
          have S2 := S1.tg (S1.env.set h2 j) (KeepO.set S1.env.len)
          exact ⟨_, _, _, rfl, k G1 H1 _ (S2.tg (S2.env.set h3 l) (KeepO.set S2.env.len))⟩)
theorem bk_par3 {i j l : Nat} {x y z : Str} {a b c : Expr} {px py pz pt : Pos} {kt k2 : Nat} {pt2 : Pos} {d1 d2 d3 : D} (ha : Ev X ρ a d1) (hb : Ev X ρ b d2) (hc' : Ev X ρ c d3) (hc : X.calm = true) (hN : X.N.Nodup) (hi : X.N[i]? = some x) (hj : X.N[j]? = some y) (hl : X.N[l]? = some z) (hij : i ≠ j) (hil : i ≠ l) (hjl : j ≠ l)
    (hx : X.env.scope.names.lookup x = some .local) (hy : X.env.scope.names.lookup y = some .local) (hz : X.env.scope.names.lookup z = some .local)
    (hs1 : starEach [a, b, c] X.env = (false, eval a X.env) :: starEach [b, c] X.env) (hs2 : starEach [b, c] X.env = (false, eval b X.env) :: starEach [c] X.env) (hs3 : starEach [c] X.env = (false, eval c X.env) :: starEach [] X.env)
    (hw : swappedStores [.Tuple [.Name x px, .Name y py, .Name z pz] kt pt] (.Tuple [a, b, c] k2 pt2) X.env = pure (some [x, y, z])) (hs : swapsWithSole [.Tuple [.Name x px, .Name y py, .Name z pz] kt pt] (.Tuple [a, b, c] k2 pt2) pos.line X.env = pure false)
    (h : Bks X (((ρ.set i (.dat d1)).set j (.dat d2)).set l (.dat d3)) (ss :: st) O) : Bks X ρ ((.Assign [.Tuple [.Name x px, .Name y py, .Name z pz] kt pt] (.Tuple [a, b, c] k2 pt2) pos :: ss) :: st) O :=
  bk_step (sm_par3 ha hb hc' hc hN hi hj hl hij hil hjl hx hy hz hs1 hs2 hs3 hw hs) h
end
end DL

namespace DL
open PySem PySem.Spec PyProof.Rows L2
/-! ## words of a text: whole numbers told by digits, parts between spaces -/
section
variable {X : Cx} {ρ : Envi}
theorem mth_isascii {z : Str} : MthD X "isascii" z [] (.bool (Txt.isascii z)) := ⟨"str.isascii", _, PySem.F.slot_str_isascii, PySem.F.type_str_isascii, mt_isascii, fun vs G H Q s hv k => by
  cases hv
  exact ⟨z, rfl, rfl, trivial, k.here s (.bl _)⟩⟩
theorem mth_isdigit {z : Str} : MthD X "isdigit" z [] (.bool (Txt.isdigit z)) := ⟨"str.isdigit", _, PySem.F.slot_str_isdigit, PySem.F.type_str_isdigit, mt_isdigit, fun vs G H Q s hv k => by
  cases hv
  exact ⟨z, rfl, rfl, trivial, k.here s (.bl _)⟩⟩
theorem blt_intT {z : Str} {i : Int} (h : PySem.intText? z = some i) (hl : z.length ≤ 640) : BltD X "int" [.str z] (.int i) := ⟨_, .inr ⟨_, by decide +kernel, call_int_str⟩, fun vs G H Q s hv k => by
  obtain ⟨v, rfl, hx⟩ := DpAll.one hv
  cases hx
  exact ⟨z, i, rfl, h, hl, k.here s (.int _)⟩⟩
end
/-- the signs of a whole number -/
abbrev digs (n : Nat) : List Nat := TL.numL n
theorem numS_S (n : Nat) : numS ((n : Nat) : Int) = S (digs n) := SX.num_S n
theorem digs_range (n : Nat) : ∀ c ∈ digs n, 48 ≤ c ∧ c ≤ 57 := fun c hc => TL.numL_digits n c hc
theorem digs_ne (n : Nat) : digs n ≠ [] := TL.numL_ne n
theorem digs_len {n k : Nat} (hk : 0 < k) (h : n < 10 ^ k) : (digs n).length ≤ k := TL.numL_len hk h
theorem digs_free {n s : Nat} (h : s < 48 ∨ 57 < s) : s ∉ digs n := TL.numL_free h
theorem digs_int {n : Nat} (h : n < 10 ^ 600) : PySem.intText? (S (digs n)) = some ((n : Nat) : Int) := by
  have := TL.int_num (n := n) (Nat.le_trans (TL.numL_len (by decide) h) (by decide))
  rwa [SX.num_S] at this
theorem digs_head : ∀ n : Nat, 0 < n → (digs n).head? ≠ some 48 := fun n => by
  induction n using Nat.strongRecOn with
  | _ n ih =>
    intro hn
    by_cases h : n < 10
    · rw [show digs n = _ from TL.numL_lt h]
      simp
      omega
    · rw [show digs n = _ from TL.numL_step (by omega)]
      have h1 := ih (n / 10) (by omega) (by omega)
      have h2 := digs_ne (n / 10)
      cases e : digs (n / 10) with
      | nil => exact absurd e h2
      | cons c r =>
        rw [e] at h1
        have e' : TL.numL (n / 10) = c :: r := e
        rw [e']
        simpa using h1
theorem isascii_S {l : List Nat} (h : ∀ c ∈ l, c < 128) : Txt.isascii (S l) = true := by
  show (S l).cps.all _ = true
  rw [← Array.all_toList]
  exact List.all_eq_true.mpr fun c hc => decide_eq_true (h c hc)
theorem isdigit_S {l : List Nat} (hne : l ≠ []) (h : ∀ c ∈ l, 48 ≤ c ∧ c ≤ 57) : Txt.isdigit (S l) = true := by
  have h1 : ∀ c : Nat, 48 ≤ c ∧ c ≤ 57 → Unicode.isDigit c = true := by
    have k : ∀ n : Fin 128, 48 ≤ n.val ∧ n.val ≤ 57 → Unicode.isDigit n.val = true := by decide +kernel
    intro c hc
    exact k ⟨c, by omega⟩ hc
  show (decide ((S l).length > 0) && (S l).cps.all Unicode.isDigit) = true
  rw [← Array.all_toList]
  have : (S l).length > 0 := by rw [S_len]; exact List.length_pos_iff.mpr hne
  rw [decide_eq_true this, Bool.true_and]
  exact List.all_eq_true.mpr fun c hc => h1 c (h c hc)
theorem digs_ascii (n : Nat) : Txt.isascii (numS ((n : Nat) : Int)) = true := by
  rw [numS_S]
  exact isascii_S fun c hc => by have := digs_range n c hc; omega
theorem digs_isdigit (n : Nat) : Txt.isdigit (numS ((n : Nat) : Int)) = true := by
  rw [numS_S]
  exact isdigit_S (digs_ne n) (digs_range n)
/-! ### parts between one sign -/
def cutC (c : Nat) : List Nat → List Nat → List (List Nat)
  | acc, [] => [acc]
  | acc, x :: r => if x = c then acc :: cutC c [] r else cutC c (acc ++ [x]) r
theorem spl_cut (c : Nat) : ∀ (l acc : List Nat), TL.spl [c] 0 acc l = cutC c acc l
  | [], acc => by rw [TL.spl_nil, cutC]
  | x :: r, acc => by
    have e : TL.spl [c] 0 acc (x :: r) = if TL.pre [c] (x :: r) = true then acc :: TL.spl [c] 0 [] r else TL.spl [c] 0 (acc ++ [x]) r := rfl
    rw [e, spl_cut c r [], spl_cut c r (acc ++ [x]), cutC]
    by_cases hc : x = c
    · rw [if_pos hc, if_pos (by subst hc; unfold TL.pre; simp)]
    · rw [if_neg hc, if_neg (by unfold TL.pre; simp [hc])]
theorem split_cut {c : Nat} (hc : c < 256) (l : List Nat) : Txt.split (S l) (S [c]) = (cutC c [] l).map S := by
  rw [SX.split_S (by simp) (by simp [hc]), spl_cut]
theorem cut_join {c : Nat} {parts : List (List Nat)} (hne : parts ≠ []) (h : ∀ p ∈ parts, c ∉ p) : cutC c [] (TL.joinL [c] parts) = parts := by
  rw [← spl_cut]
  exact TL.spl_join hne h
/-- the words between spaces: the parts that are not empty -/
def wdsA (acc l : List Nat) : List (List Nat) := (cutC 32 acc l).filter fun p => !p.isEmpty
def wds (l : List Nat) : List (List Nat) := wdsA [] l
theorem wds_sp (l : List Nat) : wds (32 :: l) = wds l := by
  unfold wds wdsA
  rw [cutC, if_pos rfl]
  rfl
theorem wdsA_end : ∀ (l acc : List Nat), wdsA acc (l ++ [32]) = wdsA acc l
  | [], acc => by
    show ((cutC 32 acc [32]).filter _) = _
    rw [cutC, if_pos rfl, cutC]
    unfold wdsA
    rw [cutC]
    simp [List.filter_cons]
  | x :: r, acc => by
    have h1 := wdsA_end r []
    have h2 := wdsA_end r (acc ++ [x])
    unfold wdsA at h1 h2 ⊢
    rw [List.cons_append, cutC, cutC]
    by_cases hx : x = 32
    · rw [if_pos hx, if_pos hx, List.filter_cons, List.filter_cons, h1]
    · rw [if_neg hx, if_neg hx]
      exact h2
theorem wds_end (l : List Nat) : wds (l ++ [32]) = wds l := wdsA_end l []
/-- each space made m + 1 of them -/
def wideL (m : Nat) (l : List Nat) : List Nat := l.flatMap fun c => if c = 32 then List.replicate (m + 1) 32 else [c]
theorem wds_many : ∀ (m : Nat) (l : List Nat), wds (List.replicate m 32 ++ l) = wds l
  | 0, l => rfl
  | m + 1, l => by
    rw [List.replicate_succ, List.cons_append, wds_sp, wds_many m l]
theorem wdsA_wide (m : Nat) : ∀ (l acc : List Nat), wdsA acc (wideL m l) = wdsA acc l
  | [], acc => rfl
  | x :: r, acc => by
    by_cases hx : x = 32
    · have e : wideL m (x :: r) = 32 :: (List.replicate m 32 ++ wideL m r) := by
        unfold wideL
        rw [List.flatMap_cons, if_pos hx, List.replicate_succ]
        rfl
      have h1 := wds_many m (wideL m r)
      have h2 := wdsA_wide m r []
      rw [e]
      unfold wds wdsA at h1
      unfold wdsA at h2 ⊢
      rw [cutC, cutC, if_pos rfl, if_pos hx, List.filter_cons, List.filter_cons, h1, h2]
    · have e : wideL m (x :: r) = x :: wideL m r := by
        unfold wideL
        rw [List.flatMap_cons, if_neg hx]
        rfl
      have h2 := wdsA_wide m r (acc ++ [x])
      rw [e]
      unfold wdsA at h2 ⊢
      rw [cutC, cutC, if_neg hx, if_neg hx]
      exact h2
theorem wds_wide (m : Nat) (l : List Nat) : wds (wideL m l) = wds l := wdsA_wide m l []
theorem wds_join {parts : List (List Nat)} (hne : parts ≠ []) (h : ∀ p ∈ parts, 32 ∉ p ∧ p ≠ []) : wds (TL.joinL [32] parts) = parts := by
  unfold wds wdsA
  rw [cut_join hne fun p hp => (h p hp).1]
  refine List.filter_eq_self.mpr fun p hp => ?_
  have := (h p hp).2
  cases p with
  | nil => exact absurd rfl this
  | cons a l => rfl
theorem wds_nil : wds [] = [] := rfl
end DL

namespace DL
open PySem PySem.Spec PyProof.Rows L2
/-! ## "c" + text.replace("y", "z") of written texts -/
section
variable {X : Cx} {ρ : Envi} {pos : Pos}
theorem pe_addRepl {o : Expr} {to : TE} {c y z : Str} {i j k : Nat} {c0 c1 c2 apos p : Pos} {r : R2} (hop : OpR X (binaryOp .Add) r) (ho : PE X o to) (hyz : (y == z) = false)
    (hst : starEach [.Constant (.str y) j c0, .Constant (.str z) k c1] X.env = [(false, eval (.Constant (.str y) j c0) X.env), (false, eval (.Constant (.str z) k c1) X.env)])
    (hbase : attributeBase o "replace" X.env (eval o X.env) = eval o X.env) (hline : (apos.endLine == p.line) = true) :
    PE X (.BinOp (.Constant (.str c) i c2) .Add (.Call (.Attribute o "replace" apos) [.Constant (.str y) j c0, .Constant (.str z) k c1] [] p) pos) (fun σ H Q => CwR.tReplC to y z σ H fun v H2 => r (.str c) v H2 Q) := by
  refine ⟨fun pins s σ H Q I h => ?_⟩
  refine wpAny_BinOp (Calls.Constant_str ?_)
  exact thn (CwR.pet_replC ho hyz hst hbase hline pins { s with toks := s.toks + 1 } σ H _ (by show 1 ≤ s.toks + 1; omega) (I.tok _) h) fun u s2 ⟨v, H2, I2, r2, q2⟩ => hop pins s2 σ H2 (.str c) v (.str c s.toks) u Q I2 ⟨s.toks, rfl⟩ r2 q2
theorem ev_addRepl {o : Expr} {c y z x : Str} {i j k : Nat} {c0 c1 c2 apos p : Pos} (ho : Ev X ρ o (.str x)) (hsz : x.length + (x.length + 1) * z.length ≤ 16777216) (hadd : c.length + (Txt.replace x y z).length ≤ sizeLine) (hyz : (y == z) = false)
    (hst : starEach [.Constant (.str y) j c0, .Constant (.str z) k c1] X.env = [(false, eval (.Constant (.str y) j c0) X.env), (false, eval (.Constant (.str z) k c1) X.env)])
    (hbase : attributeBase o "replace" X.env (eval o X.env) = eval o X.env) (hline : (apos.endLine == p.line) = true) :
    Ev X ρ (.BinOp (.Constant (.str c) i c2) .Add (.Call (.Attribute o "replace" apos) [.Constant (.str y) j c0, .Constant (.str z) k c1] [] p) pos) (.str (c ++ Txt.replace x y z)) := fun σ G H Q E kq =>
  wE_of (pe_addRepl op_add_str pe_w hyz hst hbase hline) (ho σ G H _ E fun v G1 H1 f1 hv => by
    cases hv
    refine ⟨x, rfl, hsz, ?_⟩
    obtain ⟨r, hr, F⟩ := bin_addS (X := X) hadd
    exact ⟨_, _, rfl, rfl, hadd, kq _ G1 H1 f1 (.str _)⟩)
end
theorem repl_wide (m : Nat) : ∀ l : List Nat, StrLaws.replL [32] (List.replicate (m + 1) 32) l = wideL m l
  | [] => StrLaws.replL_nil
  | c :: r => by
    have ih := repl_wide m r
    by_cases h : c = 32
    · rw [StrLaws.replL_hit (by simp) (by simp [h])]
      show _ ++ StrLaws.replL [32] (List.replicate (m + 1) 32) r = _
      rw [ih]
      unfold wideL
      rw [List.flatMap_cons, if_pos h]
    · rw [StrLaws.replL_miss (by simp [h]), ih]
      unfold wideL
      rw [List.flatMap_cons, if_neg h]
      rfl
theorem wide_len (m : Nat) : ∀ l : List Nat, (wideL m l).length ≤ l.length * (m + 1)
  | [] => Nat.zero_le _
  | c :: r => by
    have ih := wide_len m r
    unfold wideL at ih ⊢
    rw [List.flatMap_cons, List.length_append, List.length_cons, Nat.succ_mul]
    split
    · rw [List.length_replicate]; omega
    · rw [List.length_singleton]; omega
theorem wide_free {m c : Nat} (hc : c ≠ 32) {l : List Nat} (h : c ∉ l) : c ∉ wideL m l := fun hm => by
  obtain ⟨x, hx, hq⟩ := List.mem_flatMap.mp hm
  split at hq
  · exact hc (List.eq_of_mem_replicate hq)
  · rw [List.mem_singleton.mp hq] at h
    exact h hx
end DL

namespace DL
open PySem PySem.Spec PyProof.Rows L2
/-! ## "c" * e + text.replace("y", "z") of written texts -/
section
variable {X : Cx} {ρ : Envi} {pos : Pos}
theorem pe_mulRepl {o e : Expr} {to te : TE} {c y z : Str} {i j k : Nat} {c0 c1 c2 apos p p2 : Pos} {op : Operator} {r1 r : R2} (hop1 : OpR X (binaryOp op) r1) (hop : OpR X (binaryOp .Add) r) (he : PE X e te) (ho : PE X o to) (hyz : (y == z) = false)
    (hst : starEach [.Constant (.str y) j c0, .Constant (.str z) k c1] X.env = [(false, eval (.Constant (.str y) j c0) X.env), (false, eval (.Constant (.str z) k c1) X.env)])
    (hbase : attributeBase o "replace" X.env (eval o X.env) = eval o X.env) (hline : (apos.endLine == p.line) = true) :
    PE X (.BinOp (.BinOp (.Constant (.str c) i c2) op e p2) .Add (.Call (.Attribute o "replace" apos) [.Constant (.str y) j c0, .Constant (.str z) k c1] [] p) pos) (fun σ H Q => te σ H fun v1 H1 => r1 (.str c) v1 H1 fun u H2 => CwR.tReplC to y z σ H2 fun v H3 => r u v H3 Q) := by
  refine ⟨fun pins s σ H Q I h => ?_⟩
  refine wpAny_BinOp (wpAny_BinOp (Calls.Constant_str ?_))
  refine wpAny_mono (PySem.wpAny_toks (he.run pins { s with toks := s.toks + 1 } σ H _ (I.tok _) h)) (fun v s1 q => ?_) fun _ _ z => z.2
  obtain ⟨hk, x, H1, I1, e1, q1⟩ := q
  refine wpAny_mono (PySem.wpAny_toks (hop1 pins s1 σ H1 (.str c) x (.str c s.toks) v _ I1 ⟨s.toks, rfl⟩ e1 q1)) (fun u s2 q => ?_) fun _ _ z => z.2
  obtain ⟨hk2, y2, H2, I2, e2, q2⟩ := q
  have hk' : s.toks + 1 ≤ s1.toks := hk
  exact thn (CwR.pet_replC ho hyz hst hbase hline pins s2 σ H2 _ (by omega) I2 q2) fun u2 s3 ⟨v3, H3, I3, e3, q3⟩ => hop pins s3 σ H3 y2 v3 u u2 Q I3 e2 e3 q3
theorem ev_mulRepl {o e : Expr} {c : List Nat} {y z x : Str} {n : Int} {i j k : Nat} {c0 c1 c2 apos p p2 : Pos} (he : Ev X ρ e (.int n)) (ho : Ev X ρ o (.str x)) (hn : n < 2 ^ 63 ∧ -(2 ^ 63) ≤ n ∧ c.length * n.toNat ≤ sizeLine) (hsz : x.length + (x.length + 1) * z.length ≤ 16777216) (hadd : (repL c n).length + (Txt.replace x y z).length ≤ sizeLine) (hyz : (y == z) = false)
    (hst : starEach [.Constant (.str y) j c0, .Constant (.str z) k c1] X.env = [(false, eval (.Constant (.str y) j c0) X.env), (false, eval (.Constant (.str z) k c1) X.env)])
    (hbase : attributeBase o "replace" X.env (eval o X.env) = eval o X.env) (hline : (apos.endLine == p.line) = true) :
    Ev X ρ (.BinOp (.BinOp (.Constant (.str (S c)) i c2) .Mult e p2) .Add (.Call (.Attribute o "replace" apos) [.Constant (.str y) j c0, .Constant (.str z) k c1] [] p) pos) (.str (S (repL c n) ++ Txt.replace x y z)) := fun σ G H Q E kq =>
  wE_of (pe_mulRepl op_mulS op_add_str pe_w pe_w hyz hst hbase hline) (he σ G H _ E fun v1 G1 H1 f1 hv1 => by
    cases hv1
    refine ⟨c, n, rfl, rfl, hn.2.1, hn.1, hn.2.2, ?_⟩
    refine ho σ G1 H1 _ (E.frm f1) fun v G2 H2 f2 hv => ?_
    cases hv
    refine ⟨x, rfl, hsz, ?_⟩
    exact ⟨_, _, rfl, rfl, by rw [S_len]; exact hadd, kq _ G2 H2 (f1.trans f2) (.str _)⟩)
end
end DL

namespace DL
open PySem PySem.Spec PyProof.Rows L2
/-! data without dicts: each is equal to itself -/
structure Nice (d : D) (k : Nat) : Prop where
  eq : PyData.eqv d d = true
  lay : d.canLay0 = true
  dep : d.depth ≤ k
theorem nice_none {k : Nat} : Nice .none k := ⟨by simp [PyData.eqv], rfl, Nat.zero_le _⟩
theorem nice_int {k : Nat} {i : Int} : Nice (.int i) k := ⟨by simp [PyData.eqv], rfl, Nat.zero_le _⟩
theorem nice_bool {k : Nat} {b : Bool} : Nice (.bool b) k := ⟨by simp [PyData.eqv], rfl, Nat.zero_le _⟩
theorem nice_str {k : Nat} {x : Str} (h : PyData.strOk x = true) : Nice (.str x) k := ⟨by simp [PyData.eqv], h, Nat.zero_le _⟩
theorem nice_bits {k : Nat} {l : List Nat} (h : ∀ c ∈ l, c = 48 ∨ c = 49) : Nice (.str (S l)) k := nice_str (strOk_bits h)
theorem nice_all {k : Nat} : ∀ {ds : List D}, (∀ d ∈ ds, Nice d k) → PyData.eqvAll ds ds = true ∧ PyData.canLayAll0 ds = true ∧ PyData.depthAll ds ≤ k
  | [], _ => ⟨rfl, rfl, Nat.zero_le _⟩
  | d :: ds, h => by
    obtain ⟨h1, h2, h3⟩ := nice_all (ds := ds) fun e he => h e (List.mem_cons_of_mem _ he)
    have q := h d List.mem_cons_self
    refine ⟨?_, ?_, ?_⟩
    · rw [PyData.eqvAll, q.eq, h1]; rfl
    · rw [PyData.canLayAll0, q.lay, h2]; rfl
    · rw [PyData.depthAll]; exact Nat.max_le.mpr ⟨q.dep, h3⟩
theorem nice_list {k : Nat} {ds : List D} (h : ∀ d ∈ ds, Nice d k) : Nice (.list ds) (k + 1) := by
  obtain ⟨h1, h2, h3⟩ := nice_all h
  exact ⟨by rw [PyData.eqv]; exact h1, by rw [PyData.canLay0]; exact h2, by rw [PyData.depth]; exact Nat.succ_le_succ h3⟩
theorem nice_tup {k : Nat} {ds : List D} (h : ∀ d ∈ ds, Nice d k) : Nice (.tuple ds) (k + 1) := by
  obtain ⟨h1, h2, h3⟩ := nice_all h
  exact ⟨by rw [PyData.eqv]; exact h1, by rw [PyData.canLay0]; exact h2, by rw [PyData.depth]; exact Nat.succ_le_succ h3⟩
theorem nice_map {α : Type} {k : Nat} {xs : List α} {g : α → D} (h : ∀ x ∈ xs, Nice (g x) k) : ∀ d ∈ xs.map g, Nice d k := fun d hd => by
  obtain ⟨x, hx, rfl⟩ := List.mem_map.mp hd
  exact h x hx
theorem nice_one {k : Nat} {a : D} (h : Nice a k) : ∀ d ∈ [a], Nice d k := fun d hd => by rw [List.mem_singleton.mp hd]; exact h
theorem nice_cons {k : Nat} {a : D} {ds : List D} (h : Nice a k) (h2 : ∀ d ∈ ds, Nice d k) : ∀ d ∈ a :: ds, Nice d k := fun d hd => by
  rcases List.mem_cons.mp hd with e | e
  · rw [e]; exact h
  · exact h2 d e
theorem nice_nil {k : Nat} : ∀ d ∈ ([] : List D), Nice d k := fun d hd => by cases hd
theorem nice_ints {k : Nat} (ns : List Int) : ∀ d ∈ ns.map PyData.int, Nice d k := nice_map fun _ _ => nice_int
theorem Nice.up {d : D} {k m : Nat} (h : Nice d k) (hm : k ≤ m) : Nice d m := ⟨h.eq, h.lay, Nat.le_trans h.dep hm⟩
theorem Nice.shaped {d : D} {k : Nat} (h : Nice d k) (hk : k ≤ 64) : SeqAt.shaped d = true := by
  unfold SeqAt.shaped
  rw [h.lay, Bool.true_and, decide_eq_true_eq]
  exact Nat.le_trans h.dep hk
section
variable {X : Cx}
theorem cmp_eqN {d : D} {k : Nat} (h : Nice d k) (hk : k ≤ 64) (hu : X.A.units + 64 < cLine) : CmpD X .Eq d d true := by
  have := cmp_eqD (X := X) hu (h.shaped hk) (h.shaped hk)
  rwa [h.eq] at this
theorem cmp_neN {d : D} {k : Nat} (h : Nice d k) (hk : k ≤ 64) (hu : X.A.units + 64 < cLine) : CmpD X .NotEq d d false := by
  have := cmp_neD (X := X) hu (h.shaped hk) (h.shaped hk)
  rwa [h.eq] at this
end
end DL

set_option maxHeartbeats 4000000
namespace DL
open PySem PySem.Spec PyProof.Rows L2
/-! the text of edgelink_k11_traces -/
def topS (i : Nat) : Stmt := PySem.Challenge.pw_edgelink_k11_traces.main.body.getD i (.Pass ⟨0, 0, 0, 0⟩)
abbrev s_read_trace : Stmt := topS 7
abbrev N_read_trace : List Str := ["text", "rows", "line", "words", "limit", "receiver", "phase", "signal"]
theorem sc_read_trace : FnScope N_read_trace ["text"] (defScope s_read_trace) := ⟨rfl, rfl, rfl, by decide +kernel, rfl, by decide +kernel, by decide +kernel⟩
abbrev s_rows_of : Stmt := topS 8
abbrev N_rows_of : List Str := ["text", "rows", "line", "told", "words"]
theorem sc_rows_of : FnScope N_rows_of ["text"] (defScope s_rows_of) := ⟨rfl, rfl, rfl, by decide +kernel, rfl, by decide +kernel, by decide +kernel⟩
abbrev s_last_line : Stmt := topS 9
abbrev N_last_line : List Str := ["text"]
theorem sc_last_line : FnScope N_last_line ["text"] (defScope s_last_line) := ⟨rfl, rfl, rfl, by decide +kernel, rfl, by decide +kernel, by decide +kernel⟩
abbrev s_words_of : Stmt := topS 10
abbrev N_words_of : List Str := ["told", "word"]
theorem sc_words_of : FnScope N_words_of ["told"] (defScope s_words_of) := ⟨rfl, rfl, rfl, by decide +kernel, rfl, by decide +kernel, by decide +kernel⟩
abbrev s_read_head : Stmt := topS 11
abbrev N_read_head : List Str := ["line", "words", "limit", "poll", "polls_per_bit", "phase"]
theorem sc_read_head : FnScope N_read_head ["line", "words"] (defScope s_read_head) := ⟨rfl, rfl, rfl, by decide +kernel, rfl, by decide +kernel, by decide +kernel⟩
abbrev s_read_edge : Stmt := topS 12
abbrev N_read_edge : List Str := ["line", "words", "signal", "time"]
theorem sc_read_edge : FnScope N_read_edge ["line", "words", "signal"] (defScope s_read_edge) := ⟨rfl, rfl, rfl, by decide +kernel, rfl, by decide +kernel, by decide +kernel⟩
abbrev s_read_number : Stmt := topS 13
abbrev N_read_number : List Str := ["line", "word", "least", "greatest"]
theorem sc_read_number : FnScope N_read_number ["line", "word", "least", "greatest"] (defScope s_read_number) := ⟨rfl, rfl, rfl, by decide +kernel, rfl, by decide +kernel, by decide +kernel⟩
abbrev s_is_number : Stmt := topS 14
abbrev N_is_number : List Str := ["word"]
theorem sc_is_number : FnScope N_is_number ["word"] (defScope s_is_number) := ⟨rfl, rfl, rfl, by decide +kernel, rfl, by decide +kernel, by decide +kernel⟩
abbrev s_write_trace : Stmt := topS 15
abbrev N_write_trace : List Str := ["limit", "receiver", "phase", "signal", "poll", "polls_per_bit", "head", "time"]
theorem sc_write_trace : FnScope N_write_trace ["limit", "receiver", "phase", "signal"] (defScope s_write_trace) := ⟨rfl, rfl, rfl, by decide +kernel, rfl, by decide +kernel, by decide +kernel⟩
abbrev s_u_law_cell : Stmt := topS 17
abbrev N_u_law_cell : List Str := ["script", "k"]
theorem sc_u_law_cell : FnScope N_u_law_cell ["script", "k"] (defScope s_u_law_cell) := ⟨rfl, rfl, rfl, by decide +kernel, rfl, by decide +kernel, by decide +kernel⟩
abbrev s_u_law_draws : Stmt := topS 18
abbrev N_u_law_draws : List Str := ["cell", "count", "found", "is_wide", "k", "mixed"]
theorem sc_u_law_draws : FnScope N_u_law_draws ["cell", "count"] (defScope s_u_law_draws) := ⟨rfl, rfl, rfl, by decide +kernel, rfl, by decide +kernel, by decide +kernel⟩
abbrev s_u_law_same : Stmt := topS 19
abbrev N_u_law_same : List Str := ["actual", "expected", "k"]
theorem sc_u_law_same : FnScope N_u_law_same ["actual", "expected"] (defScope s_u_law_same) := ⟨rfl, rfl, rfl, by decide +kernel, rfl, by decide +kernel, by decide +kernel⟩
abbrev s_u_law_signal : Stmt := topS 22
abbrev N_u_law_signal : List Str := ["cell", "many", "size", "draws", "edges", "k"]
theorem sc_u_law_signal : FnScope N_u_law_signal ["cell", "many", "size"] (defScope s_u_law_signal) := ⟨rfl, rfl, rfl, by decide +kernel, rfl, by decide +kernel, by decide +kernel⟩
abbrev s_law : Stmt := topS 23
abbrev N_law : List Str := ["script", "draws", "limit", "poll", "receiver", "phase", "signal", "lines", "text", "wide", "k", "other", "told", "time"]
theorem sc_law : FnScope N_law ["script"] (defScope s_law) := ⟨rfl, rfl, rfl, by decide +kernel, rfl, by decide +kernel, by decide +kernel⟩
structure Top (K : PySem.W.Frag) (mg : Str → Option Value) : Prop where
  d_read_trace : HasDef K mg "read_trace" ["text"] s_read_trace
  d_rows_of : HasDef K mg "rows_of" ["text"] s_rows_of
  d_last_line : HasDef K mg "last_line" ["text"] s_last_line
  d_words_of : HasDef K mg "words_of" ["told"] s_words_of
  d_read_head : HasDef K mg "read_head" ["line", "words"] s_read_head
  d_read_edge : HasDef K mg "read_edge" ["line", "words", "signal"] s_read_edge
  d_read_number : HasDef K mg "read_number" ["line", "word", "least", "greatest"] s_read_number
  d_is_number : HasDef K mg "is_number" ["word"] s_is_number
  d_write_trace : HasDef K mg "write_trace" ["limit", "receiver", "phase", "signal"] s_write_trace
  d_u_law_cell : HasDef K mg "_law_cell" ["script", "k"] s_u_law_cell
  d_u_law_draws : HasDef K mg "_law_draws" ["cell", "count"] s_u_law_draws
  d_u_law_same : HasDef K mg "_law_same" ["actual", "expected"] s_u_law_same
  d_u_law_signal : HasDef K mg "_law_signal" ["cell", "many", "size"] s_u_law_signal
  d_law : HasDef K mg "law" ["script"] s_law
  z_bool : mg "bool" = none
  z_enumerate : mg "enumerate" = none
  z_int : mg "int" = none
  z_isinstance : mg "isinstance" = none
  z_len : mg "len" = none
  z_list : mg "list" = none
  z_range : mg "range" = none
  z_str : mg "str" = none
  z_tuple : mg "tuple" = none
  c_LONGEST_NUMBER : ∃ t, mg "LONGEST_NUMBER" = some (.int 7 t)
  c_LAST_TIME : ∃ t, mg "LAST_TIME" = some (.int 1000000 t)
  c_MOST_EDGES : ∃ t, mg "MOST_EDGES" = some (.int 256 t)
set_option hygiene false
local macro_rules | `(tactic| walk_at "vis") => `(tactic| first | exact Or.inl rfl | exact Or.inr (Or.inl rfl) | exact Or.inr (Or.inr rfl))
local macro_rules | `(tactic| walk_at "loc") => `(tactic| first | exact Or.inl rfl | exact Or.inr rfl)
local macro_rules | `(tactic| walk_at "sd") => `(tactic| first | with_reducible assumption | (decide; done) | assumption | (omega; done) | ((simp only [List.length_map, List.length_cons, List.length_nil, List.length_append, List.length_replicate, List.length_range, length_repL, List.length_zipIdx, List.length_zip, sizeLine_eq] at *); omega))
local macro_rules | `(tactic| walk_at "mul") => `(tactic| first | exact Or.inr ⟨by decide, by decide⟩ | exact Or.inl ⟨by decide, by decide⟩ | exact Or.inr ⟨by omega, by omega⟩ | exact Or.inl ⟨by omega, by omega⟩ | skip)
local macro_rules | `(tactic| walk_at "div") => `(tactic| first | exact ⟨by decide, by decide⟩ | exact ⟨by omega, by omega⟩ | skip)
local macro_rules | `(tactic| walk_at "bi") => `(tactic| first
  | with_reducible exact bin_add | with_reducible exact bin_sub
  | ((with_reducible apply bin_addSS); try walk_at "sd")
  | ((with_reducible apply bin_mul); walk_at "mul")
  | ((with_reducible apply bin_addT); (first | (show _ ≤ sizeLine; decide) | walk_at "sd"))
  | ((with_reducible apply bin_mulS); try walk_at "sd")
  | ((with_reducible apply bin_fdiv); walk_at "div")
  | ((with_reducible apply bin_mod); try walk_at "sd")
  | ((with_reducible apply bin_pow); first | exact ⟨by decide, by decide, by decide⟩ | skip)
  | ((with_reducible apply bin_shr); try walk_at "sd")
  | with_reducible exact bin_and | with_reducible exact bin_xor
  | ((with_reducible apply bin_shl); skip))
local macro_rules | `(tactic| walk_at "cm") => `(tactic| first
  | with_reducible exact cmp_lt | with_reducible exact cmp_le | with_reducible exact cmp_gt | with_reducible exact cmp_ge | with_reducible exact cmp_eqI | with_reducible exact cmp_neI
  | with_reducible exact cmp_eqSS | with_reducible exact cmp_neSS | with_reducible exact cmp_isB | with_reducible exact cmp_isnB | with_reducible exact cmp_neB | with_reducible exact cmp_eqB
  | with_reducible exact cmp_isNN | with_reducible exact cmp_isnNN | with_reducible exact cmp_isNS | with_reducible exact cmp_isnNS | with_reducible exact cmp_isNI | with_reducible exact cmp_isnNI | with_reducible exact cmp_isNL | with_reducible exact cmp_isnNL | with_reducible exact cmp_isNT | with_reducible exact cmp_isnNT
  | ((with_reducible apply cmp_isN); intro _ _ _ h; cases h; exact rfl)
  | ((with_reducible apply cmp_isnotN); intro _ _ _ h; cases h; exact rfl)
  | ((with_reducible apply cmp_eqD); (first | exact (hu64 hr) | skip))
  | ((with_reducible apply cmp_neD); (first | exact (hu64 hr) | skip)))
local macro_rules | `(tactic| walk_at "bl") => `(tactic| first
  | with_reducible exact blt_lenL | with_reducible exact blt_lenT
  | ((with_reducible apply blt_lenSS); try walk_at "sd")
  | with_reducible exact blt_intI | with_reducible exact blt_intB
  | (with_reducible exact blt_strB) | ((with_reducible apply blt_strD); try walk_at "sd")
  | with_reducible exact blt_abs
  | ((with_reducible apply blt_minT2); exact rfl; exact hu64 hr)
  | ((with_reducible apply blt_allM); exact rfl) | ((with_reducible apply blt_anyM); exact rfl)
  | ((with_reducible apply blt_minM); exact rfl; walk_at "sd") | ((with_reducible apply blt_mxM); exact rfl; walk_at "sd")
  | ((with_reducible apply blt_max2); exact rfl) | ((with_reducible apply blt_min2); exact rfl)
  | ((with_reducible apply blt_sum); exact rfl) | ((with_reducible apply blt_sumM); exact rfl)
  | with_reducible exact blt_tupleL | with_reducible exact blt_tupleT | with_reducible exact blt_listL | with_reducible exact blt_listT)
local macro_rules | `(tactic| walk_at "ix") => `(tactic| first
  | ((with_reducible apply ix_l); first | walk_at "atd" | walk_at "at" | with_unfolding_all rfl | skip)
  | ((with_reducible apply ix_t); first | with_unfolding_all rfl | walk_at "at" | skip)
  | (with_reducible apply ix_sS <;> first | walk_at "sd" | walk_at "at" | skip))
local macro_rules | `(tactic| walk_at "at") => `(tactic| assumption)
local macro_rules | `(tactic| walk_at "cl") => `(tactic| fail "no def")
local macro_rules | `(tactic| walk_at "bt") => `(tactic| fail "no built-in")
local macro_rules | `(tactic| walk_at "gl") => `(tactic| fail "no constant")
local macro_rules | `(tactic| walk_at "lc") => `(tactic| fail "no comprehension")
local macro_rules | `(tactic| walk_at "me") => `(tactic| fail "no method")
local macro_rules | `(tactic| walk_at "itr") => `(tactic| fail "no range")
local macro_rules | `(tactic| walk_at "atd") => `(tactic| first | with_reducible exact at_dr0 (by decide) | with_reducible exact at_dr1 (by decide) | with_reducible exact at_dr2 (by decide) | with_reducible exact at_dr3 (by decide) | with_reducible exact at_dr4 (by decide) | with_reducible exact at_dr5 (by decide) | with_reducible exact at_dr6 (by decide) | with_reducible exact at_dr7 (by decide) | with_reducible exact at_dr8 (by decide) | with_reducible exact at_dr9 (by decide) | with_reducible exact at_dr10 (by decide) | with_reducible exact at_dr11 (by decide) | with_reducible exact at_dr12 (by decide) | with_reducible exact at_dr13 (by decide) | with_reducible exact at_dr14 (by decide) | with_reducible exact at_dr15 (by decide))
local macro_rules | `(tactic| walk_at "bk") => `(tactic| first | ((with_reducible apply bltK_minI); exact rfl; exact hu64 hr) | ((with_reducible apply bltK_maxI); exact rfl; exact hu64 hr))
local macro_rules | `(tactic| walk_at "rng") => `(tactic| fail "no range")
local macro_rules | `(tactic| walk_at "own") => `(tactic| fail "no own list")
local macro_rules | `(tactic| walk_at "go") => `(tactic| first
  | with_reducible exact ev_int | with_reducible exact ev_bool | with_reducible exact ev_none
  | ((with_reducible apply ev_strC); first | exact lit0 | exact lit1 | exact litE | exact (S_eta _).symm)
  | walk_at "nm" | walk_at "gl"
  | with_reducible exact evs_nil
  | ((with_reducible apply evs_consF); walk_at "go"; walk_at "go"; exact rfl)
  | ((with_reducible apply ev_bin); walk_at "go"; walk_at "go"; walk_at "bi")
  | ((with_reducible apply ev_cmp); walk_at "go"; walk_at "go"; walk_at "cm"; exact rfl)
  | ((with_reducible apply ev_neg); walk_at "go")
  | ((with_reducible apply tst_cmp); walk_at "go"; walk_at "go"; walk_at "cm"; exact rfl)
  | ((with_reducible apply tst_chain); walk_at "go"; walk_at "go"; (intro _; walk_at "go"); walk_at "cm"; (intro _; walk_at "cm"); exact rfl)
  | ((with_reducible apply ev_chain); walk_at "go"; walk_at "go"; (intro _; walk_at "go"); walk_at "cm"; (intro _; walk_at "cm"); exact rfl)
  | ((with_reducible apply tst_not); walk_at "go")
  | ((with_reducible apply tw_and); walk_at "go"; (intro _; walk_at "go")) | ((with_reducible apply tw_and1); walk_at "go")
  | ((with_reducible apply tw_or); walk_at "go"; (intro _; walk_at "go")) | ((with_reducible apply tw_or1); walk_at "go")
  | ((with_reducible apply tst_bo); walk_at "go")
  | ((with_reducible apply ev_and); walk_at "go"; (intro _; walk_at "go")) | ((with_reducible apply ev_or); walk_at "go"; (intro _; walk_at "go")) | ((with_reducible apply ev_one); walk_at "go")
  | ((with_reducible apply ev_not); walk_at "go")
  | ((with_reducible apply ev_ifI); walk_at "go"; (intro _; walk_at "go"); (intro _; walk_at "go"))
  | ((with_reducible apply ev_ifS); walk_at "go"; (intro _; walk_at "go"); (intro _; walk_at "go"))
  | ((with_reducible apply ev_ifB); walk_at "go"; (intro _; walk_at "go"); (intro _; walk_at "go"))
  | ((with_reducible apply ev_if); walk_at "go"; (intro _; walk_at "go"); (intro _; walk_at "go"))
  | ((with_reducible apply ev_tup); walk_at "go"; (first | (show _ ≤ sizeLine; decide) | walk_at "sd"))
  | ((with_reducible apply ev_list); walk_at "go"; (first | (show _ ≤ sizeLine; decide) | walk_at "sd"))
  | ((with_reducible apply ev_slice); walk_at "go"; walk_at "go"; walk_at "go"; (first | with_reducible exact sl_l | with_reducible exact sl_t | ((with_reducible apply sl_sS); try walk_at "sd")))
  | with_reducible exact pt_none | ((with_reducible apply pt_some); walk_at "go")
  | ((with_reducible apply ev_ix); walk_at "go"; walk_at "go"; walk_at "ix"; (exact fun _ _ => rfl))
  | walk_at "own"
  | walk_at "cl" | walk_at "bt" | walk_at "me" | walk_at "lc"
  | ((with_reducible apply tst_valF); walk_at "go"; (intro _; exact rfl))
  | (apply tst_truthF; walk_at "go"; (first | trivial | walk_at "sd"); (intro _; exact rfl)))
local macro_rules | `(tactic| walk_at "set") => `(tactic| ((with_reducible apply bk_set); walk_at "go"; exact S.nd; (walk_at "slot"); (walk_at "loc"); exact rfl; (first | exact Or.inl rfl | exact Or.inr rfl)))
local macro_rules | `(tactic| walk_at "kit") => `(tactic| first | exact kit_int_int | exact kit_int_bool | exact kit_int_str | exact kit_int_list | exact kit_int_tuple | exact kit_bool_int | exact kit_bool_bool | exact kit_bool_str | exact kit_bool_list | exact kit_bool_tuple | exact kit_str_int | exact kit_str_bool | exact kit_str_str | exact kit_str_list | exact kit_str_tuple | exact kit_list_int | exact kit_list_bool | exact kit_list_str | exact kit_list_list | exact kit_list_tuple | exact kit_tuple_int | exact kit_tuple_bool | exact kit_tuple_str | exact kit_tuple_list | exact kit_tuple_tuple | exact kit_none_int | exact kit_none_bool | exact kit_none_str | exact kit_none_list | exact kit_none_tuple)
local macro_rules | `(tactic| walk_at "ip") => `(tactic| first | with_reducible exact ip_addI | with_reducible exact ip_subI | ((with_reducible apply ip_addSS); try walk_at "sd") | ((with_reducible apply ip_fdivI); walk_at "div") | ((with_reducible apply ip_mulI); walk_at "mul"))
local macro_rules | `(tactic| walk_at "fresh") => `(tactic| first | ((with_reducible apply evl_lst); walk_at "go"; (first | (show _ ≤ sizeLine; decide) | walk_at "sd")) | walk_at "lcl")
local macro_rules | `(tactic| walk_at "lcl") => `(tactic| fail "no comprehension")
local macro_rules | `(tactic| walk_at "ret") => `(tactic| first | ((with_reducible apply bk_ret); walk_at "go") | with_reducible apply bk_retN)
local macro_rules | `(tactic| walk_at "if") => `(tactic| ((with_reducible apply bk_if); walk_at "go"))
local macro_rules | `(tactic| walk_at "open") => `(tactic| conv in (defBody _) => whnf)
local macro_rules | `(tactic| walk_at "tgt") => `(tactic| first | walk_at "tg" | ((with_reducible apply tg_tupF); exact rfl; walk_at "tgts"; exact rfl; exact rfl))
local macro_rules | `(tactic| walk_at "tgts") => `(tactic| first | with_reducible exact tgs_nil | ((with_reducible apply tgs_consF); walk_at "tgt"; walk_at "tgts"; exact rfl))
local macro_rules | `(tactic| walk_at "tg") => `(tactic| fail "no target")
local macro_rules | `(tactic| walk_at "asg") => `(tactic| ((with_reducible apply bk_asg); walk_at "go"; walk_at "tgt"; exact rfl; exact rfl; exact rfl))
local macro_rules | `(tactic| walk_at "sk") => `(tactic| skip)
local macro_rules | `(tactic| walk_at "b62") => `(tactic| first | exact ⟨by decide, by decide⟩ | exact ⟨by omega, by omega⟩ | (refine ⟨?_, ?_⟩ <;> walk_at "sd") | skip)
local macro_rules | `(tactic| walk_at "me") => `(tactic| first
  | ((with_reducible apply ev_mF (x := "join")); (with_reducible exact ev_strC litE); walk_at "go"; (first | ((with_reducible apply mth_joinM); try walk_at "sd") | skip); exact rfl; exact rfl; exact rfl; exact rfl; exact rfl))
local macro_rules | `(tactic| walk_at "no") => `(tactic| (intro h; exact absurd h (by decide)))
local macro_rules | `(tactic| walk_at "cl") => `(tactic| first | ((with_reducible apply ev_callF (x := "read_trace") (ps := ["text"]) (j := 4)); walk_at "go"; walk_at "fn read_trace"; exact hr; (first | decide | skip); exact rfl; decide; exact rfl; exact rfl) | ((with_reducible apply ev_callF (x := "rows_of") (ps := ["text"]) (j := 2)); walk_at "go"; walk_at "fn rows_of"; exact hr; (first | decide | skip); exact rfl; decide; exact rfl; exact rfl) | ((with_reducible apply ev_callF (x := "last_line") (ps := ["text"]) (j := 1)); walk_at "go"; walk_at "fn last_line"; exact hr; (first | decide | skip); exact rfl; decide; exact rfl; exact rfl) | ((with_reducible apply ev_callF (x := "words_of") (ps := ["told"]) (j := 1)); walk_at "go"; walk_at "fn words_of"; exact hr; (first | decide | skip); exact rfl; decide; exact rfl; exact rfl) | ((with_reducible apply ev_callF (x := "read_head") (ps := ["line", "words"]) (j := 3)); walk_at "go"; walk_at "fn read_head"; exact hr; (first | decide | skip); exact rfl; decide; exact rfl; exact rfl) | ((with_reducible apply ev_callF (x := "read_edge") (ps := ["line", "words", "signal"]) (j := 3)); walk_at "go"; walk_at "fn read_edge"; exact hr; (first | decide | skip); exact rfl; decide; exact rfl; exact rfl) | ((with_reducible apply ev_callF (x := "read_number") (ps := ["line", "word", "least", "greatest"]) (j := 2)); walk_at "go"; walk_at "fn read_number"; exact hr; (first | decide | skip); exact rfl; decide; exact rfl; exact rfl) | ((with_reducible apply ev_callF (x := "is_number") (ps := ["word"]) (j := 1)); walk_at "go"; walk_at "fn is_number"; exact hr; (first | decide | skip); exact rfl; decide; exact rfl; exact rfl) | ((with_reducible apply ev_callF (x := "write_trace") (ps := ["limit", "receiver", "phase", "signal"]) (j := 1)); walk_at "go"; walk_at "fn write_trace"; exact hr; (first | decide | skip); exact rfl; decide; exact rfl; exact rfl) | ((with_reducible apply ev_callF (x := "_law_cell") (ps := ["script", "k"]) (j := 1)); walk_at "go"; walk_at "fn _law_cell"; exact hr; (first | decide | skip); exact rfl; decide; exact rfl; exact rfl) | ((with_reducible apply ev_callF (x := "_law_draws") (ps := ["cell", "count"]) (j := 1)); walk_at "go"; walk_at "fn _law_draws"; exact hr; (first | decide | skip); exact rfl; decide; exact rfl; exact rfl) | ((with_reducible apply ev_callF (x := "_law_same") (ps := ["actual", "expected"]) (j := 1)); walk_at "go"; walk_at "fn _law_same"; exact hr; (first | decide | skip); exact rfl; decide; exact rfl; exact rfl) | ((with_reducible apply ev_callF (x := "_law_signal") (ps := ["cell", "many", "size"]) (j := 2)); walk_at "go"; walk_at "fn _law_signal"; exact hr; (first | decide | skip); exact rfl; decide; exact rfl; exact rfl))
local macro_rules | `(tactic| walk_at "bt") => `(tactic| first | ((with_reducible apply ev_bltF (x := "bool")); walk_at "go"; walk_at "bl"; exact rfl; exact T.z_bool; decide; decide; exact rfl; exact rfl) | ((with_reducible apply ev_bltF (x := "int")); walk_at "go"; walk_at "bl"; exact rfl; exact T.z_int; decide; decide; exact rfl; exact rfl) | ((with_reducible apply ev_bltF (x := "len")); walk_at "go"; walk_at "bl"; exact rfl; exact T.z_len; decide; decide; exact rfl; exact rfl) | ((with_reducible apply ev_bltF (x := "list")); walk_at "go"; walk_at "bl"; exact rfl; exact T.z_list; decide; decide; exact rfl; exact rfl) | ((with_reducible apply ev_bltF (x := "str")); walk_at "go"; walk_at "bl"; exact rfl; exact T.z_str; decide; decide; exact rfl; exact rfl) | ((with_reducible apply ev_bltF (x := "tuple")); walk_at "go"; walk_at "bl"; exact rfl; exact T.z_tuple; decide; decide; exact rfl; exact rfl) | ((with_reducible apply ev_isiF (T := "bool") (n := "bool")); walk_at "go"; walk_at "kit"; (decide +kernel); exact rfl; exact T.z_bool; exact rfl; exact T.z_isinstance; decide; decide; exact rfl; exact rfl; exact rfl) | ((with_reducible apply ev_isiF (T := "int") (n := "int")); walk_at "go"; walk_at "kit"; (decide +kernel); exact rfl; exact T.z_int; exact rfl; exact T.z_isinstance; decide; decide; exact rfl; exact rfl; exact rfl) | ((with_reducible apply ev_isiF (T := "list") (n := "list")); walk_at "go"; walk_at "kit"; (decide +kernel); exact rfl; exact T.z_list; exact rfl; exact T.z_isinstance; decide; decide; exact rfl; exact rfl; exact rfl) | ((with_reducible apply ev_isiF (T := "str") (n := "str")); walk_at "go"; walk_at "kit"; (decide +kernel); exact rfl; exact T.z_str; exact rfl; exact T.z_isinstance; decide; decide; exact rfl; exact rfl; exact rfl) | ((with_reducible apply ev_isiF (T := "tuple") (n := "tuple")); walk_at "go"; walk_at "kit"; (decide +kernel); exact rfl; exact T.z_tuple; exact rfl; exact T.z_isinstance; decide; decide; exact rfl; exact rfl; exact rfl))
local macro_rules | `(tactic| walk_at "gl") => `(tactic| first | ((with_reducible apply ev_globI (x := "LONGEST_NUMBER")); exact rfl; exact T.c_LONGEST_NUMBER.choose_spec) | ((with_reducible apply ev_globI (x := "LAST_TIME")); exact rfl; exact T.c_LAST_TIME.choose_spec) | ((with_reducible apply ev_globI (x := "MOST_EDGES")); exact rfl; exact T.c_MOST_EDGES.choose_spec))
local macro_rules | `(tactic| walk_at "fn read_trace") => `(tactic| first | exact ok_read_trace T | (apply ok_read_trace T <;> walk_at "sd") | skip)
local macro_rules | `(tactic| walk_at "fn rows_of") => `(tactic| first | exact ok_rows_of T | (apply ok_rows_of T <;> walk_at "sd") | skip)
local macro_rules | `(tactic| walk_at "fn last_line") => `(tactic| first | exact ok_last_line T | (apply ok_last_line T <;> walk_at "sd") | skip)
local macro_rules | `(tactic| walk_at "fn words_of") => `(tactic| first | exact ok_words_of T | (apply ok_words_of T <;> walk_at "sd") | skip)
local macro_rules | `(tactic| walk_at "fn read_head") => `(tactic| first | exact ok_read_head T | (apply ok_read_head T <;> walk_at "sd") | skip)
local macro_rules | `(tactic| walk_at "fn read_edge") => `(tactic| first | exact ok_read_edge T | (apply ok_read_edge T <;> walk_at "sd") | skip)
local macro_rules | `(tactic| walk_at "fn read_number") => `(tactic| first | exact ok_read_number T | (apply ok_read_number T <;> walk_at "sd") | skip)
local macro_rules | `(tactic| walk_at "fn is_number") => `(tactic| first | exact ok_is_number T | (apply ok_is_number T <;> walk_at "sd") | skip)
local macro_rules | `(tactic| walk_at "fn write_trace") => `(tactic| first | exact ok_write_trace T | (apply ok_write_trace T <;> walk_at "sd") | skip)
local macro_rules | `(tactic| walk_at "fn _law_cell") => `(tactic| first | exact ok_u_law_cell T | (apply ok_u_law_cell T <;> walk_at "sd") | skip)
local macro_rules | `(tactic| walk_at "fn _law_draws") => `(tactic| first | exact ok_u_law_draws T | (apply ok_u_law_draws T <;> walk_at "sd") | skip)
local macro_rules | `(tactic| walk_at "fn _law_same") => `(tactic| first | exact ok_u_law_same T | (apply ok_u_law_same T <;> walk_at "sd") | skip)
local macro_rules | `(tactic| walk_at "fn _law_signal") => `(tactic| first | exact ok_u_law_signal T | (apply ok_u_law_signal T <;> walk_at "sd") | skip)
local macro_rules | `(tactic| walk_at "fresh") => `(tactic| first | ((with_reducible apply evl_lst); walk_at "go"; (first | (show _ ≤ sizeLine; decide) | walk_at "sd")) | walk_at "lcl" | ((with_reducible apply evl_listL); walk_at "go"; exact rfl; exact T.z_list; exact rfl; exact rfl) | ((with_reducible apply evl_listT); walk_at "go"; exact rfl; exact T.z_list; exact rfl; exact rfl))
local macro_rules | `(tactic| walk_at "it") => `(tactic| first | ((with_reducible apply iter_range1F); walk_at "go"; walk_at "b62"; exact rfl; exact T.z_range; exact rfl) | ((with_reducible apply iter_range2F); walk_at "go"; walk_at "go"; walk_at "b62"; walk_at "b62"; exact rfl; exact T.z_range; exact rfl; exact rfl) | ((with_reducible apply iter_enumS); walk_at "go"; exact rfl; exact T.z_enumerate; exact rfl) | ((with_reducible apply iter_enumL); walk_at "go"; exact rfl; exact T.z_enumerate; exact rfl) | walk_at "itr" | ((with_reducible apply iter_ev); walk_at "go"; (first | exact Itd.list _ | exact Itd.tuple _ | exact Itd.str _)))
section
variable {P : Program} {w : World} {K : PySem.W.Frag} {mg : Str → Option Value} {base : Heap}
theorem at_nat {α : Type} {xs : List α} {i : Int} {x : α} (h0 : 0 ≤ i) (h : xs[i.toNat]? = some x) : L2.atI xs i = some x := by
  have e : i = ((i.toNat : Nat) : Int) := by omega
  rw [e]
  exact L2.atI_nat h
theorem at_ints {ns : List Int} {k : Int} (h0 : 0 ≤ k) (h1 : k < ns.length) : L2.atI (ns.map PyData.int) k = some (.int (ns.getD k.toNat 0)) := by
  refine at_nat h0 ?_
  have h2 : k.toNat < ns.length := by omega
  rw [List.getElem?_map, List.getElem?_eq_getElem h2, List.getD_eq_getElem?_getD, List.getElem?_eq_getElem h2]
  rfl
/-! a cell of the script -/
local macro_rules | `(tactic| walk_at "nm") => `(tactic| first | ((with_reducible apply ev_nameF (x := "script") (i := 0)); exact rfl; exact rfl; walk_at "vis"; decide; decide) | ((with_reducible apply ev_nameF (x := "k") (i := 1)); exact rfl; exact rfl; walk_at "vis"; decide; decide))
local macro_rules | `(tactic| walk_at "st") => `(tactic| first | ((with_reducible apply bk_set (x := "script") (i := 0)); walk_at "go"; exact sc_u_law_cell.nd; exact rfl; walk_at "loc"; exact rfl; walk_at "loc") | ((with_reducible apply bk_set (x := "k") (i := 1)); walk_at "go"; exact sc_u_law_cell.nd; exact rfl; walk_at "loc"; exact rfl; walk_at "loc") | ((with_reducible apply bk_aug (x := "script") (i := 0)); exact rfl; walk_at "go"; walk_at "ip"; exact sc_u_law_cell.nd; exact rfl; walk_at "loc"; walk_at "loc") | ((with_reducible apply bk_aug (x := "k") (i := 1)); exact rfl; walk_at "go"; walk_at "ip"; exact sc_u_law_cell.nd; exact rfl; walk_at "loc"; walk_at "loc"))
local macro_rules | `(tactic| walk_at "ap") => `(tactic| first | ((with_reducible apply bk_append (x := "script") (i := 0)); exact rfl; walk_at "go"; (try walk_at "sd"); exact rfl; walk_at "vis"; exact rfl; exact rfl; exact rfl; exact rfl; exact rfl; exact rfl; decide; decide) | ((with_reducible apply bk_append (x := "k") (i := 1)); exact rfl; walk_at "go"; (try walk_at "sd"); exact rfl; walk_at "vis"; exact rfl; exact rfl; exact rfl; exact rfl; exact rfl; exact rfl; decide; decide))
local macro_rules | `(tactic| walk_at "mine") => `(tactic| first | ((with_reducible apply bk_own (x := "script") (i := 0)); walk_at "fresh"; exact sc_u_law_cell.nd; exact rfl; walk_at "loc"; exact (by simp [env0]); exact rfl; walk_at "loc") | ((with_reducible apply bk_own (x := "k") (i := 1)); walk_at "fresh"; exact sc_u_law_cell.nd; exact rfl; walk_at "loc"; exact (by simp [env0]); exact rfl; walk_at "loc"))
local macro_rules | `(tactic| walk_at "augl") => `(tactic| first | ((with_reducible apply bk_augL (x := "script") (i := 0)); exact rfl; walk_at "go"; (try walk_at "sd"); exact sc_u_law_cell.nd; exact rfl; walk_at "loc"; walk_at "loc") | ((with_reducible apply bk_augL (x := "k") (i := 1)); exact rfl; walk_at "go"; (try walk_at "sd"); exact sc_u_law_cell.nd; exact rfl; walk_at "loc"; walk_at "loc"))
local macro_rules | `(tactic| walk_at "sto") => `(tactic| first | ((with_reducible apply bk_sto (x := "script") (i := 0)); exact rfl; walk_at "go"; walk_at "go"; (first | (apply ixN_at; walk_at "sd") | skip); exact rfl; walk_at "vis"; (exact fun _ => rfl); exact rfl; exact rfl; exact rfl; decide; decide) | ((with_reducible apply bk_sto (x := "k") (i := 1)); exact rfl; walk_at "go"; walk_at "go"; (first | (apply ixN_at; walk_at "sd") | skip); exact rfl; walk_at "vis"; (exact fun _ => rfl); exact rfl; exact rfl; exact rfl; decide; decide))
local macro_rules | `(tactic| walk_at "own") => `(tactic| first | ((with_reducible apply ev_ixOwnF (x := "script") (i := 0)); exact rfl; walk_at "go"; (first | walk_at "at" | skip); exact rfl; walk_at "vis"; (exact fun _ _ => rfl); decide; decide) | ((with_reducible apply ev_ixOwnF (x := "k") (i := 1)); exact rfl; walk_at "go"; (first | walk_at "at" | skip); exact rfl; walk_at "vis"; (exact fun _ _ => rfl); decide; decide))
local macro_rules | `(tactic| walk_at "tg") => `(tactic| first | ((with_reducible apply tg_name (x := "script") (i := 0)); exact sc_u_law_cell.nd; exact rfl; walk_at "loc"; walk_at "loc") | ((with_reducible apply tg_name (x := "k") (i := 1)); exact sc_u_law_cell.nd; exact rfl; walk_at "loc"; walk_at "loc"))
local macro_rules | `(tactic| walk_at "rng") => `(tactic| first | ((with_reducible apply bk_rng2 (x := "script") (k := 0)); walk_at "go"; walk_at "go"; exact sc_u_law_cell.nd; exact rfl; walk_at "loc"; exact (by simp [env0]); exact rfl; walk_at "loc"; exact rfl; exact T.z_range; exact rfl; exact rfl; exact rfl) | ((with_reducible apply bk_rng2 (x := "k") (k := 1)); walk_at "go"; walk_at "go"; exact sc_u_law_cell.nd; exact rfl; walk_at "loc"; exact (by simp [env0]); exact rfl; walk_at "loc"; exact rfl; exact T.z_range; exact rfl; exact rfl; exact rfl))
local macro_rules | `(tactic| walk_at "itr") => `(tactic| first | ((with_reducible apply iter_rngS (y := "script") (k := 0)); exact rfl; exact rgC_up (by walk_at "b62") (by walk_at "b62"); exact rfl; walk_at "vis"; decide; decide) | ((with_reducible apply iter_rngS (y := "k") (k := 1)); exact rfl; exact rgC_up (by walk_at "b62") (by walk_at "b62"); exact rfl; walk_at "vis"; decide; decide))
theorem ok_u_law_cell (T : Top K mg) {ns : List Int} {k : Int} (hk : 0 ≤ k) : Dfn P w K mg base "_law_cell" ["script", "k"] 1 [.list (ns.map .int), .int k] (.int (ns.getD k.toNat 0)) := by
  refine dfn T.d_u_law_cell sc_u_law_cell rfl fun f cdv A outer s H E hr => ?_
  walk_at "open"
  walk_at "if"
  · intro h
    have h1 : k < ns.length := by simpa using h
    refine' bk_ret (d := .int (ns.getD k.toNat 0)) ?_ rfl
    refine' ev_ix ?_ ?_ (ix_l (at_ints hk h1)) (fun _ _ => rfl)
    · walk_at "go"
    · walk_at "go"
  · intro h
    have h1 : ¬ k < ns.length := by simpa using h
    refine' bk_nil (bk_ret ev_int ?_)
    have e : ns.getD k.toNat 0 = 0 := by
      rw [List.getD_eq_getElem?_getD, List.getElem?_eq_none (by omega)]
      rfl
    rw [e]
    rfl
/-! draws -/
def cellK (c : Int) (wd : Bool) (i : Nat) : Int := if wd = true then c / 1009 ^ i else c
def drawF (c : Int) (wd : Bool) (k : Int) (i : Nat) : Int := if wd = true then (c / 1009 ^ i) % 1009 else (((c * 48271 + k * 69621) % 2147483647) * ((c * 48271 + k * 69621) % 2147483647) + c * 31 + k) % 1000003
def draw (c : Int) (i : Nat) : Int := drawF c (decide (1000000000000000000 ≤ c)) i i
theorem draw_nonneg (c : Int) (i : Nat) : 0 ≤ draw c i := by
  unfold draw drawF
  split
  · exact Int.emod_nonneg _ (by decide)
  · exact Int.emod_nonneg _ (by decide)
theorem draw_lt (c : Int) (i : Nat) : draw c i < 1000003 := by
  unfold draw drawF
  split
  · have := Int.emod_lt_of_pos (c / 1009 ^ i) (show (0 : Int) < 1009 by decide)
    omega
  · exact Int.emod_lt_of_pos _ (by decide)
def draws (c : Int) (n : Nat) : List Int := (List.range n).map (draw c)
theorem draws_length (c : Int) (n : Nat) : (draws c n).length = n := by unfold draws; simp
theorem draws_get {c : Int} {n i : Nat} (h : i < n) : (draws c n)[i]? = some (draw c i) := by
  unfold draws
  rw [List.getElem?_map, List.getElem?_range h]
  rfl
theorem at_draws {c : Int} {n : Nat} {i : Int} (h0 : 0 ≤ i) (h1 : i < n) : L2.atI ((draws c n).map PyData.int) i = some (.int (draw c i.toNat)) := by
  refine at_nat h0 ?_
  rw [List.getElem?_map, draws_get (show i.toNat < n by omega)]
  rfl
theorem cellK_succ (c : Int) (i : Nat) : cellK c true i / 1009 = cellK c true (i + 1) := by
  show c / 1009 ^ i / 1009 = c / 1009 ^ (i + 1)
  rw [Int.pow_succ, ← Int.ediv_ediv_of_nonneg (Int.pow_nonneg (by decide))]
theorem at_dr0 {c : Int} {n : Nat} (h : 0 < n) : L2.atI ((draws c n).map PyData.int) 0 = some (.int (draw c 0)) := at_draws (i := 0) (by decide) (by omega)
theorem at_dr1 {c : Int} {n : Nat} (h : 1 < n) : L2.atI ((draws c n).map PyData.int) 1 = some (.int (draw c 1)) := at_draws (i := 1) (by decide) (by omega)
theorem at_dr2 {c : Int} {n : Nat} (h : 2 < n) : L2.atI ((draws c n).map PyData.int) 2 = some (.int (draw c 2)) := at_draws (i := 2) (by decide) (by omega)
theorem at_dr3 {c : Int} {n : Nat} (h : 3 < n) : L2.atI ((draws c n).map PyData.int) 3 = some (.int (draw c 3)) := at_draws (i := 3) (by decide) (by omega)
theorem at_dr4 {c : Int} {n : Nat} (h : 4 < n) : L2.atI ((draws c n).map PyData.int) 4 = some (.int (draw c 4)) := at_draws (i := 4) (by decide) (by omega)
theorem at_dr5 {c : Int} {n : Nat} (h : 5 < n) : L2.atI ((draws c n).map PyData.int) 5 = some (.int (draw c 5)) := at_draws (i := 5) (by decide) (by omega)
theorem at_dr6 {c : Int} {n : Nat} (h : 6 < n) : L2.atI ((draws c n).map PyData.int) 6 = some (.int (draw c 6)) := at_draws (i := 6) (by decide) (by omega)
theorem at_dr7 {c : Int} {n : Nat} (h : 7 < n) : L2.atI ((draws c n).map PyData.int) 7 = some (.int (draw c 7)) := at_draws (i := 7) (by decide) (by omega)
theorem at_dr8 {c : Int} {n : Nat} (h : 8 < n) : L2.atI ((draws c n).map PyData.int) 8 = some (.int (draw c 8)) := at_draws (i := 8) (by decide) (by omega)
theorem at_dr9 {c : Int} {n : Nat} (h : 9 < n) : L2.atI ((draws c n).map PyData.int) 9 = some (.int (draw c 9)) := at_draws (i := 9) (by decide) (by omega)
theorem at_dr10 {c : Int} {n : Nat} (h : 10 < n) : L2.atI ((draws c n).map PyData.int) 10 = some (.int (draw c 10)) := at_draws (i := 10) (by decide) (by omega)
theorem at_dr11 {c : Int} {n : Nat} (h : 11 < n) : L2.atI ((draws c n).map PyData.int) 11 = some (.int (draw c 11)) := at_draws (i := 11) (by decide) (by omega)
theorem at_dr12 {c : Int} {n : Nat} (h : 12 < n) : L2.atI ((draws c n).map PyData.int) 12 = some (.int (draw c 12)) := at_draws (i := 12) (by decide) (by omega)
theorem at_dr13 {c : Int} {n : Nat} (h : 13 < n) : L2.atI ((draws c n).map PyData.int) 13 = some (.int (draw c 13)) := at_draws (i := 13) (by decide) (by omega)
theorem at_dr14 {c : Int} {n : Nat} (h : 14 < n) : L2.atI ((draws c n).map PyData.int) 14 = some (.int (draw c 14)) := at_draws (i := 14) (by decide) (by omega)
theorem at_dr15 {c : Int} {n : Nat} (h : 15 < n) : L2.atI ((draws c n).map PyData.int) 15 = some (.int (draw c 15)) := at_draws (i := 15) (by decide) (by omega)
local macro_rules | `(tactic| walk_at "nm") => `(tactic| first | ((with_reducible apply ev_nameF (x := "cell") (i := 0)); exact rfl; exact rfl; walk_at "vis"; decide; decide) | ((with_reducible apply ev_nameF (x := "count") (i := 1)); exact rfl; exact rfl; walk_at "vis"; decide; decide) | ((with_reducible apply ev_nameF (x := "found") (i := 2)); exact rfl; exact rfl; walk_at "vis"; decide; decide) | ((with_reducible apply ev_nameF (x := "is_wide") (i := 3)); exact rfl; exact rfl; walk_at "vis"; decide; decide) | ((with_reducible apply ev_nameF (x := "k") (i := 4)); exact rfl; exact rfl; walk_at "vis"; decide; decide) | ((with_reducible apply ev_nameF (x := "mixed") (i := 5)); exact rfl; exact rfl; walk_at "vis"; decide; decide))
local macro_rules | `(tactic| walk_at "st") => `(tactic| first | ((with_reducible apply bk_set (x := "cell") (i := 0)); walk_at "go"; exact sc_u_law_draws.nd; exact rfl; walk_at "loc"; exact rfl; walk_at "loc") | ((with_reducible apply bk_set (x := "count") (i := 1)); walk_at "go"; exact sc_u_law_draws.nd; exact rfl; walk_at "loc"; exact rfl; walk_at "loc") | ((with_reducible apply bk_set (x := "found") (i := 2)); walk_at "go"; exact sc_u_law_draws.nd; exact rfl; walk_at "loc"; exact rfl; walk_at "loc") | ((with_reducible apply bk_set (x := "is_wide") (i := 3)); walk_at "go"; exact sc_u_law_draws.nd; exact rfl; walk_at "loc"; exact rfl; walk_at "loc") | ((with_reducible apply bk_set (x := "k") (i := 4)); walk_at "go"; exact sc_u_law_draws.nd; exact rfl; walk_at "loc"; exact rfl; walk_at "loc") | ((with_reducible apply bk_set (x := "mixed") (i := 5)); walk_at "go"; exact sc_u_law_draws.nd; exact rfl; walk_at "loc"; exact rfl; walk_at "loc") | ((with_reducible apply bk_aug (x := "cell") (i := 0)); exact rfl; walk_at "go"; walk_at "ip"; exact sc_u_law_draws.nd; exact rfl; walk_at "loc"; walk_at "loc") | ((with_reducible apply bk_aug (x := "count") (i := 1)); exact rfl; walk_at "go"; walk_at "ip"; exact sc_u_law_draws.nd; exact rfl; walk_at "loc"; walk_at "loc") | ((with_reducible apply bk_aug (x := "found") (i := 2)); exact rfl; walk_at "go"; walk_at "ip"; exact sc_u_law_draws.nd; exact rfl; walk_at "loc"; walk_at "loc") | ((with_reducible apply bk_aug (x := "is_wide") (i := 3)); exact rfl; walk_at "go"; walk_at "ip"; exact sc_u_law_draws.nd; exact rfl; walk_at "loc"; walk_at "loc") | ((with_reducible apply bk_aug (x := "k") (i := 4)); exact rfl; walk_at "go"; walk_at "ip"; exact sc_u_law_draws.nd; exact rfl; walk_at "loc"; walk_at "loc") | ((with_reducible apply bk_aug (x := "mixed") (i := 5)); exact rfl; walk_at "go"; walk_at "ip"; exact sc_u_law_draws.nd; exact rfl; walk_at "loc"; walk_at "loc"))
local macro_rules | `(tactic| walk_at "ap") => `(tactic| first | ((with_reducible apply bk_append (x := "cell") (i := 0)); exact rfl; walk_at "go"; (try walk_at "sd"); exact rfl; walk_at "vis"; exact rfl; exact rfl; exact rfl; exact rfl; exact rfl; exact rfl; decide; decide) | ((with_reducible apply bk_append (x := "count") (i := 1)); exact rfl; walk_at "go"; (try walk_at "sd"); exact rfl; walk_at "vis"; exact rfl; exact rfl; exact rfl; exact rfl; exact rfl; exact rfl; decide; decide) | ((with_reducible apply bk_append (x := "found") (i := 2)); exact rfl; walk_at "go"; (try walk_at "sd"); exact rfl; walk_at "vis"; exact rfl; exact rfl; exact rfl; exact rfl; exact rfl; exact rfl; decide; decide) | ((with_reducible apply bk_append (x := "is_wide") (i := 3)); exact rfl; walk_at "go"; (try walk_at "sd"); exact rfl; walk_at "vis"; exact rfl; exact rfl; exact rfl; exact rfl; exact rfl; exact rfl; decide; decide) | ((with_reducible apply bk_append (x := "k") (i := 4)); exact rfl; walk_at "go"; (try walk_at "sd"); exact rfl; walk_at "vis"; exact rfl; exact rfl; exact rfl; exact rfl; exact rfl; exact rfl; decide; decide) | ((with_reducible apply bk_append (x := "mixed") (i := 5)); exact rfl; walk_at "go"; (try walk_at "sd"); exact rfl; walk_at "vis"; exact rfl; exact rfl; exact rfl; exact rfl; exact rfl; exact rfl; decide; decide))
local macro_rules | `(tactic| walk_at "mine") => `(tactic| first | ((with_reducible apply bk_own (x := "cell") (i := 0)); walk_at "fresh"; exact sc_u_law_draws.nd; exact rfl; walk_at "loc"; exact (by simp [env0]); exact rfl; walk_at "loc") | ((with_reducible apply bk_own (x := "count") (i := 1)); walk_at "fresh"; exact sc_u_law_draws.nd; exact rfl; walk_at "loc"; exact (by simp [env0]); exact rfl; walk_at "loc") | ((with_reducible apply bk_own (x := "found") (i := 2)); walk_at "fresh"; exact sc_u_law_draws.nd; exact rfl; walk_at "loc"; exact (by simp [env0]); exact rfl; walk_at "loc") | ((with_reducible apply bk_own (x := "is_wide") (i := 3)); walk_at "fresh"; exact sc_u_law_draws.nd; exact rfl; walk_at "loc"; exact (by simp [env0]); exact rfl; walk_at "loc") | ((with_reducible apply bk_own (x := "k") (i := 4)); walk_at "fresh"; exact sc_u_law_draws.nd; exact rfl; walk_at "loc"; exact (by simp [env0]); exact rfl; walk_at "loc") | ((with_reducible apply bk_own (x := "mixed") (i := 5)); walk_at "fresh"; exact sc_u_law_draws.nd; exact rfl; walk_at "loc"; exact (by simp [env0]); exact rfl; walk_at "loc"))
local macro_rules | `(tactic| walk_at "augl") => `(tactic| first | ((with_reducible apply bk_augL (x := "cell") (i := 0)); exact rfl; walk_at "go"; (try walk_at "sd"); exact sc_u_law_draws.nd; exact rfl; walk_at "loc"; walk_at "loc") | ((with_reducible apply bk_augL (x := "count") (i := 1)); exact rfl; walk_at "go"; (try walk_at "sd"); exact sc_u_law_draws.nd; exact rfl; walk_at "loc"; walk_at "loc") | ((with_reducible apply bk_augL (x := "found") (i := 2)); exact rfl; walk_at "go"; (try walk_at "sd"); exact sc_u_law_draws.nd; exact rfl; walk_at "loc"; walk_at "loc") | ((with_reducible apply bk_augL (x := "is_wide") (i := 3)); exact rfl; walk_at "go"; (try walk_at "sd"); exact sc_u_law_draws.nd; exact rfl; walk_at "loc"; walk_at "loc") | ((with_reducible apply bk_augL (x := "k") (i := 4)); exact rfl; walk_at "go"; (try walk_at "sd"); exact sc_u_law_draws.nd; exact rfl; walk_at "loc"; walk_at "loc") | ((with_reducible apply bk_augL (x := "mixed") (i := 5)); exact rfl; walk_at "go"; (try walk_at "sd"); exact sc_u_law_draws.nd; exact rfl; walk_at "loc"; walk_at "loc"))
local macro_rules | `(tactic| walk_at "sto") => `(tactic| first | ((with_reducible apply bk_sto (x := "cell") (i := 0)); exact rfl; walk_at "go"; walk_at "go"; (first | (apply ixN_at; walk_at "sd") | skip); exact rfl; walk_at "vis"; (exact fun _ => rfl); exact rfl; exact rfl; exact rfl; decide; decide) | ((with_reducible apply bk_sto (x := "count") (i := 1)); exact rfl; walk_at "go"; walk_at "go"; (first | (apply ixN_at; walk_at "sd") | skip); exact rfl; walk_at "vis"; (exact fun _ => rfl); exact rfl; exact rfl; exact rfl; decide; decide) | ((with_reducible apply bk_sto (x := "found") (i := 2)); exact rfl; walk_at "go"; walk_at "go"; (first | (apply ixN_at; walk_at "sd") | skip); exact rfl; walk_at "vis"; (exact fun _ => rfl); exact rfl; exact rfl; exact rfl; decide; decide) | ((with_reducible apply bk_sto (x := "is_wide") (i := 3)); exact rfl; walk_at "go"; walk_at "go"; (first | (apply ixN_at; walk_at "sd") | skip); exact rfl; walk_at "vis"; (exact fun _ => rfl); exact rfl; exact rfl; exact rfl; decide; decide) | ((with_reducible apply bk_sto (x := "k") (i := 4)); exact rfl; walk_at "go"; walk_at "go"; (first | (apply ixN_at; walk_at "sd") | skip); exact rfl; walk_at "vis"; (exact fun _ => rfl); exact rfl; exact rfl; exact rfl; decide; decide) | ((with_reducible apply bk_sto (x := "mixed") (i := 5)); exact rfl; walk_at "go"; walk_at "go"; (first | (apply ixN_at; walk_at "sd") | skip); exact rfl; walk_at "vis"; (exact fun _ => rfl); exact rfl; exact rfl; exact rfl; decide; decide))
local macro_rules | `(tactic| walk_at "own") => `(tactic| first | ((with_reducible apply ev_ixOwnF (x := "cell") (i := 0)); exact rfl; walk_at "go"; (first | walk_at "at" | skip); exact rfl; walk_at "vis"; (exact fun _ _ => rfl); decide; decide) | ((with_reducible apply ev_ixOwnF (x := "count") (i := 1)); exact rfl; walk_at "go"; (first | walk_at "at" | skip); exact rfl; walk_at "vis"; (exact fun _ _ => rfl); decide; decide) | ((with_reducible apply ev_ixOwnF (x := "found") (i := 2)); exact rfl; walk_at "go"; (first | walk_at "at" | skip); exact rfl; walk_at "vis"; (exact fun _ _ => rfl); decide; decide) | ((with_reducible apply ev_ixOwnF (x := "is_wide") (i := 3)); exact rfl; walk_at "go"; (first | walk_at "at" | skip); exact rfl; walk_at "vis"; (exact fun _ _ => rfl); decide; decide) | ((with_reducible apply ev_ixOwnF (x := "k") (i := 4)); exact rfl; walk_at "go"; (first | walk_at "at" | skip); exact rfl; walk_at "vis"; (exact fun _ _ => rfl); decide; decide) | ((with_reducible apply ev_ixOwnF (x := "mixed") (i := 5)); exact rfl; walk_at "go"; (first | walk_at "at" | skip); exact rfl; walk_at "vis"; (exact fun _ _ => rfl); decide; decide))
local macro_rules | `(tactic| walk_at "tg") => `(tactic| first | ((with_reducible apply tg_name (x := "cell") (i := 0)); exact sc_u_law_draws.nd; exact rfl; walk_at "loc"; walk_at "loc") | ((with_reducible apply tg_name (x := "count") (i := 1)); exact sc_u_law_draws.nd; exact rfl; walk_at "loc"; walk_at "loc") | ((with_reducible apply tg_name (x := "found") (i := 2)); exact sc_u_law_draws.nd; exact rfl; walk_at "loc"; walk_at "loc") | ((with_reducible apply tg_name (x := "is_wide") (i := 3)); exact sc_u_law_draws.nd; exact rfl; walk_at "loc"; walk_at "loc") | ((with_reducible apply tg_name (x := "k") (i := 4)); exact sc_u_law_draws.nd; exact rfl; walk_at "loc"; walk_at "loc") | ((with_reducible apply tg_name (x := "mixed") (i := 5)); exact sc_u_law_draws.nd; exact rfl; walk_at "loc"; walk_at "loc"))
local macro_rules | `(tactic| walk_at "rng") => `(tactic| first | ((with_reducible apply bk_rng2 (x := "cell") (k := 0)); walk_at "go"; walk_at "go"; exact sc_u_law_draws.nd; exact rfl; walk_at "loc"; exact (by simp [env0]); exact rfl; walk_at "loc"; exact rfl; exact T.z_range; exact rfl; exact rfl; exact rfl) | ((with_reducible apply bk_rng2 (x := "count") (k := 1)); walk_at "go"; walk_at "go"; exact sc_u_law_draws.nd; exact rfl; walk_at "loc"; exact (by simp [env0]); exact rfl; walk_at "loc"; exact rfl; exact T.z_range; exact rfl; exact rfl; exact rfl) | ((with_reducible apply bk_rng2 (x := "found") (k := 2)); walk_at "go"; walk_at "go"; exact sc_u_law_draws.nd; exact rfl; walk_at "loc"; exact (by simp [env0]); exact rfl; walk_at "loc"; exact rfl; exact T.z_range; exact rfl; exact rfl; exact rfl) | ((with_reducible apply bk_rng2 (x := "is_wide") (k := 3)); walk_at "go"; walk_at "go"; exact sc_u_law_draws.nd; exact rfl; walk_at "loc"; exact (by simp [env0]); exact rfl; walk_at "loc"; exact rfl; exact T.z_range; exact rfl; exact rfl; exact rfl) | ((with_reducible apply bk_rng2 (x := "k") (k := 4)); walk_at "go"; walk_at "go"; exact sc_u_law_draws.nd; exact rfl; walk_at "loc"; exact (by simp [env0]); exact rfl; walk_at "loc"; exact rfl; exact T.z_range; exact rfl; exact rfl; exact rfl) | ((with_reducible apply bk_rng2 (x := "mixed") (k := 5)); walk_at "go"; walk_at "go"; exact sc_u_law_draws.nd; exact rfl; walk_at "loc"; exact (by simp [env0]); exact rfl; walk_at "loc"; exact rfl; exact T.z_range; exact rfl; exact rfl; exact rfl))
local macro_rules | `(tactic| walk_at "itr") => `(tactic| first | ((with_reducible apply iter_rngS (y := "cell") (k := 0)); exact rfl; exact rgC_up (by walk_at "b62") (by walk_at "b62"); exact rfl; walk_at "vis"; decide; decide) | ((with_reducible apply iter_rngS (y := "count") (k := 1)); exact rfl; exact rgC_up (by walk_at "b62") (by walk_at "b62"); exact rfl; walk_at "vis"; decide; decide) | ((with_reducible apply iter_rngS (y := "found") (k := 2)); exact rfl; exact rgC_up (by walk_at "b62") (by walk_at "b62"); exact rfl; walk_at "vis"; decide; decide) | ((with_reducible apply iter_rngS (y := "is_wide") (k := 3)); exact rfl; exact rgC_up (by walk_at "b62") (by walk_at "b62"); exact rfl; walk_at "vis"; decide; decide) | ((with_reducible apply iter_rngS (y := "k") (k := 4)); exact rfl; exact rgC_up (by walk_at "b62") (by walk_at "b62"); exact rfl; walk_at "vis"; decide; decide) | ((with_reducible apply iter_rngS (y := "mixed") (k := 5)); exact rfl; exact rgC_up (by walk_at "b62") (by walk_at "b62"); exact rfl; walk_at "vis"; decide; decide))
theorem ok_u_law_draws (T : Top K mg) {c n : Int} (hn : n ≤ 1000 ∧ 0 ≤ n) : Dfn P w K mg base "_law_draws" ["cell", "count"] 1 [.int c, .int n] (.list ((draws c n.toNat).map .int)) := by
  refine dfn T.d_u_law_draws sc_u_law_draws rfl fun f cdv A outer s H E hr => ?_
  walk_at "open"
  walk_at "mine"
  walk_at "st"
  have e18 : (10 : Int) ^ (18 : Int).toNat = 1000000000000000000 := by decide
  rw [e18]
  generalize hw : decide (1000000000000000000 ≤ c) = wd
  refine bk_for (P := fun i r => ∃ a b, r = [.dat (.int (cellK c wd i)), .dat (.int n), .own ((List.range i).map fun (j : Nat) => PyData.int (drawF c wd (0 + (j : Int)) j)), .dat (.bool wd), a, b]) (B := fun _ => False)
    (iter_range1 (j := n) ?_ ⟨?_, ?_⟩ rfl T.z_range) ⟨.un, .un, ?_⟩ ?_ ?_ rfl PassesOwn.never
  · walk_at "go"
  · omega
  · omega
  · cases wd <;> simp [env0, cellK]
  · rintro i r d hd ⟨a, b, rfl⟩
    rw [List.getElem?_map] at hd
    have hi : i < n.toNat := by
      rcases Nat.lt_or_ge i n.toNat with h | h
      · exact h
      · rw [List.getElem?_eq_none (by simpa using h)] at hd
        cases hd
    rw [List.getElem?_range hi] at hd
    cases hd
    refine ⟨_, _, tg_name (i := 4) sc_u_law_draws.nd rfl (Or.inl rfl) (Or.inl rfl), ?_⟩
    walk_at "if"
    · rintro rfl
      walk_at "ap"
      walk_at "st"
      refine bk_nil (bk_nil (bk_end ?_))
      show ∃ a b, _ = _
      rw [← cellK_succ, List.range_succ, List.map_append]
      exact ⟨_, _, rfl⟩
    · rintro rfl
      walk_at "st"
      walk_at "ap"
      refine bk_nil (bk_nil (bk_end ?_))
      show ∃ a b, _ = _
      rw [List.range_succ, List.map_append]
      exact ⟨_, _, rfl⟩
  · rintro r (⟨a, b, rfl⟩ | h)
    · refine' bk_freeze (i := 2) rfl (bk_ret (ev_name (i := 2) rfl rfl (Or.inl rfl)) ?_)
      show PyData.list _ = PyData.list _
      unfold draws draw
      rw [hw, List.map_map, List.length_map, List.length_range]
      simp only [Int.zero_add]
      rfl
    · exact h.elim
end


section
variable {P : Program} {w : World} {K : PySem.W.Frag} {mg : Str → Option Value} {base : Heap}
local macro_rules | `(tactic| walk_at "nm") => `(tactic| first | ((with_reducible apply ev_nameF (x := "actual") (i := 0)); exact rfl; exact rfl; walk_at "vis"; decide; decide) | ((with_reducible apply ev_nameF (x := "expected") (i := 1)); exact rfl; exact rfl; walk_at "vis"; decide; decide) | ((with_reducible apply ev_nameF (x := "k") (i := 2)); exact rfl; exact rfl; walk_at "vis"; decide; decide))
local macro_rules | `(tactic| walk_at "st") => `(tactic| first | ((with_reducible apply bk_set (x := "actual") (i := 0)); walk_at "go"; exact sc_u_law_same.nd; exact rfl; walk_at "loc"; exact rfl; walk_at "loc") | ((with_reducible apply bk_set (x := "expected") (i := 1)); walk_at "go"; exact sc_u_law_same.nd; exact rfl; walk_at "loc"; exact rfl; walk_at "loc") | ((with_reducible apply bk_set (x := "k") (i := 2)); walk_at "go"; exact sc_u_law_same.nd; exact rfl; walk_at "loc"; exact rfl; walk_at "loc") | ((with_reducible apply bk_aug (x := "actual") (i := 0)); exact rfl; walk_at "go"; walk_at "ip"; exact sc_u_law_same.nd; exact rfl; walk_at "loc"; walk_at "loc") | ((with_reducible apply bk_aug (x := "expected") (i := 1)); exact rfl; walk_at "go"; walk_at "ip"; exact sc_u_law_same.nd; exact rfl; walk_at "loc"; walk_at "loc") | ((with_reducible apply bk_aug (x := "k") (i := 2)); exact rfl; walk_at "go"; walk_at "ip"; exact sc_u_law_same.nd; exact rfl; walk_at "loc"; walk_at "loc"))
local macro_rules | `(tactic| walk_at "ap") => `(tactic| first | ((with_reducible apply bk_append (x := "actual") (i := 0)); exact rfl; walk_at "go"; (try walk_at "sd"); exact rfl; walk_at "vis"; exact rfl; exact rfl; exact rfl; exact rfl; exact rfl; exact rfl; decide; decide) | ((with_reducible apply bk_append (x := "expected") (i := 1)); exact rfl; walk_at "go"; (try walk_at "sd"); exact rfl; walk_at "vis"; exact rfl; exact rfl; exact rfl; exact rfl; exact rfl; exact rfl; decide; decide) | ((with_reducible apply bk_append (x := "k") (i := 2)); exact rfl; walk_at "go"; (try walk_at "sd"); exact rfl; walk_at "vis"; exact rfl; exact rfl; exact rfl; exact rfl; exact rfl; exact rfl; decide; decide))
local macro_rules | `(tactic| walk_at "mine") => `(tactic| first | ((with_reducible apply bk_own (x := "actual") (i := 0)); walk_at "fresh"; exact sc_u_law_same.nd; exact rfl; walk_at "loc"; exact (by simp [env0]); exact rfl; walk_at "loc") | ((with_reducible apply bk_own (x := "expected") (i := 1)); walk_at "fresh"; exact sc_u_law_same.nd; exact rfl; walk_at "loc"; exact (by simp [env0]); exact rfl; walk_at "loc") | ((with_reducible apply bk_own (x := "k") (i := 2)); walk_at "fresh"; exact sc_u_law_same.nd; exact rfl; walk_at "loc"; exact (by simp [env0]); exact rfl; walk_at "loc"))
local macro_rules | `(tactic| walk_at "augl") => `(tactic| first | ((with_reducible apply bk_augL (x := "actual") (i := 0)); exact rfl; walk_at "go"; (try walk_at "sd"); exact sc_u_law_same.nd; exact rfl; walk_at "loc"; walk_at "loc") | ((with_reducible apply bk_augL (x := "expected") (i := 1)); exact rfl; walk_at "go"; (try walk_at "sd"); exact sc_u_law_same.nd; exact rfl; walk_at "loc"; walk_at "loc") | ((with_reducible apply bk_augL (x := "k") (i := 2)); exact rfl; walk_at "go"; (try walk_at "sd"); exact sc_u_law_same.nd; exact rfl; walk_at "loc"; walk_at "loc"))
local macro_rules | `(tactic| walk_at "sto") => `(tactic| first | ((with_reducible apply bk_sto (x := "actual") (i := 0)); exact rfl; walk_at "go"; walk_at "go"; (first | (apply ixN_at; walk_at "sd") | skip); exact rfl; walk_at "vis"; (exact fun _ => rfl); exact rfl; exact rfl; exact rfl; decide; decide) | ((with_reducible apply bk_sto (x := "expected") (i := 1)); exact rfl; walk_at "go"; walk_at "go"; (first | (apply ixN_at; walk_at "sd") | skip); exact rfl; walk_at "vis"; (exact fun _ => rfl); exact rfl; exact rfl; exact rfl; decide; decide) | ((with_reducible apply bk_sto (x := "k") (i := 2)); exact rfl; walk_at "go"; walk_at "go"; (first | (apply ixN_at; walk_at "sd") | skip); exact rfl; walk_at "vis"; (exact fun _ => rfl); exact rfl; exact rfl; exact rfl; decide; decide))
local macro_rules | `(tactic| walk_at "own") => `(tactic| first | ((with_reducible apply ev_ixOwnF (x := "actual") (i := 0)); exact rfl; walk_at "go"; (first | walk_at "at" | skip); exact rfl; walk_at "vis"; (exact fun _ _ => rfl); decide; decide) | ((with_reducible apply ev_ixOwnF (x := "expected") (i := 1)); exact rfl; walk_at "go"; (first | walk_at "at" | skip); exact rfl; walk_at "vis"; (exact fun _ _ => rfl); decide; decide) | ((with_reducible apply ev_ixOwnF (x := "k") (i := 2)); exact rfl; walk_at "go"; (first | walk_at "at" | skip); exact rfl; walk_at "vis"; (exact fun _ _ => rfl); decide; decide))
local macro_rules | `(tactic| walk_at "tg") => `(tactic| first | ((with_reducible apply tg_name (x := "actual") (i := 0)); exact sc_u_law_same.nd; exact rfl; walk_at "loc"; walk_at "loc") | ((with_reducible apply tg_name (x := "expected") (i := 1)); exact sc_u_law_same.nd; exact rfl; walk_at "loc"; walk_at "loc") | ((with_reducible apply tg_name (x := "k") (i := 2)); exact sc_u_law_same.nd; exact rfl; walk_at "loc"; walk_at "loc"))
local macro_rules | `(tactic| walk_at "rng") => `(tactic| first | ((with_reducible apply bk_rng2 (x := "actual") (k := 0)); walk_at "go"; walk_at "go"; exact sc_u_law_same.nd; exact rfl; walk_at "loc"; exact (by simp [env0]); exact rfl; walk_at "loc"; exact rfl; exact T.z_range; exact rfl; exact rfl; exact rfl) | ((with_reducible apply bk_rng2 (x := "expected") (k := 1)); walk_at "go"; walk_at "go"; exact sc_u_law_same.nd; exact rfl; walk_at "loc"; exact (by simp [env0]); exact rfl; walk_at "loc"; exact rfl; exact T.z_range; exact rfl; exact rfl; exact rfl) | ((with_reducible apply bk_rng2 (x := "k") (k := 2)); walk_at "go"; walk_at "go"; exact sc_u_law_same.nd; exact rfl; walk_at "loc"; exact (by simp [env0]); exact rfl; walk_at "loc"; exact rfl; exact T.z_range; exact rfl; exact rfl; exact rfl))
local macro_rules | `(tactic| walk_at "itr") => `(tactic| first | ((with_reducible apply iter_rngS (y := "actual") (k := 0)); exact rfl; exact rgC_up (by walk_at "b62") (by walk_at "b62"); exact rfl; walk_at "vis"; decide; decide) | ((with_reducible apply iter_rngS (y := "expected") (k := 1)); exact rfl; exact rgC_up (by walk_at "b62") (by walk_at "b62"); exact rfl; walk_at "vis"; decide; decide) | ((with_reducible apply iter_rngS (y := "k") (k := 2)); exact rfl; exact rgC_up (by walk_at "b62") (by walk_at "b62"); exact rfl; walk_at "vis"; decide; decide))
theorem ok_same_int (T : Top K mg) {i : Int} (k : Nat) : Dfn P w K mg base "_law_same" ["actual", "expected"] (k + 1) [.int i, .int i] (.bool true) := by
  refine dfn T.d_u_law_same sc_u_law_same rfl fun f cdv A outer s H E hr => ?_
  walk_at "open"
  walk_at "if"
  · walk_at "no"
  · intro _
    refine bk_nil ?_
    walk_at "if"
    · intro h
      simp at h
    · intro _
      refine bk_nil ?_
      walk_at "if"
      · walk_at "no"
      · intro _
        refine bk_nil ?_
        walk_at "if"
        · walk_at "no"
        · intro _
          refine bk_nil ?_
          walk_at "ret"
          rw [show decide (i = i) = true by simp]
          rfl
section
local macro_rules | `(tactic| walk_at "cl") => `(tactic| ((with_reducible apply ev_callF (x := "_law_same") (ps := ["actual", "expected"]) (j := k)); walk_at "go"; exact hall _ (List.getElem_mem hi); exact hr; exact Nat.le_refl _; exact rfl; decide; exact rfl; exact rfl))
local macro_rules | `(tactic| walk_at "at") => `(tactic| first | with_reducible assumption)
theorem ok_same_tup (T : Top K mg) {ds : List D} {k : Nat} (hn : ds.length ≤ 900) (hall : ∀ d ∈ ds, Dfn P w K mg base "_law_same" ["actual", "expected"] k [d, d] (.bool true)) : Dfn P w K mg base "_law_same" ["actual", "expected"] (k + 1) [.tuple ds, .tuple ds] (.bool true) := by
  refine dfn T.d_u_law_same sc_u_law_same rfl fun f cdv A outer s H E hr => ?_
  walk_at "open"
  walk_at "if"
  · intro _
    walk_at "if"
    · intro h
      simp at h
    · intro _
      refine bk_nil ?_
      refine bk_for (ds := (List.range (((ds.length : Nat) : Int)).toNat).map fun (m : Nat) => PyData.int (m : Nat)) (P := fun i r => ∃ a, r = [.dat (.tuple ds), .dat (.tuple ds), a]) (B := fun _ => False) ?_ ⟨.un, rfl⟩ ?_ ?_ rfl PassesOwn.never
      · walk_at "it"
      · rintro i r d hd ⟨a, rfl⟩
        obtain ⟨hi, rfl⟩ := get_rng hd
        have hi : i < ds.length := by omega
        have hat : L2.atI ds ((i : Nat) : Int) = some ds[i] := at_nat (by omega) (by rw [Int.toNat_natCast]; exact List.getElem?_eq_getElem hi)
        refine ⟨_, _, tg_name (i := 2) sc_u_law_same.nd rfl (Or.inl rfl) (Or.inl rfl), ?_⟩
        walk_at "if"
        · intro h
          simp at h
        · intro _
          exact bk_nil (bk_nil (bk_end ⟨_, rfl⟩))
      · rintro r (⟨a, rfl⟩ | h)
        · walk_at "ret"
          rfl
        · exact h.elim
  · walk_at "no"
end
end

section
variable {P : Program} {w : World} {K : PySem.W.Frag} {mg : Str → Option Value} {base : Heap}
/-! words, numbers, rows -/
theorem split_is (c : Nat) (hc : c < 256) (l : List Nat) : (Txt.split (S l) (S [c])).map PyData.str = (cutC c [] l).map fun p => PyData.str (S p) := by
  rw [split_cut hc, List.map_map]
  rfl
theorem cut_len (c : Nat) : ∀ (l acc : List Nat), (cutC c acc l).length ≤ l.length + 1
  | [], acc => by rw [cutC]; simp
  | x :: r, acc => by
    rw [cutC]
    split
    · have := cut_len c r []
      simp only [List.length_cons]
      omega
    · have := cut_len c r (acc ++ [x])
      simp only [List.length_cons]
      omega
theorem cut_mem (c : Nat) : ∀ (l acc : List Nat), ∀ p ∈ cutC c acc l, p.length ≤ acc.length + l.length
  | [], acc, p, hp => by
    rw [cutC] at hp
    rw [List.mem_singleton.mp hp]
    simp
  | x :: r, acc, p, hp => by
    rw [cutC] at hp
    split at hp
    · rcases List.mem_cons.mp hp with e | hp
      · rw [e]; simp
      · have := cut_mem c r [] p hp
        simp only [List.length_cons, List.length_nil] at this ⊢
        omega
    · have := cut_mem c r (acc ++ [x]) p hp
      simp only [List.length_append, List.length_cons, List.length_nil] at this ⊢
      omega
theorem sp1 : (" " : Str) = S [32] := by decide +kernel
theorem nl1 : ("\n" : Str) = S [10] := by decide +kernel
theorem tru_S (p : List Nat) : tru (.str (S p)) = !p.isEmpty := by
  show (((S p).length : Int) != 0) = _
  rw [S_len]
  cases p with
  | nil => rfl
  | cons a l =>
    show ((((a :: l).length : Nat) : Int) != 0) = true
    simp only [List.length_cons, bne_iff_ne, ne_eq]
    omega
local macro_rules | `(tactic| walk_at "nm") => `(tactic| first | ((with_reducible apply ev_nameF (x := "told") (i := 0)); exact rfl; exact rfl; walk_at "vis"; decide; decide) | ((with_reducible apply ev_nameF (x := "word") (i := 1)); exact rfl; exact rfl; walk_at "vis"; decide; decide))
local macro_rules | `(tactic| walk_at "st") => `(tactic| first | ((with_reducible apply bk_set (x := "told") (i := 0)); walk_at "go"; exact sc_words_of.nd; exact rfl; walk_at "loc"; exact rfl; walk_at "loc") | ((with_reducible apply bk_set (x := "word") (i := 1)); walk_at "go"; exact sc_words_of.nd; exact rfl; walk_at "loc"; exact rfl; walk_at "loc") | ((with_reducible apply bk_aug (x := "told") (i := 0)); exact rfl; walk_at "go"; walk_at "ip"; exact sc_words_of.nd; exact rfl; walk_at "loc"; walk_at "loc") | ((with_reducible apply bk_aug (x := "word") (i := 1)); exact rfl; walk_at "go"; walk_at "ip"; exact sc_words_of.nd; exact rfl; walk_at "loc"; walk_at "loc"))
local macro_rules | `(tactic| walk_at "ap") => `(tactic| first | ((with_reducible apply bk_append (x := "told") (i := 0)); exact rfl; walk_at "go"; (try walk_at "sd"); exact rfl; walk_at "vis"; exact rfl; exact rfl; exact rfl; exact rfl; exact rfl; exact rfl; decide; decide) | ((with_reducible apply bk_append (x := "word") (i := 1)); exact rfl; walk_at "go"; (try walk_at "sd"); exact rfl; walk_at "vis"; exact rfl; exact rfl; exact rfl; exact rfl; exact rfl; exact rfl; decide; decide))
local macro_rules | `(tactic| walk_at "mine") => `(tactic| first | ((with_reducible apply bk_own (x := "told") (i := 0)); walk_at "fresh"; exact sc_words_of.nd; exact rfl; walk_at "loc"; exact (by simp [env0]); exact rfl; walk_at "loc") | ((with_reducible apply bk_own (x := "word") (i := 1)); walk_at "fresh"; exact sc_words_of.nd; exact rfl; walk_at "loc"; exact (by simp [env0]); exact rfl; walk_at "loc"))
local macro_rules | `(tactic| walk_at "augl") => `(tactic| first | ((with_reducible apply bk_augL (x := "told") (i := 0)); exact rfl; walk_at "go"; (try walk_at "sd"); exact sc_words_of.nd; exact rfl; walk_at "loc"; walk_at "loc") | ((with_reducible apply bk_augL (x := "word") (i := 1)); exact rfl; walk_at "go"; (try walk_at "sd"); exact sc_words_of.nd; exact rfl; walk_at "loc"; walk_at "loc"))
local macro_rules | `(tactic| walk_at "sto") => `(tactic| first | ((with_reducible apply bk_sto (x := "told") (i := 0)); exact rfl; walk_at "go"; walk_at "go"; (first | (apply ixN_at; walk_at "sd") | skip); exact rfl; walk_at "vis"; (exact fun _ => rfl); exact rfl; exact rfl; exact rfl; decide; decide) | ((with_reducible apply bk_sto (x := "word") (i := 1)); exact rfl; walk_at "go"; walk_at "go"; (first | (apply ixN_at; walk_at "sd") | skip); exact rfl; walk_at "vis"; (exact fun _ => rfl); exact rfl; exact rfl; exact rfl; decide; decide))
local macro_rules | `(tactic| walk_at "own") => `(tactic| first | ((with_reducible apply ev_ixOwnF (x := "told") (i := 0)); exact rfl; walk_at "go"; (first | walk_at "at" | skip); exact rfl; walk_at "vis"; (exact fun _ _ => rfl); decide; decide) | ((with_reducible apply ev_ixOwnF (x := "word") (i := 1)); exact rfl; walk_at "go"; (first | walk_at "at" | skip); exact rfl; walk_at "vis"; (exact fun _ _ => rfl); decide; decide))
local macro_rules | `(tactic| walk_at "tg") => `(tactic| first | ((with_reducible apply tg_name (x := "told") (i := 0)); exact sc_words_of.nd; exact rfl; walk_at "loc"; walk_at "loc") | ((with_reducible apply tg_name (x := "word") (i := 1)); exact sc_words_of.nd; exact rfl; walk_at "loc"; walk_at "loc"))
local macro_rules | `(tactic| walk_at "rng") => `(tactic| first | ((with_reducible apply bk_rng2 (x := "told") (k := 0)); walk_at "go"; walk_at "go"; exact sc_words_of.nd; exact rfl; walk_at "loc"; exact (by simp [env0]); exact rfl; walk_at "loc"; exact rfl; exact T.z_range; exact rfl; exact rfl; exact rfl) | ((with_reducible apply bk_rng2 (x := "word") (k := 1)); walk_at "go"; walk_at "go"; exact sc_words_of.nd; exact rfl; walk_at "loc"; exact (by simp [env0]); exact rfl; walk_at "loc"; exact rfl; exact T.z_range; exact rfl; exact rfl; exact rfl))
local macro_rules | `(tactic| walk_at "itr") => `(tactic| first | ((with_reducible apply iter_rngS (y := "told") (k := 0)); exact rfl; exact rgC_up (by walk_at "b62") (by walk_at "b62"); exact rfl; walk_at "vis"; decide; decide) | ((with_reducible apply iter_rngS (y := "word") (k := 1)); exact rfl; exact rgC_up (by walk_at "b62") (by walk_at "b62"); exact rfl; walk_at "vis"; decide; decide))
local macro_rules | `(tactic| walk_at "lcl") => `(tactic| first | ((with_reducible apply evl_lc0 (own := [("word", 1)])); exact rfl; exact sc_words_of.nd; exact blkOk_by (N := N_words_of) (sc := defScope s_words_of) (by decide +kernel); walk_at "it"; (intro x hx s H C cl fp; walk_at "tgt"); (intro _ _ _ hi; first | (simpa using hi) | (simp at hi ⊢; omega)); (intro x hx s H C cl fp; walk_at "go"); (try walk_at "sd"); (intro _; exact rfl)) | ((with_reducible apply evl_lc1 (own := [("word", 1)])); exact rfl; exact sc_words_of.nd; exact blkOk_by (N := N_words_of) (sc := defScope s_words_of) (by decide +kernel); walk_at "it"; (intro x hx s H C cl fp; walk_at "tgt"); (intro _ _ _ hi; first | (simpa using hi) | (simp at hi ⊢; omega)); (intro x hx s H C cl fp; walk_at "go"); (intro x hx hcx s H C cl fp; walk_at "go"); (try walk_at "sd"); (intro _; exact rfl)))
local macro_rules | `(tactic| walk_at "lc") => `(tactic| ((with_reducible apply ev_lcOf); walk_at "lcl"))
local macro_rules | `(tactic| walk_at "lcs") => `(tactic| first | ((with_reducible apply bk_lc0 (y := "told") (i := 0) (own := [("word", 1)])); exact rfl; exact sc_words_of.nd; exact rfl; exact rfl; exact sw_true rfl rfl rfl (by decide +kernel); exact blkOk_by (N := N_words_of) (sc := defScope s_words_of) (by decide +kernel); walk_at "it"; (intro x hx s H C cl fp; walk_at "tgt"); (intro _ _ _ hi; first | (simpa using hi) | (simp at hi ⊢; omega)); (intro x hx s H C cl fp; walk_at "go"); (try walk_at "sd"); exact (by simp [env0]); (intro _; exact rfl)) | ((with_reducible apply bk_lc1 (y := "told") (i := 0) (own := [("word", 1)])); exact rfl; exact sc_words_of.nd; exact rfl; exact rfl; exact sw_true rfl rfl rfl (by decide +kernel); exact blkOk_by (N := N_words_of) (sc := defScope s_words_of) (by decide +kernel); walk_at "it"; (intro x hx s H C cl fp; walk_at "tgt"); (intro _ _ _ hi; first | (simpa using hi) | (simp at hi ⊢; omega)); (intro x hx s H C cl fp; walk_at "go"); (intro x hx hcx s H C cl fp; walk_at "go"); (try walk_at "sd"); exact (by simp [env0]); (intro _; exact rfl)) | ((with_reducible apply bk_lc0 (y := "word") (i := 1) (own := [("word", 1)])); exact rfl; exact sc_words_of.nd; exact rfl; exact rfl; exact sw_true rfl rfl rfl (by decide +kernel); exact blkOk_by (N := N_words_of) (sc := defScope s_words_of) (by decide +kernel); walk_at "it"; (intro x hx s H C cl fp; walk_at "tgt"); (intro _ _ _ hi; first | (simpa using hi) | (simp at hi ⊢; omega)); (intro x hx s H C cl fp; walk_at "go"); (try walk_at "sd"); exact (by simp [env0]); (intro _; exact rfl)) | ((with_reducible apply bk_lc1 (y := "word") (i := 1) (own := [("word", 1)])); exact rfl; exact sc_words_of.nd; exact rfl; exact rfl; exact sw_true rfl rfl rfl (by decide +kernel); exact blkOk_by (N := N_words_of) (sc := defScope s_words_of) (by decide +kernel); walk_at "it"; (intro x hx s H C cl fp; walk_at "tgt"); (intro _ _ _ hi; first | (simpa using hi) | (simp at hi ⊢; omega)); (intro x hx s H C cl fp; walk_at "go"); (intro x hx hcx s H C cl fp; walk_at "go"); (try walk_at "sd"); exact (by simp [env0]); (intro _; exact rfl)))
local macro_rules | `(tactic| walk_at "it") => `(tactic| ((with_reducible apply iter_ev); exact Ev.to (ev_mF (x := "split") (z := S l) (by walk_at "go") (evs_cons (ev_strC sp1) evs_nil) (mth_split (by rfl) hz) rfl rfl rfl rfl rfl) (congrArg PyData.list (split_is 32 (by decide) l)); exact Itd.list _))
local macro_rules | `(tactic| walk_at "sd") => `(tactic| first | exact hsz | exact hsm _ (by assumption))
theorem ok_words_of (T : Top K mg) {l : List Nat} (hl : l.length ≤ 100000) : Dfn P w K mg base "words_of" ["told"] 1 [.str (S l)] (.list ((wds l).map fun p => PyData.str (S p))) := by
  have hz : (S l).length + 2 ≤ sizeLine := by rw [S_len, sizeLine_eq]; omega
  have hsz : (cutC 32 [] l).length ≤ sizeLine := by have := cut_len 32 l []; rw [sizeLine_eq]; omega
  have hsm : ∀ p : List Nat, p ∈ cutC 32 [] l → (S p).length ≤ sizeLine := fun p hp => by
    have := cut_mem 32 l [] p hp
    rw [S_len, sizeLine_eq]
    simp only [List.length_nil] at this
    omega
  refine dfn T.d_words_of sc_words_of rfl fun f cdv A outer s H E hr => ?_
  walk_at "open"
  refine bk_ret (d := .list (((cutC 32 [] l).filter fun p => tru (.str (S p))).map fun p => PyData.str (S p))) (by walk_at "go") ?_
  show PyData.list _ = PyData.list _
  unfold wds wdsA
  rw [List.filter_congr fun p _ => tru_S p]
local macro_rules | `(tactic| walk_at "nm") => `(tactic| first | ((with_reducible apply ev_nameF (x := "word") (i := 0)); exact rfl; exact rfl; walk_at "vis"; decide; decide))
local macro_rules | `(tactic| walk_at "st") => `(tactic| first | ((with_reducible apply bk_set (x := "word") (i := 0)); walk_at "go"; exact sc_is_number.nd; exact rfl; walk_at "loc"; exact rfl; walk_at "loc") | ((with_reducible apply bk_aug (x := "word") (i := 0)); exact rfl; walk_at "go"; walk_at "ip"; exact sc_is_number.nd; exact rfl; walk_at "loc"; walk_at "loc"))
local macro_rules | `(tactic| walk_at "ap") => `(tactic| first | ((with_reducible apply bk_append (x := "word") (i := 0)); exact rfl; walk_at "go"; (try walk_at "sd"); exact rfl; walk_at "vis"; exact rfl; exact rfl; exact rfl; exact rfl; exact rfl; exact rfl; decide; decide))
local macro_rules | `(tactic| walk_at "mine") => `(tactic| first | ((with_reducible apply bk_own (x := "word") (i := 0)); walk_at "fresh"; exact sc_is_number.nd; exact rfl; walk_at "loc"; exact (by simp [env0]); exact rfl; walk_at "loc"))
local macro_rules | `(tactic| walk_at "augl") => `(tactic| first | ((with_reducible apply bk_augL (x := "word") (i := 0)); exact rfl; walk_at "go"; (try walk_at "sd"); exact sc_is_number.nd; exact rfl; walk_at "loc"; walk_at "loc"))
local macro_rules | `(tactic| walk_at "sto") => `(tactic| first | ((with_reducible apply bk_sto (x := "word") (i := 0)); exact rfl; walk_at "go"; walk_at "go"; (first | (apply ixN_at; walk_at "sd") | skip); exact rfl; walk_at "vis"; (exact fun _ => rfl); exact rfl; exact rfl; exact rfl; decide; decide))
local macro_rules | `(tactic| walk_at "own") => `(tactic| first | ((with_reducible apply ev_ixOwnF (x := "word") (i := 0)); exact rfl; walk_at "go"; (first | walk_at "at" | skip); exact rfl; walk_at "vis"; (exact fun _ _ => rfl); decide; decide))
local macro_rules | `(tactic| walk_at "tg") => `(tactic| first | ((with_reducible apply tg_name (x := "word") (i := 0)); exact sc_is_number.nd; exact rfl; walk_at "loc"; walk_at "loc"))
local macro_rules | `(tactic| walk_at "rng") => `(tactic| first | ((with_reducible apply bk_rng2 (x := "word") (k := 0)); walk_at "go"; walk_at "go"; exact sc_is_number.nd; exact rfl; walk_at "loc"; exact (by simp [env0]); exact rfl; walk_at "loc"; exact rfl; exact T.z_range; exact rfl; exact rfl; exact rfl))
local macro_rules | `(tactic| walk_at "itr") => `(tactic| first | ((with_reducible apply iter_rngS (y := "word") (k := 0)); exact rfl; exact rgC_up (by walk_at "b62") (by walk_at "b62"); exact rfl; walk_at "vis"; decide; decide))
local macro_rules | `(tactic| walk_at "me") => `(tactic| first | ((with_reducible apply ev_m0F (x := "isascii")); walk_at "go"; exact Eq.subst (motive := fun b => MthD _ "isascii" _ [] (.bool b)) ha mth_isascii; exact rfl; exact rfl) | ((with_reducible apply ev_m0F (x := "isdigit")); walk_at "go"; exact Eq.subst (motive := fun b => MthD _ "isdigit" _ [] (.bool b)) hd mth_isdigit; exact rfl; exact rfl))
local macro_rules | `(tactic| walk_at "at") => `(tactic| first | exact hat | with_unfolding_all rfl)
local macro_rules | `(tactic| walk_at "sd") => `(tactic| first | exact hz)
theorem ok_is_number (T : Top K mg) {n : Nat} (hn : n < 10 ^ 7) : Dfn P w K mg base "is_number" ["word"] 1 [.str (S (digs n))] (.bool true) := by
  have ha : Txt.isascii (S (digs n)) = true := by rw [← numS_S]; exact digs_ascii n
  have hd : Txt.isdigit (S (digs n)) = true := by rw [← numS_S]; exact digs_isdigit n
  have hl := digs_len (n := n) (k := 7) (by decide) hn
  have hz : (digs n).length ≤ sizeLine := by rw [sizeLine_eq]; omega
  have hfin : (decide (digs n = [48]) || !decide ([(digs n).headD 0] = [48])) = true := by
    by_cases z : n = 0
    · subst z
      rw [show digs 0 = [48] from TL.numL_lt (by decide)]
      rfl
    · have h1 := digs_head n (by omega)
      have h2 := digs_ne n
      cases e : digs n with
      | nil => exact absurd e h2
      | cons c r =>
        rw [e] at h1
        have h3 : c ≠ 48 := by simpa using h1
        simp [h3]
  have hat : L2.atI (digs n) 0 = some ((digs n).headD 0) := by
    have h2 := digs_ne n
    cases e : digs n with
    | nil => exact absurd e h2
    | cons c r => exact at_nat (by decide) rfl
  refine dfn T.d_is_number sc_is_number rfl fun f cdv A outer s H E hr => ?_
  walk_at "open"
  refine bk_if (p := false) (Tst.to (d := (!true || (!true || decide (((digs n).length : Nat) > (7 : Int))))) (by walk_at "go") (by simp; omega)) (fun h => nomatch h) fun _ => ?_
  refine bk_nil ?_
  refine bk_ret (d := .bool (decide (digs n = [48]) || !decide ([(digs n).headD 0] = [48]))) (by walk_at "go") (by rw [hfin]; rfl)
local macro_rules | `(tactic| walk_at "nm") => `(tactic| first | ((with_reducible apply ev_nameF (x := "line") (i := 0)); exact rfl; exact rfl; walk_at "vis"; decide; decide) | ((with_reducible apply ev_nameF (x := "word") (i := 1)); exact rfl; exact rfl; walk_at "vis"; decide; decide) | ((with_reducible apply ev_nameF (x := "least") (i := 2)); exact rfl; exact rfl; walk_at "vis"; decide; decide) | ((with_reducible apply ev_nameF (x := "greatest") (i := 3)); exact rfl; exact rfl; walk_at "vis"; decide; decide))
local macro_rules | `(tactic| walk_at "st") => `(tactic| first | ((with_reducible apply bk_set (x := "line") (i := 0)); walk_at "go"; exact sc_read_number.nd; exact rfl; walk_at "loc"; exact rfl; walk_at "loc") | ((with_reducible apply bk_set (x := "word") (i := 1)); walk_at "go"; exact sc_read_number.nd; exact rfl; walk_at "loc"; exact rfl; walk_at "loc") | ((with_reducible apply bk_set (x := "least") (i := 2)); walk_at "go"; exact sc_read_number.nd; exact rfl; walk_at "loc"; exact rfl; walk_at "loc") | ((with_reducible apply bk_set (x := "greatest") (i := 3)); walk_at "go"; exact sc_read_number.nd; exact rfl; walk_at "loc"; exact rfl; walk_at "loc") | ((with_reducible apply bk_aug (x := "line") (i := 0)); exact rfl; walk_at "go"; walk_at "ip"; exact sc_read_number.nd; exact rfl; walk_at "loc"; walk_at "loc") | ((with_reducible apply bk_aug (x := "word") (i := 1)); exact rfl; walk_at "go"; walk_at "ip"; exact sc_read_number.nd; exact rfl; walk_at "loc"; walk_at "loc") | ((with_reducible apply bk_aug (x := "least") (i := 2)); exact rfl; walk_at "go"; walk_at "ip"; exact sc_read_number.nd; exact rfl; walk_at "loc"; walk_at "loc") | ((with_reducible apply bk_aug (x := "greatest") (i := 3)); exact rfl; walk_at "go"; walk_at "ip"; exact sc_read_number.nd; exact rfl; walk_at "loc"; walk_at "loc"))
local macro_rules | `(tactic| walk_at "ap") => `(tactic| first | ((with_reducible apply bk_append (x := "line") (i := 0)); exact rfl; walk_at "go"; (try walk_at "sd"); exact rfl; walk_at "vis"; exact rfl; exact rfl; exact rfl; exact rfl; exact rfl; exact rfl; decide; decide) | ((with_reducible apply bk_append (x := "word") (i := 1)); exact rfl; walk_at "go"; (try walk_at "sd"); exact rfl; walk_at "vis"; exact rfl; exact rfl; exact rfl; exact rfl; exact rfl; exact rfl; decide; decide) | ((with_reducible apply bk_append (x := "least") (i := 2)); exact rfl; walk_at "go"; (try walk_at "sd"); exact rfl; walk_at "vis"; exact rfl; exact rfl; exact rfl; exact rfl; exact rfl; exact rfl; decide; decide) | ((with_reducible apply bk_append (x := "greatest") (i := 3)); exact rfl; walk_at "go"; (try walk_at "sd"); exact rfl; walk_at "vis"; exact rfl; exact rfl; exact rfl; exact rfl; exact rfl; exact rfl; decide; decide))
local macro_rules | `(tactic| walk_at "mine") => `(tactic| first | ((with_reducible apply bk_own (x := "line") (i := 0)); walk_at "fresh"; exact sc_read_number.nd; exact rfl; walk_at "loc"; exact (by simp [env0]); exact rfl; walk_at "loc") | ((with_reducible apply bk_own (x := "word") (i := 1)); walk_at "fresh"; exact sc_read_number.nd; exact rfl; walk_at "loc"; exact (by simp [env0]); exact rfl; walk_at "loc") | ((with_reducible apply bk_own (x := "least") (i := 2)); walk_at "fresh"; exact sc_read_number.nd; exact rfl; walk_at "loc"; exact (by simp [env0]); exact rfl; walk_at "loc") | ((with_reducible apply bk_own (x := "greatest") (i := 3)); walk_at "fresh"; exact sc_read_number.nd; exact rfl; walk_at "loc"; exact (by simp [env0]); exact rfl; walk_at "loc"))
local macro_rules | `(tactic| walk_at "augl") => `(tactic| first | ((with_reducible apply bk_augL (x := "line") (i := 0)); exact rfl; walk_at "go"; (try walk_at "sd"); exact sc_read_number.nd; exact rfl; walk_at "loc"; walk_at "loc") | ((with_reducible apply bk_augL (x := "word") (i := 1)); exact rfl; walk_at "go"; (try walk_at "sd"); exact sc_read_number.nd; exact rfl; walk_at "loc"; walk_at "loc") | ((with_reducible apply bk_augL (x := "least") (i := 2)); exact rfl; walk_at "go"; (try walk_at "sd"); exact sc_read_number.nd; exact rfl; walk_at "loc"; walk_at "loc") | ((with_reducible apply bk_augL (x := "greatest") (i := 3)); exact rfl; walk_at "go"; (try walk_at "sd"); exact sc_read_number.nd; exact rfl; walk_at "loc"; walk_at "loc"))
local macro_rules | `(tactic| walk_at "sto") => `(tactic| first | ((with_reducible apply bk_sto (x := "line") (i := 0)); exact rfl; walk_at "go"; walk_at "go"; (first | (apply ixN_at; walk_at "sd") | skip); exact rfl; walk_at "vis"; (exact fun _ => rfl); exact rfl; exact rfl; exact rfl; decide; decide) | ((with_reducible apply bk_sto (x := "word") (i := 1)); exact rfl; walk_at "go"; walk_at "go"; (first | (apply ixN_at; walk_at "sd") | skip); exact rfl; walk_at "vis"; (exact fun _ => rfl); exact rfl; exact rfl; exact rfl; decide; decide) | ((with_reducible apply bk_sto (x := "least") (i := 2)); exact rfl; walk_at "go"; walk_at "go"; (first | (apply ixN_at; walk_at "sd") | skip); exact rfl; walk_at "vis"; (exact fun _ => rfl); exact rfl; exact rfl; exact rfl; decide; decide) | ((with_reducible apply bk_sto (x := "greatest") (i := 3)); exact rfl; walk_at "go"; walk_at "go"; (first | (apply ixN_at; walk_at "sd") | skip); exact rfl; walk_at "vis"; (exact fun _ => rfl); exact rfl; exact rfl; exact rfl; decide; decide))
local macro_rules | `(tactic| walk_at "own") => `(tactic| first | ((with_reducible apply ev_ixOwnF (x := "line") (i := 0)); exact rfl; walk_at "go"; (first | walk_at "at" | skip); exact rfl; walk_at "vis"; (exact fun _ _ => rfl); decide; decide) | ((with_reducible apply ev_ixOwnF (x := "word") (i := 1)); exact rfl; walk_at "go"; (first | walk_at "at" | skip); exact rfl; walk_at "vis"; (exact fun _ _ => rfl); decide; decide) | ((with_reducible apply ev_ixOwnF (x := "least") (i := 2)); exact rfl; walk_at "go"; (first | walk_at "at" | skip); exact rfl; walk_at "vis"; (exact fun _ _ => rfl); decide; decide) | ((with_reducible apply ev_ixOwnF (x := "greatest") (i := 3)); exact rfl; walk_at "go"; (first | walk_at "at" | skip); exact rfl; walk_at "vis"; (exact fun _ _ => rfl); decide; decide))
local macro_rules | `(tactic| walk_at "tg") => `(tactic| first | ((with_reducible apply tg_name (x := "line") (i := 0)); exact sc_read_number.nd; exact rfl; walk_at "loc"; walk_at "loc") | ((with_reducible apply tg_name (x := "word") (i := 1)); exact sc_read_number.nd; exact rfl; walk_at "loc"; walk_at "loc") | ((with_reducible apply tg_name (x := "least") (i := 2)); exact sc_read_number.nd; exact rfl; walk_at "loc"; walk_at "loc") | ((with_reducible apply tg_name (x := "greatest") (i := 3)); exact sc_read_number.nd; exact rfl; walk_at "loc"; walk_at "loc"))
local macro_rules | `(tactic| walk_at "rng") => `(tactic| first | ((with_reducible apply bk_rng2 (x := "line") (k := 0)); walk_at "go"; walk_at "go"; exact sc_read_number.nd; exact rfl; walk_at "loc"; exact (by simp [env0]); exact rfl; walk_at "loc"; exact rfl; exact T.z_range; exact rfl; exact rfl; exact rfl) | ((with_reducible apply bk_rng2 (x := "word") (k := 1)); walk_at "go"; walk_at "go"; exact sc_read_number.nd; exact rfl; walk_at "loc"; exact (by simp [env0]); exact rfl; walk_at "loc"; exact rfl; exact T.z_range; exact rfl; exact rfl; exact rfl) | ((with_reducible apply bk_rng2 (x := "least") (k := 2)); walk_at "go"; walk_at "go"; exact sc_read_number.nd; exact rfl; walk_at "loc"; exact (by simp [env0]); exact rfl; walk_at "loc"; exact rfl; exact T.z_range; exact rfl; exact rfl; exact rfl) | ((with_reducible apply bk_rng2 (x := "greatest") (k := 3)); walk_at "go"; walk_at "go"; exact sc_read_number.nd; exact rfl; walk_at "loc"; exact (by simp [env0]); exact rfl; walk_at "loc"; exact rfl; exact T.z_range; exact rfl; exact rfl; exact rfl))
local macro_rules | `(tactic| walk_at "itr") => `(tactic| first | ((with_reducible apply iter_rngS (y := "line") (k := 0)); exact rfl; exact rgC_up (by walk_at "b62") (by walk_at "b62"); exact rfl; walk_at "vis"; decide; decide) | ((with_reducible apply iter_rngS (y := "word") (k := 1)); exact rfl; exact rgC_up (by walk_at "b62") (by walk_at "b62"); exact rfl; walk_at "vis"; decide; decide) | ((with_reducible apply iter_rngS (y := "least") (k := 2)); exact rfl; exact rgC_up (by walk_at "b62") (by walk_at "b62"); exact rfl; walk_at "vis"; decide; decide) | ((with_reducible apply iter_rngS (y := "greatest") (k := 3)); exact rfl; exact rgC_up (by walk_at "b62") (by walk_at "b62"); exact rfl; walk_at "vis"; decide; decide))
local macro_rules | `(tactic| walk_at "fn is_number") => `(tactic| exact ok_is_number T hn)
local macro_rules | `(tactic| walk_at "bl") => `(tactic| exact blt_intT (digs_int (Nat.lt_trans hn (Nat.pow_lt_pow_right (by decide) (by decide)))) hl6)
theorem ok_read_number (T : Top K mg) {dl : D} {n : Nat} {lo hi : Int} (hn : n < 10 ^ 7) (h1 : lo ≤ n) (h2 : (n : Int) ≤ hi) : Dfn P w K mg base "read_number" ["line", "word", "least", "greatest"] 2 [dl, .str (S (digs n)), .int lo, .int hi] (.int n) := by
  have hl6 : (S (digs n)).length ≤ 640 := by have := digs_len (n := n) (k := 7) (by decide) hn; rw [S_len]; omega
  refine dfn T.d_read_number sc_read_number rfl fun f cdv A outer s H E hr => ?_
  walk_at "open"
  refine bk_if (p := false) (Tst.to (d := (!true || !(decide (lo ≤ (n : Int)) && decide ((n : Int) ≤ hi)))) (by walk_at "go") (by simp [h1, h2])) (fun h => nomatch h) fun _ => ?_
  refine bk_nil ?_
  walk_at "ret"
  rfl
end


section
variable {P : Program} {w : World} {K : PySem.W.Frag} {mg : Str → Option Value} {base : Heap}
/-! reading the text of a chain -/
theorem Iter.eqTo {X : Cx} {ρ : Envi} {tg it : Expr} {ds ds' : List D} (h : Iter X ρ tg it ds) (e : ds = ds') : Iter X ρ tg it ds' := e ▸ h
abbrev strS (p : List Nat) : D := .str (S p)
abbrev rowD (q : List Nat × Nat) : D := .tuple [.int (1 + ((q.2 : Nat) : Int)), .list ((wds q.1).map strS)]
def rowsQ (l : List Nat) : List (List Nat × Nat) := (cutC 10 [] l).zipIdx.filter fun q => !(wds q.1).isEmpty
theorem zip_str (k0 : Int) (L : List (List Nat)) : ((L.map strS).zipIdx.map fun (q : D × Nat) => PyData.tuple [.int (k0 + ((q.2 : Nat) : Int)), q.1]) = L.zipIdx.map fun q => PyData.tuple [.int (k0 + ((q.2 : Nat) : Int)), .str (S q.1)] := by
  rw [List.zipIdx_map, List.map_map]
  rfl
local macro_rules | `(tactic| walk_at "nm") => `(tactic| first | ((with_reducible apply ev_nameF (x := "text") (i := 0)); exact rfl; exact rfl; walk_at "vis"; decide; decide) | ((with_reducible apply ev_nameF (x := "rows") (i := 1)); exact rfl; exact rfl; walk_at "vis"; decide; decide) | ((with_reducible apply ev_nameF (x := "line") (i := 2)); exact rfl; exact rfl; walk_at "vis"; decide; decide) | ((with_reducible apply ev_nameF (x := "told") (i := 3)); exact rfl; exact rfl; walk_at "vis"; decide; decide) | ((with_reducible apply ev_nameF (x := "words") (i := 4)); exact rfl; exact rfl; walk_at "vis"; decide; decide))
local macro_rules | `(tactic| walk_at "st") => `(tactic| first | ((with_reducible apply bk_set (x := "text") (i := 0)); walk_at "go"; exact sc_rows_of.nd; exact rfl; walk_at "loc"; exact rfl; walk_at "loc") | ((with_reducible apply bk_set (x := "rows") (i := 1)); walk_at "go"; exact sc_rows_of.nd; exact rfl; walk_at "loc"; exact rfl; walk_at "loc") | ((with_reducible apply bk_set (x := "line") (i := 2)); walk_at "go"; exact sc_rows_of.nd; exact rfl; walk_at "loc"; exact rfl; walk_at "loc") | ((with_reducible apply bk_set (x := "told") (i := 3)); walk_at "go"; exact sc_rows_of.nd; exact rfl; walk_at "loc"; exact rfl; walk_at "loc") | ((with_reducible apply bk_set (x := "words") (i := 4)); walk_at "go"; exact sc_rows_of.nd; exact rfl; walk_at "loc"; exact rfl; walk_at "loc") | ((with_reducible apply bk_aug (x := "text") (i := 0)); exact rfl; walk_at "go"; walk_at "ip"; exact sc_rows_of.nd; exact rfl; walk_at "loc"; walk_at "loc") | ((with_reducible apply bk_aug (x := "rows") (i := 1)); exact rfl; walk_at "go"; walk_at "ip"; exact sc_rows_of.nd; exact rfl; walk_at "loc"; walk_at "loc") | ((with_reducible apply bk_aug (x := "line") (i := 2)); exact rfl; walk_at "go"; walk_at "ip"; exact sc_rows_of.nd; exact rfl; walk_at "loc"; walk_at "loc") | ((with_reducible apply bk_aug (x := "told") (i := 3)); exact rfl; walk_at "go"; walk_at "ip"; exact sc_rows_of.nd; exact rfl; walk_at "loc"; walk_at "loc") | ((with_reducible apply bk_aug (x := "words") (i := 4)); exact rfl; walk_at "go"; walk_at "ip"; exact sc_rows_of.nd; exact rfl; walk_at "loc"; walk_at "loc"))
local macro_rules | `(tactic| walk_at "ap") => `(tactic| first | ((with_reducible apply bk_append (x := "text") (i := 0)); exact rfl; walk_at "go"; (try walk_at "sd"); exact rfl; walk_at "vis"; exact rfl; exact rfl; exact rfl; exact rfl; exact rfl; exact rfl; decide; decide) | ((with_reducible apply bk_append (x := "rows") (i := 1)); exact rfl; walk_at "go"; (try walk_at "sd"); exact rfl; walk_at "vis"; exact rfl; exact rfl; exact rfl; exact rfl; exact rfl; exact rfl; decide; decide) | ((with_reducible apply bk_append (x := "line") (i := 2)); exact rfl; walk_at "go"; (try walk_at "sd"); exact rfl; walk_at "vis"; exact rfl; exact rfl; exact rfl; exact rfl; exact rfl; exact rfl; decide; decide) | ((with_reducible apply bk_append (x := "told") (i := 3)); exact rfl; walk_at "go"; (try walk_at "sd"); exact rfl; walk_at "vis"; exact rfl; exact rfl; exact rfl; exact rfl; exact rfl; exact rfl; decide; decide) | ((with_reducible apply bk_append (x := "words") (i := 4)); exact rfl; walk_at "go"; (try walk_at "sd"); exact rfl; walk_at "vis"; exact rfl; exact rfl; exact rfl; exact rfl; exact rfl; exact rfl; decide; decide))
local macro_rules | `(tactic| walk_at "mine") => `(tactic| first | ((with_reducible apply bk_own (x := "text") (i := 0)); walk_at "fresh"; exact sc_rows_of.nd; exact rfl; walk_at "loc"; exact (by simp [env0]); exact rfl; walk_at "loc") | ((with_reducible apply bk_own (x := "rows") (i := 1)); walk_at "fresh"; exact sc_rows_of.nd; exact rfl; walk_at "loc"; exact (by simp [env0]); exact rfl; walk_at "loc") | ((with_reducible apply bk_own (x := "line") (i := 2)); walk_at "fresh"; exact sc_rows_of.nd; exact rfl; walk_at "loc"; exact (by simp [env0]); exact rfl; walk_at "loc") | ((with_reducible apply bk_own (x := "told") (i := 3)); walk_at "fresh"; exact sc_rows_of.nd; exact rfl; walk_at "loc"; exact (by simp [env0]); exact rfl; walk_at "loc") | ((with_reducible apply bk_own (x := "words") (i := 4)); walk_at "fresh"; exact sc_rows_of.nd; exact rfl; walk_at "loc"; exact (by simp [env0]); exact rfl; walk_at "loc"))
local macro_rules | `(tactic| walk_at "augl") => `(tactic| first | ((with_reducible apply bk_augL (x := "text") (i := 0)); exact rfl; walk_at "go"; (try walk_at "sd"); exact sc_rows_of.nd; exact rfl; walk_at "loc"; walk_at "loc") | ((with_reducible apply bk_augL (x := "rows") (i := 1)); exact rfl; walk_at "go"; (try walk_at "sd"); exact sc_rows_of.nd; exact rfl; walk_at "loc"; walk_at "loc") | ((with_reducible apply bk_augL (x := "line") (i := 2)); exact rfl; walk_at "go"; (try walk_at "sd"); exact sc_rows_of.nd; exact rfl; walk_at "loc"; walk_at "loc") | ((with_reducible apply bk_augL (x := "told") (i := 3)); exact rfl; walk_at "go"; (try walk_at "sd"); exact sc_rows_of.nd; exact rfl; walk_at "loc"; walk_at "loc") | ((with_reducible apply bk_augL (x := "words") (i := 4)); exact rfl; walk_at "go"; (try walk_at "sd"); exact sc_rows_of.nd; exact rfl; walk_at "loc"; walk_at "loc"))
local macro_rules | `(tactic| walk_at "sto") => `(tactic| first | ((with_reducible apply bk_sto (x := "text") (i := 0)); exact rfl; walk_at "go"; walk_at "go"; (first | (apply ixN_at; walk_at "sd") | skip); exact rfl; walk_at "vis"; (exact fun _ => rfl); exact rfl; exact rfl; exact rfl; decide; decide) | ((with_reducible apply bk_sto (x := "rows") (i := 1)); exact rfl; walk_at "go"; walk_at "go"; (first | (apply ixN_at; walk_at "sd") | skip); exact rfl; walk_at "vis"; (exact fun _ => rfl); exact rfl; exact rfl; exact rfl; decide; decide) | ((with_reducible apply bk_sto (x := "line") (i := 2)); exact rfl; walk_at "go"; walk_at "go"; (first | (apply ixN_at; walk_at "sd") | skip); exact rfl; walk_at "vis"; (exact fun _ => rfl); exact rfl; exact rfl; exact rfl; decide; decide) | ((with_reducible apply bk_sto (x := "told") (i := 3)); exact rfl; walk_at "go"; walk_at "go"; (first | (apply ixN_at; walk_at "sd") | skip); exact rfl; walk_at "vis"; (exact fun _ => rfl); exact rfl; exact rfl; exact rfl; decide; decide) | ((with_reducible apply bk_sto (x := "words") (i := 4)); exact rfl; walk_at "go"; walk_at "go"; (first | (apply ixN_at; walk_at "sd") | skip); exact rfl; walk_at "vis"; (exact fun _ => rfl); exact rfl; exact rfl; exact rfl; decide; decide))
local macro_rules | `(tactic| walk_at "own") => `(tactic| first | ((with_reducible apply ev_ixOwnF (x := "text") (i := 0)); exact rfl; walk_at "go"; (first | walk_at "at" | skip); exact rfl; walk_at "vis"; (exact fun _ _ => rfl); decide; decide) | ((with_reducible apply ev_ixOwnF (x := "rows") (i := 1)); exact rfl; walk_at "go"; (first | walk_at "at" | skip); exact rfl; walk_at "vis"; (exact fun _ _ => rfl); decide; decide) | ((with_reducible apply ev_ixOwnF (x := "line") (i := 2)); exact rfl; walk_at "go"; (first | walk_at "at" | skip); exact rfl; walk_at "vis"; (exact fun _ _ => rfl); decide; decide) | ((with_reducible apply ev_ixOwnF (x := "told") (i := 3)); exact rfl; walk_at "go"; (first | walk_at "at" | skip); exact rfl; walk_at "vis"; (exact fun _ _ => rfl); decide; decide) | ((with_reducible apply ev_ixOwnF (x := "words") (i := 4)); exact rfl; walk_at "go"; (first | walk_at "at" | skip); exact rfl; walk_at "vis"; (exact fun _ _ => rfl); decide; decide))
local macro_rules | `(tactic| walk_at "tg") => `(tactic| first | ((with_reducible apply tg_name (x := "text") (i := 0)); exact sc_rows_of.nd; exact rfl; walk_at "loc"; walk_at "loc") | ((with_reducible apply tg_name (x := "rows") (i := 1)); exact sc_rows_of.nd; exact rfl; walk_at "loc"; walk_at "loc") | ((with_reducible apply tg_name (x := "line") (i := 2)); exact sc_rows_of.nd; exact rfl; walk_at "loc"; walk_at "loc") | ((with_reducible apply tg_name (x := "told") (i := 3)); exact sc_rows_of.nd; exact rfl; walk_at "loc"; walk_at "loc") | ((with_reducible apply tg_name (x := "words") (i := 4)); exact sc_rows_of.nd; exact rfl; walk_at "loc"; walk_at "loc"))
local macro_rules | `(tactic| walk_at "rng") => `(tactic| first | ((with_reducible apply bk_rng2 (x := "text") (k := 0)); walk_at "go"; walk_at "go"; exact sc_rows_of.nd; exact rfl; walk_at "loc"; exact (by simp [env0]); exact rfl; walk_at "loc"; exact rfl; exact T.z_range; exact rfl; exact rfl; exact rfl) | ((with_reducible apply bk_rng2 (x := "rows") (k := 1)); walk_at "go"; walk_at "go"; exact sc_rows_of.nd; exact rfl; walk_at "loc"; exact (by simp [env0]); exact rfl; walk_at "loc"; exact rfl; exact T.z_range; exact rfl; exact rfl; exact rfl) | ((with_reducible apply bk_rng2 (x := "line") (k := 2)); walk_at "go"; walk_at "go"; exact sc_rows_of.nd; exact rfl; walk_at "loc"; exact (by simp [env0]); exact rfl; walk_at "loc"; exact rfl; exact T.z_range; exact rfl; exact rfl; exact rfl) | ((with_reducible apply bk_rng2 (x := "told") (k := 3)); walk_at "go"; walk_at "go"; exact sc_rows_of.nd; exact rfl; walk_at "loc"; exact (by simp [env0]); exact rfl; walk_at "loc"; exact rfl; exact T.z_range; exact rfl; exact rfl; exact rfl) | ((with_reducible apply bk_rng2 (x := "words") (k := 4)); walk_at "go"; walk_at "go"; exact sc_rows_of.nd; exact rfl; walk_at "loc"; exact (by simp [env0]); exact rfl; walk_at "loc"; exact rfl; exact T.z_range; exact rfl; exact rfl; exact rfl))
local macro_rules | `(tactic| walk_at "itr") => `(tactic| first | ((with_reducible apply iter_rngS (y := "text") (k := 0)); exact rfl; exact rgC_up (by walk_at "b62") (by walk_at "b62"); exact rfl; walk_at "vis"; decide; decide) | ((with_reducible apply iter_rngS (y := "rows") (k := 1)); exact rfl; exact rgC_up (by walk_at "b62") (by walk_at "b62"); exact rfl; walk_at "vis"; decide; decide) | ((with_reducible apply iter_rngS (y := "line") (k := 2)); exact rfl; exact rgC_up (by walk_at "b62") (by walk_at "b62"); exact rfl; walk_at "vis"; decide; decide) | ((with_reducible apply iter_rngS (y := "told") (k := 3)); exact rfl; exact rgC_up (by walk_at "b62") (by walk_at "b62"); exact rfl; walk_at "vis"; decide; decide) | ((with_reducible apply iter_rngS (y := "words") (k := 4)); exact rfl; exact rgC_up (by walk_at "b62") (by walk_at "b62"); exact rfl; walk_at "vis"; decide; decide))
local macro_rules | `(tactic| walk_at "lcl") => `(tactic| first | ((with_reducible apply evl_lc0 (own := [("line", 2), ("told", 3)])); exact rfl; exact sc_rows_of.nd; exact blkOk_by (N := N_rows_of) (sc := defScope s_rows_of) (by decide +kernel); walk_at "it"; (intro x hx s H C cl fp; walk_at "tgt"); (intro _ _ _ hi; first | (simpa using hi) | (simp at hi ⊢; omega)); (intro x hx s H C cl fp; walk_at "go"); (try walk_at "sd"); (intro _; exact rfl)) | ((with_reducible apply evl_lc1 (own := [("line", 2), ("told", 3)])); exact rfl; exact sc_rows_of.nd; exact blkOk_by (N := N_rows_of) (sc := defScope s_rows_of) (by decide +kernel); walk_at "it"; (intro x hx s H C cl fp; walk_at "tgt"); (intro _ _ _ hi; first | (simpa using hi) | (simp at hi ⊢; omega)); (intro x hx s H C cl fp; walk_at "go"); (intro x hx hcx s H C cl fp; walk_at "go"); (try walk_at "sd"); (intro _; exact rfl)) | ((with_reducible apply evl_lc0 (own := [("line", 2), ("words", 4)])); exact rfl; exact sc_rows_of.nd; exact blkOk_by (N := N_rows_of) (sc := defScope s_rows_of) (by decide +kernel); walk_at "it"; (intro x hx s H C cl fp; walk_at "tgt"); (intro _ _ _ hi; first | (simpa using hi) | (simp at hi ⊢; omega)); (intro x hx s H C cl fp; walk_at "go"); (try walk_at "sd"); (intro _; exact rfl)) | ((with_reducible apply evl_lc1 (own := [("line", 2), ("words", 4)])); exact rfl; exact sc_rows_of.nd; exact blkOk_by (N := N_rows_of) (sc := defScope s_rows_of) (by decide +kernel); walk_at "it"; (intro x hx s H C cl fp; walk_at "tgt"); (intro _ _ _ hi; first | (simpa using hi) | (simp at hi ⊢; omega)); (intro x hx s H C cl fp; walk_at "go"); (intro x hx hcx s H C cl fp; walk_at "go"); (try walk_at "sd"); (intro _; exact rfl)))
local macro_rules | `(tactic| walk_at "lc") => `(tactic| ((with_reducible apply ev_lcOf); walk_at "lcl"))
local macro_rules | `(tactic| walk_at "lcs") => `(tactic| first | ((with_reducible apply bk_lc0 (y := "text") (i := 0) (own := [("line", 2), ("told", 3)])); exact rfl; exact sc_rows_of.nd; exact rfl; exact rfl; exact sw_true rfl rfl rfl (by decide +kernel); exact blkOk_by (N := N_rows_of) (sc := defScope s_rows_of) (by decide +kernel); walk_at "it"; (intro x hx s H C cl fp; walk_at "tgt"); (intro _ _ _ hi; first | (simpa using hi) | (simp at hi ⊢; omega)); (intro x hx s H C cl fp; walk_at "go"); (try walk_at "sd"); exact (by simp [env0]); (intro _; exact rfl)) | ((with_reducible apply bk_lc1 (y := "text") (i := 0) (own := [("line", 2), ("told", 3)])); exact rfl; exact sc_rows_of.nd; exact rfl; exact rfl; exact sw_true rfl rfl rfl (by decide +kernel); exact blkOk_by (N := N_rows_of) (sc := defScope s_rows_of) (by decide +kernel); walk_at "it"; (intro x hx s H C cl fp; walk_at "tgt"); (intro _ _ _ hi; first | (simpa using hi) | (simp at hi ⊢; omega)); (intro x hx s H C cl fp; walk_at "go"); (intro x hx hcx s H C cl fp; walk_at "go"); (try walk_at "sd"); exact (by simp [env0]); (intro _; exact rfl)) | ((with_reducible apply bk_lc0 (y := "rows") (i := 1) (own := [("line", 2), ("told", 3)])); exact rfl; exact sc_rows_of.nd; exact rfl; exact rfl; exact sw_true rfl rfl rfl (by decide +kernel); exact blkOk_by (N := N_rows_of) (sc := defScope s_rows_of) (by decide +kernel); walk_at "it"; (intro x hx s H C cl fp; walk_at "tgt"); (intro _ _ _ hi; first | (simpa using hi) | (simp at hi ⊢; omega)); (intro x hx s H C cl fp; walk_at "go"); (try walk_at "sd"); exact (by simp [env0]); (intro _; exact rfl)) | ((with_reducible apply bk_lc1 (y := "rows") (i := 1) (own := [("line", 2), ("told", 3)])); exact rfl; exact sc_rows_of.nd; exact rfl; exact rfl; exact sw_true rfl rfl rfl (by decide +kernel); exact blkOk_by (N := N_rows_of) (sc := defScope s_rows_of) (by decide +kernel); walk_at "it"; (intro x hx s H C cl fp; walk_at "tgt"); (intro _ _ _ hi; first | (simpa using hi) | (simp at hi ⊢; omega)); (intro x hx s H C cl fp; walk_at "go"); (intro x hx hcx s H C cl fp; walk_at "go"); (try walk_at "sd"); exact (by simp [env0]); (intro _; exact rfl)) | ((with_reducible apply bk_lc0 (y := "line") (i := 2) (own := [("line", 2), ("told", 3)])); exact rfl; exact sc_rows_of.nd; exact rfl; exact rfl; exact sw_true rfl rfl rfl (by decide +kernel); exact blkOk_by (N := N_rows_of) (sc := defScope s_rows_of) (by decide +kernel); walk_at "it"; (intro x hx s H C cl fp; walk_at "tgt"); (intro _ _ _ hi; first | (simpa using hi) | (simp at hi ⊢; omega)); (intro x hx s H C cl fp; walk_at "go"); (try walk_at "sd"); exact (by simp [env0]); (intro _; exact rfl)) | ((with_reducible apply bk_lc1 (y := "line") (i := 2) (own := [("line", 2), ("told", 3)])); exact rfl; exact sc_rows_of.nd; exact rfl; exact rfl; exact sw_true rfl rfl rfl (by decide +kernel); exact blkOk_by (N := N_rows_of) (sc := defScope s_rows_of) (by decide +kernel); walk_at "it"; (intro x hx s H C cl fp; walk_at "tgt"); (intro _ _ _ hi; first | (simpa using hi) | (simp at hi ⊢; omega)); (intro x hx s H C cl fp; walk_at "go"); (intro x hx hcx s H C cl fp; walk_at "go"); (try walk_at "sd"); exact (by simp [env0]); (intro _; exact rfl)) | ((with_reducible apply bk_lc0 (y := "told") (i := 3) (own := [("line", 2), ("told", 3)])); exact rfl; exact sc_rows_of.nd; exact rfl; exact rfl; exact sw_true rfl rfl rfl (by decide +kernel); exact blkOk_by (N := N_rows_of) (sc := defScope s_rows_of) (by decide +kernel); walk_at "it"; (intro x hx s H C cl fp; walk_at "tgt"); (intro _ _ _ hi; first | (simpa using hi) | (simp at hi ⊢; omega)); (intro x hx s H C cl fp; walk_at "go"); (try walk_at "sd"); exact (by simp [env0]); (intro _; exact rfl)) | ((with_reducible apply bk_lc1 (y := "told") (i := 3) (own := [("line", 2), ("told", 3)])); exact rfl; exact sc_rows_of.nd; exact rfl; exact rfl; exact sw_true rfl rfl rfl (by decide +kernel); exact blkOk_by (N := N_rows_of) (sc := defScope s_rows_of) (by decide +kernel); walk_at "it"; (intro x hx s H C cl fp; walk_at "tgt"); (intro _ _ _ hi; first | (simpa using hi) | (simp at hi ⊢; omega)); (intro x hx s H C cl fp; walk_at "go"); (intro x hx hcx s H C cl fp; walk_at "go"); (try walk_at "sd"); exact (by simp [env0]); (intro _; exact rfl)) | ((with_reducible apply bk_lc0 (y := "words") (i := 4) (own := [("line", 2), ("told", 3)])); exact rfl; exact sc_rows_of.nd; exact rfl; exact rfl; exact sw_true rfl rfl rfl (by decide +kernel); exact blkOk_by (N := N_rows_of) (sc := defScope s_rows_of) (by decide +kernel); walk_at "it"; (intro x hx s H C cl fp; walk_at "tgt"); (intro _ _ _ hi; first | (simpa using hi) | (simp at hi ⊢; omega)); (intro x hx s H C cl fp; walk_at "go"); (try walk_at "sd"); exact (by simp [env0]); (intro _; exact rfl)) | ((with_reducible apply bk_lc1 (y := "words") (i := 4) (own := [("line", 2), ("told", 3)])); exact rfl; exact sc_rows_of.nd; exact rfl; exact rfl; exact sw_true rfl rfl rfl (by decide +kernel); exact blkOk_by (N := N_rows_of) (sc := defScope s_rows_of) (by decide +kernel); walk_at "it"; (intro x hx s H C cl fp; walk_at "tgt"); (intro _ _ _ hi; first | (simpa using hi) | (simp at hi ⊢; omega)); (intro x hx s H C cl fp; walk_at "go"); (intro x hx hcx s H C cl fp; walk_at "go"); (try walk_at "sd"); exact (by simp [env0]); (intro _; exact rfl)) | ((with_reducible apply bk_lc0 (y := "text") (i := 0) (own := [("line", 2), ("words", 4)])); exact rfl; exact sc_rows_of.nd; exact rfl; exact rfl; exact sw_true rfl rfl rfl (by decide +kernel); exact blkOk_by (N := N_rows_of) (sc := defScope s_rows_of) (by decide +kernel); walk_at "it"; (intro x hx s H C cl fp; walk_at "tgt"); (intro _ _ _ hi; first | (simpa using hi) | (simp at hi ⊢; omega)); (intro x hx s H C cl fp; walk_at "go"); (try walk_at "sd"); exact (by simp [env0]); (intro _; exact rfl)) | ((with_reducible apply bk_lc1 (y := "text") (i := 0) (own := [("line", 2), ("words", 4)])); exact rfl; exact sc_rows_of.nd; exact rfl; exact rfl; exact sw_true rfl rfl rfl (by decide +kernel); exact blkOk_by (N := N_rows_of) (sc := defScope s_rows_of) (by decide +kernel); walk_at "it"; (intro x hx s H C cl fp; walk_at "tgt"); (intro _ _ _ hi; first | (simpa using hi) | (simp at hi ⊢; omega)); (intro x hx s H C cl fp; walk_at "go"); (intro x hx hcx s H C cl fp; walk_at "go"); (try walk_at "sd"); exact (by simp [env0]); (intro _; exact rfl)) | ((with_reducible apply bk_lc0 (y := "rows") (i := 1) (own := [("line", 2), ("words", 4)])); exact rfl; exact sc_rows_of.nd; exact rfl; exact rfl; exact sw_true rfl rfl rfl (by decide +kernel); exact blkOk_by (N := N_rows_of) (sc := defScope s_rows_of) (by decide +kernel); walk_at "it"; (intro x hx s H C cl fp; walk_at "tgt"); (intro _ _ _ hi; first | (simpa using hi) | (simp at hi ⊢; omega)); (intro x hx s H C cl fp; walk_at "go"); (try walk_at "sd"); exact (by simp [env0]); (intro _; exact rfl)) | ((with_reducible apply bk_lc1 (y := "rows") (i := 1) (own := [("line", 2), ("words", 4)])); exact rfl; exact sc_rows_of.nd; exact rfl; exact rfl; exact sw_true rfl rfl rfl (by decide +kernel); exact blkOk_by (N := N_rows_of) (sc := defScope s_rows_of) (by decide +kernel); walk_at "it"; (intro x hx s H C cl fp; walk_at "tgt"); (intro _ _ _ hi; first | (simpa using hi) | (simp at hi ⊢; omega)); (intro x hx s H C cl fp; walk_at "go"); (intro x hx hcx s H C cl fp; walk_at "go"); (try walk_at "sd"); exact (by simp [env0]); (intro _; exact rfl)) | ((with_reducible apply bk_lc0 (y := "line") (i := 2) (own := [("line", 2), ("words", 4)])); exact rfl; exact sc_rows_of.nd; exact rfl; exact rfl; exact sw_true rfl rfl rfl (by decide +kernel); exact blkOk_by (N := N_rows_of) (sc := defScope s_rows_of) (by decide +kernel); walk_at "it"; (intro x hx s H C cl fp; walk_at "tgt"); (intro _ _ _ hi; first | (simpa using hi) | (simp at hi ⊢; omega)); (intro x hx s H C cl fp; walk_at "go"); (try walk_at "sd"); exact (by simp [env0]); (intro _; exact rfl)) | ((with_reducible apply bk_lc1 (y := "line") (i := 2) (own := [("line", 2), ("words", 4)])); exact rfl; exact sc_rows_of.nd; exact rfl; exact rfl; exact sw_true rfl rfl rfl (by decide +kernel); exact blkOk_by (N := N_rows_of) (sc := defScope s_rows_of) (by decide +kernel); walk_at "it"; (intro x hx s H C cl fp; walk_at "tgt"); (intro _ _ _ hi; first | (simpa using hi) | (simp at hi ⊢; omega)); (intro x hx s H C cl fp; walk_at "go"); (intro x hx hcx s H C cl fp; walk_at "go"); (try walk_at "sd"); exact (by simp [env0]); (intro _; exact rfl)) | ((with_reducible apply bk_lc0 (y := "told") (i := 3) (own := [("line", 2), ("words", 4)])); exact rfl; exact sc_rows_of.nd; exact rfl; exact rfl; exact sw_true rfl rfl rfl (by decide +kernel); exact blkOk_by (N := N_rows_of) (sc := defScope s_rows_of) (by decide +kernel); walk_at "it"; (intro x hx s H C cl fp; walk_at "tgt"); (intro _ _ _ hi; first | (simpa using hi) | (simp at hi ⊢; omega)); (intro x hx s H C cl fp; walk_at "go"); (try walk_at "sd"); exact (by simp [env0]); (intro _; exact rfl)) | ((with_reducible apply bk_lc1 (y := "told") (i := 3) (own := [("line", 2), ("words", 4)])); exact rfl; exact sc_rows_of.nd; exact rfl; exact rfl; exact sw_true rfl rfl rfl (by decide +kernel); exact blkOk_by (N := N_rows_of) (sc := defScope s_rows_of) (by decide +kernel); walk_at "it"; (intro x hx s H C cl fp; walk_at "tgt"); (intro _ _ _ hi; first | (simpa using hi) | (simp at hi ⊢; omega)); (intro x hx s H C cl fp; walk_at "go"); (intro x hx hcx s H C cl fp; walk_at "go"); (try walk_at "sd"); exact (by simp [env0]); (intro _; exact rfl)) | ((with_reducible apply bk_lc0 (y := "words") (i := 4) (own := [("line", 2), ("words", 4)])); exact rfl; exact sc_rows_of.nd; exact rfl; exact rfl; exact sw_true rfl rfl rfl (by decide +kernel); exact blkOk_by (N := N_rows_of) (sc := defScope s_rows_of) (by decide +kernel); walk_at "it"; (intro x hx s H C cl fp; walk_at "tgt"); (intro _ _ _ hi; first | (simpa using hi) | (simp at hi ⊢; omega)); (intro x hx s H C cl fp; walk_at "go"); (try walk_at "sd"); exact (by simp [env0]); (intro _; exact rfl)) | ((with_reducible apply bk_lc1 (y := "words") (i := 4) (own := [("line", 2), ("words", 4)])); exact rfl; exact sc_rows_of.nd; exact rfl; exact rfl; exact sw_true rfl rfl rfl (by decide +kernel); exact blkOk_by (N := N_rows_of) (sc := defScope s_rows_of) (by decide +kernel); walk_at "it"; (intro x hx s H C cl fp; walk_at "tgt"); (intro _ _ _ hi; first | (simpa using hi) | (simp at hi ⊢; omega)); (intro x hx s H C cl fp; walk_at "go"); (intro x hx hcx s H C cl fp; walk_at "go"); (try walk_at "sd"); exact (by simp [env0]); (intro _; exact rfl)))
local macro_rules | `(tactic| walk_at "fn words_of") => `(tactic| exact ok_words_of T (hwl _ (by assumption)))
local macro_rules | `(tactic| walk_at "it") => `(tactic| first
  | exact Iter.eqTo (ds' := (cutC 10 [] l).zipIdx.map fun q => PyData.tuple [.int (1 + ((q.2 : Nat) : Int)), .str (S q.1)]) (iter_enumK (Ev.to (d' := .list ((cutC 10 [] l).map strS)) (ev_mF (x := "split") (z := S l) (by walk_at "go") (evs_cons (ev_strC nl1) evs_nil) (mth_split (by rfl) hz) rfl rfl rfl rfl rfl) (congrArg PyData.list (split_is 10 (by decide) l))) ev_int ⟨by decide, by decide⟩ rfl T.z_enumerate rfl rfl rfl rfl rfl rfl) (zip_str 1 _)
  | ((with_reducible apply iter_ev); walk_at "go"; exact Itd.list _))
local macro_rules | `(tactic| walk_at "sd") => `(tactic| first | exact hsz | trivial)
theorem ok_rows_of (T : Top K mg) {l : List Nat} (hl : l.length ≤ 90000) : Dfn P w K mg base "rows_of" ["text"] 2 [.str (S l)] (.list ((rowsQ l).map rowD)) := by
  have hz : (S l).length + 2 ≤ sizeLine := by rw [S_len, sizeLine_eq]; omega
  have hsz : (cutC 10 [] l).zipIdx.length ≤ sizeLine := by have := cut_len 10 l []; rw [sizeLine_eq, List.length_zipIdx]; omega
  have hwl : ∀ q : List Nat × Nat, q ∈ (cutC 10 [] l).zipIdx → q.1.length ≤ 100000 := fun q hq => by
    have h1 : q.1 ∈ cutC 10 [] l := by
      have := List.mem_map_of_mem (f := Prod.fst) hq
      rwa [List.zipIdx_map_fst] at this
    have := cut_mem 10 l [] _ h1
    simp only [List.length_nil] at this
    omega
  refine dfn T.d_rows_of sc_rows_of rfl fun f cdv A outer s H E hr => ?_
  walk_at "open"
  walk_at "lcs"
  refine bk_freeze (i := 1) rfl ?_
  refine bk_ret (d := .list (((cutC 10 [] l).zipIdx.filter fun q => tru (.list ((wds q.1).map strS))).map rowD)) (by walk_at "go") ?_
  show PyData.list _ = PyData.list _
  unfold rowsQ
  rw [List.filter_congr fun q _ => show tru (.list ((wds q.1).map strS)) = !(wds q.1).isEmpty by show (!((wds q.1).map strS).isEmpty) = _; rw [List.isEmpty_map]]
end


section
variable {P : Program} {w : World} {K : PySem.W.Frag} {mg : Str → Option Value} {base : Heap}
/-! reading a trace -/
abbrev trW (n p q h : Nat) : List (List Nat) := [[116, 114, 97, 99, 101], digs n, digs p, digs q, digs h]
abbrev edW (t : Nat) : List (List Nat) := [[101, 100, 103, 101], digs t]
def traW (n p q h : Nat) (ts : List Nat) : List (List (List Nat)) := trW n p q h :: ts.map edW
abbrev dI (d : Nat) : D := .int (d : Int)
local macro_rules | `(tactic| walk_at "nm") => `(tactic| first | ((with_reducible apply ev_nameF (x := "line") (i := 0)); exact rfl; exact rfl; walk_at "vis"; decide; decide) | ((with_reducible apply ev_nameF (x := "words") (i := 1)); exact rfl; exact rfl; walk_at "vis"; decide; decide) | ((with_reducible apply ev_nameF (x := "limit") (i := 2)); exact rfl; exact rfl; walk_at "vis"; decide; decide) | ((with_reducible apply ev_nameF (x := "poll") (i := 3)); exact rfl; exact rfl; walk_at "vis"; decide; decide) | ((with_reducible apply ev_nameF (x := "polls_per_bit") (i := 4)); exact rfl; exact rfl; walk_at "vis"; decide; decide) | ((with_reducible apply ev_nameF (x := "phase") (i := 5)); exact rfl; exact rfl; walk_at "vis"; decide; decide))
local macro_rules | `(tactic| walk_at "st") => `(tactic| first | ((with_reducible apply bk_set (x := "line") (i := 0)); walk_at "go"; exact sc_read_head.nd; exact rfl; walk_at "loc"; exact rfl; walk_at "loc") | ((with_reducible apply bk_set (x := "words") (i := 1)); walk_at "go"; exact sc_read_head.nd; exact rfl; walk_at "loc"; exact rfl; walk_at "loc") | ((with_reducible apply bk_set (x := "limit") (i := 2)); walk_at "go"; exact sc_read_head.nd; exact rfl; walk_at "loc"; exact rfl; walk_at "loc") | ((with_reducible apply bk_set (x := "poll") (i := 3)); walk_at "go"; exact sc_read_head.nd; exact rfl; walk_at "loc"; exact rfl; walk_at "loc") | ((with_reducible apply bk_set (x := "polls_per_bit") (i := 4)); walk_at "go"; exact sc_read_head.nd; exact rfl; walk_at "loc"; exact rfl; walk_at "loc") | ((with_reducible apply bk_set (x := "phase") (i := 5)); walk_at "go"; exact sc_read_head.nd; exact rfl; walk_at "loc"; exact rfl; walk_at "loc") | ((with_reducible apply bk_aug (x := "line") (i := 0)); exact rfl; walk_at "go"; walk_at "ip"; exact sc_read_head.nd; exact rfl; walk_at "loc"; walk_at "loc") | ((with_reducible apply bk_aug (x := "words") (i := 1)); exact rfl; walk_at "go"; walk_at "ip"; exact sc_read_head.nd; exact rfl; walk_at "loc"; walk_at "loc") | ((with_reducible apply bk_aug (x := "limit") (i := 2)); exact rfl; walk_at "go"; walk_at "ip"; exact sc_read_head.nd; exact rfl; walk_at "loc"; walk_at "loc") | ((with_reducible apply bk_aug (x := "poll") (i := 3)); exact rfl; walk_at "go"; walk_at "ip"; exact sc_read_head.nd; exact rfl; walk_at "loc"; walk_at "loc") | ((with_reducible apply bk_aug (x := "polls_per_bit") (i := 4)); exact rfl; walk_at "go"; walk_at "ip"; exact sc_read_head.nd; exact rfl; walk_at "loc"; walk_at "loc") | ((with_reducible apply bk_aug (x := "phase") (i := 5)); exact rfl; walk_at "go"; walk_at "ip"; exact sc_read_head.nd; exact rfl; walk_at "loc"; walk_at "loc"))
local macro_rules | `(tactic| walk_at "ap") => `(tactic| first | ((with_reducible apply bk_append (x := "line") (i := 0)); exact rfl; walk_at "go"; (try walk_at "sd"); exact rfl; walk_at "vis"; exact rfl; exact rfl; exact rfl; exact rfl; exact rfl; exact rfl; decide; decide) | ((with_reducible apply bk_append (x := "words") (i := 1)); exact rfl; walk_at "go"; (try walk_at "sd"); exact rfl; walk_at "vis"; exact rfl; exact rfl; exact rfl; exact rfl; exact rfl; exact rfl; decide; decide) | ((with_reducible apply bk_append (x := "limit") (i := 2)); exact rfl; walk_at "go"; (try walk_at "sd"); exact rfl; walk_at "vis"; exact rfl; exact rfl; exact rfl; exact rfl; exact rfl; exact rfl; decide; decide) | ((with_reducible apply bk_append (x := "poll") (i := 3)); exact rfl; walk_at "go"; (try walk_at "sd"); exact rfl; walk_at "vis"; exact rfl; exact rfl; exact rfl; exact rfl; exact rfl; exact rfl; decide; decide) | ((with_reducible apply bk_append (x := "polls_per_bit") (i := 4)); exact rfl; walk_at "go"; (try walk_at "sd"); exact rfl; walk_at "vis"; exact rfl; exact rfl; exact rfl; exact rfl; exact rfl; exact rfl; decide; decide) | ((with_reducible apply bk_append (x := "phase") (i := 5)); exact rfl; walk_at "go"; (try walk_at "sd"); exact rfl; walk_at "vis"; exact rfl; exact rfl; exact rfl; exact rfl; exact rfl; exact rfl; decide; decide))
local macro_rules | `(tactic| walk_at "mine") => `(tactic| first | ((with_reducible apply bk_own (x := "line") (i := 0)); walk_at "fresh"; exact sc_read_head.nd; exact rfl; walk_at "loc"; exact (by simp [env0]); exact rfl; walk_at "loc") | ((with_reducible apply bk_own (x := "words") (i := 1)); walk_at "fresh"; exact sc_read_head.nd; exact rfl; walk_at "loc"; exact (by simp [env0]); exact rfl; walk_at "loc") | ((with_reducible apply bk_own (x := "limit") (i := 2)); walk_at "fresh"; exact sc_read_head.nd; exact rfl; walk_at "loc"; exact (by simp [env0]); exact rfl; walk_at "loc") | ((with_reducible apply bk_own (x := "poll") (i := 3)); walk_at "fresh"; exact sc_read_head.nd; exact rfl; walk_at "loc"; exact (by simp [env0]); exact rfl; walk_at "loc") | ((with_reducible apply bk_own (x := "polls_per_bit") (i := 4)); walk_at "fresh"; exact sc_read_head.nd; exact rfl; walk_at "loc"; exact (by simp [env0]); exact rfl; walk_at "loc") | ((with_reducible apply bk_own (x := "phase") (i := 5)); walk_at "fresh"; exact sc_read_head.nd; exact rfl; walk_at "loc"; exact (by simp [env0]); exact rfl; walk_at "loc"))
local macro_rules | `(tactic| walk_at "augl") => `(tactic| first | ((with_reducible apply bk_augL (x := "line") (i := 0)); exact rfl; walk_at "go"; (try walk_at "sd"); exact sc_read_head.nd; exact rfl; walk_at "loc"; walk_at "loc") | ((with_reducible apply bk_augL (x := "words") (i := 1)); exact rfl; walk_at "go"; (try walk_at "sd"); exact sc_read_head.nd; exact rfl; walk_at "loc"; walk_at "loc") | ((with_reducible apply bk_augL (x := "limit") (i := 2)); exact rfl; walk_at "go"; (try walk_at "sd"); exact sc_read_head.nd; exact rfl; walk_at "loc"; walk_at "loc") | ((with_reducible apply bk_augL (x := "poll") (i := 3)); exact rfl; walk_at "go"; (try walk_at "sd"); exact sc_read_head.nd; exact rfl; walk_at "loc"; walk_at "loc") | ((with_reducible apply bk_augL (x := "polls_per_bit") (i := 4)); exact rfl; walk_at "go"; (try walk_at "sd"); exact sc_read_head.nd; exact rfl; walk_at "loc"; walk_at "loc") | ((with_reducible apply bk_augL (x := "phase") (i := 5)); exact rfl; walk_at "go"; (try walk_at "sd"); exact sc_read_head.nd; exact rfl; walk_at "loc"; walk_at "loc"))
local macro_rules | `(tactic| walk_at "sto") => `(tactic| first | ((with_reducible apply bk_sto (x := "line") (i := 0)); exact rfl; walk_at "go"; walk_at "go"; (first | (apply ixN_at; walk_at "sd") | skip); exact rfl; walk_at "vis"; (exact fun _ => rfl); exact rfl; exact rfl; exact rfl; decide; decide) | ((with_reducible apply bk_sto (x := "words") (i := 1)); exact rfl; walk_at "go"; walk_at "go"; (first | (apply ixN_at; walk_at "sd") | skip); exact rfl; walk_at "vis"; (exact fun _ => rfl); exact rfl; exact rfl; exact rfl; decide; decide) | ((with_reducible apply bk_sto (x := "limit") (i := 2)); exact rfl; walk_at "go"; walk_at "go"; (first | (apply ixN_at; walk_at "sd") | skip); exact rfl; walk_at "vis"; (exact fun _ => rfl); exact rfl; exact rfl; exact rfl; decide; decide) | ((with_reducible apply bk_sto (x := "poll") (i := 3)); exact rfl; walk_at "go"; walk_at "go"; (first | (apply ixN_at; walk_at "sd") | skip); exact rfl; walk_at "vis"; (exact fun _ => rfl); exact rfl; exact rfl; exact rfl; decide; decide) | ((with_reducible apply bk_sto (x := "polls_per_bit") (i := 4)); exact rfl; walk_at "go"; walk_at "go"; (first | (apply ixN_at; walk_at "sd") | skip); exact rfl; walk_at "vis"; (exact fun _ => rfl); exact rfl; exact rfl; exact rfl; decide; decide) | ((with_reducible apply bk_sto (x := "phase") (i := 5)); exact rfl; walk_at "go"; walk_at "go"; (first | (apply ixN_at; walk_at "sd") | skip); exact rfl; walk_at "vis"; (exact fun _ => rfl); exact rfl; exact rfl; exact rfl; decide; decide))
local macro_rules | `(tactic| walk_at "own") => `(tactic| first | ((with_reducible apply ev_ixOwnF (x := "line") (i := 0)); exact rfl; walk_at "go"; (first | walk_at "at" | skip); exact rfl; walk_at "vis"; (exact fun _ _ => rfl); decide; decide) | ((with_reducible apply ev_ixOwnF (x := "words") (i := 1)); exact rfl; walk_at "go"; (first | walk_at "at" | skip); exact rfl; walk_at "vis"; (exact fun _ _ => rfl); decide; decide) | ((with_reducible apply ev_ixOwnF (x := "limit") (i := 2)); exact rfl; walk_at "go"; (first | walk_at "at" | skip); exact rfl; walk_at "vis"; (exact fun _ _ => rfl); decide; decide) | ((with_reducible apply ev_ixOwnF (x := "poll") (i := 3)); exact rfl; walk_at "go"; (first | walk_at "at" | skip); exact rfl; walk_at "vis"; (exact fun _ _ => rfl); decide; decide) | ((with_reducible apply ev_ixOwnF (x := "polls_per_bit") (i := 4)); exact rfl; walk_at "go"; (first | walk_at "at" | skip); exact rfl; walk_at "vis"; (exact fun _ _ => rfl); decide; decide) | ((with_reducible apply ev_ixOwnF (x := "phase") (i := 5)); exact rfl; walk_at "go"; (first | walk_at "at" | skip); exact rfl; walk_at "vis"; (exact fun _ _ => rfl); decide; decide))
local macro_rules | `(tactic| walk_at "tg") => `(tactic| first | ((with_reducible apply tg_name (x := "line") (i := 0)); exact sc_read_head.nd; exact rfl; walk_at "loc"; walk_at "loc") | ((with_reducible apply tg_name (x := "words") (i := 1)); exact sc_read_head.nd; exact rfl; walk_at "loc"; walk_at "loc") | ((with_reducible apply tg_name (x := "limit") (i := 2)); exact sc_read_head.nd; exact rfl; walk_at "loc"; walk_at "loc") | ((with_reducible apply tg_name (x := "poll") (i := 3)); exact sc_read_head.nd; exact rfl; walk_at "loc"; walk_at "loc") | ((with_reducible apply tg_name (x := "polls_per_bit") (i := 4)); exact sc_read_head.nd; exact rfl; walk_at "loc"; walk_at "loc") | ((with_reducible apply tg_name (x := "phase") (i := 5)); exact sc_read_head.nd; exact rfl; walk_at "loc"; walk_at "loc"))
local macro_rules | `(tactic| walk_at "rng") => `(tactic| first | ((with_reducible apply bk_rng2 (x := "line") (k := 0)); walk_at "go"; walk_at "go"; exact sc_read_head.nd; exact rfl; walk_at "loc"; exact (by simp [env0]); exact rfl; walk_at "loc"; exact rfl; exact T.z_range; exact rfl; exact rfl; exact rfl) | ((with_reducible apply bk_rng2 (x := "words") (k := 1)); walk_at "go"; walk_at "go"; exact sc_read_head.nd; exact rfl; walk_at "loc"; exact (by simp [env0]); exact rfl; walk_at "loc"; exact rfl; exact T.z_range; exact rfl; exact rfl; exact rfl) | ((with_reducible apply bk_rng2 (x := "limit") (k := 2)); walk_at "go"; walk_at "go"; exact sc_read_head.nd; exact rfl; walk_at "loc"; exact (by simp [env0]); exact rfl; walk_at "loc"; exact rfl; exact T.z_range; exact rfl; exact rfl; exact rfl) | ((with_reducible apply bk_rng2 (x := "poll") (k := 3)); walk_at "go"; walk_at "go"; exact sc_read_head.nd; exact rfl; walk_at "loc"; exact (by simp [env0]); exact rfl; walk_at "loc"; exact rfl; exact T.z_range; exact rfl; exact rfl; exact rfl) | ((with_reducible apply bk_rng2 (x := "polls_per_bit") (k := 4)); walk_at "go"; walk_at "go"; exact sc_read_head.nd; exact rfl; walk_at "loc"; exact (by simp [env0]); exact rfl; walk_at "loc"; exact rfl; exact T.z_range; exact rfl; exact rfl; exact rfl) | ((with_reducible apply bk_rng2 (x := "phase") (k := 5)); walk_at "go"; walk_at "go"; exact sc_read_head.nd; exact rfl; walk_at "loc"; exact (by simp [env0]); exact rfl; walk_at "loc"; exact rfl; exact T.z_range; exact rfl; exact rfl; exact rfl))
local macro_rules | `(tactic| walk_at "itr") => `(tactic| first | ((with_reducible apply iter_rngS (y := "line") (k := 0)); exact rfl; exact rgC_up (by walk_at "b62") (by walk_at "b62"); exact rfl; walk_at "vis"; decide; decide) | ((with_reducible apply iter_rngS (y := "words") (k := 1)); exact rfl; exact rgC_up (by walk_at "b62") (by walk_at "b62"); exact rfl; walk_at "vis"; decide; decide) | ((with_reducible apply iter_rngS (y := "limit") (k := 2)); exact rfl; exact rgC_up (by walk_at "b62") (by walk_at "b62"); exact rfl; walk_at "vis"; decide; decide) | ((with_reducible apply iter_rngS (y := "poll") (k := 3)); exact rfl; exact rgC_up (by walk_at "b62") (by walk_at "b62"); exact rfl; walk_at "vis"; decide; decide) | ((with_reducible apply iter_rngS (y := "polls_per_bit") (k := 4)); exact rfl; exact rgC_up (by walk_at "b62") (by walk_at "b62"); exact rfl; walk_at "vis"; decide; decide) | ((with_reducible apply iter_rngS (y := "phase") (k := 5)); exact rfl; exact rgC_up (by walk_at "b62") (by walk_at "b62"); exact rfl; walk_at "vis"; decide; decide))
local macro_rules | `(tactic| walk_at "fn read_number") => `(tactic| exact ok_read_number T (by omega) (by omega) (by omega))
local macro_rules | `(tactic| walk_at "at") => `(tactic| first | with_reducible assumption | exact at_nat (by decide) rfl)
theorem ok_read_headT (T : Top K mg) {dl : D} {n p q h : Nat} (hn : 2 ≤ n ∧ n ≤ 7) (hp : 1 ≤ p ∧ p ≤ 50) (hq : 3 ≤ q ∧ q ≤ 32) (hh : h < p) : Dfn P w K mg base "read_head" ["line", "words"] 3 [dl, .list ((trW n p q h).map strS)] (.tuple [.int n, .tuple [.int p, .int q], .int h]) := by
  refine dfn T.d_read_head sc_read_head rfl fun f cdv A outer s H E hr => ?_
  walk_at "open"
  refine bk_if (p := false) (Tst.to (d := _) (by walk_at "go") (by rfl)) (fun h => nomatch h) fun _ => ?_
  refine bk_nil ?_
  walk_at "st"
  walk_at "st"
  walk_at "st"
  walk_at "st"
  walk_at "ret"
  rfl
local macro_rules | `(tactic| walk_at "nm") => `(tactic| first | ((with_reducible apply ev_nameF (x := "line") (i := 0)); exact rfl; exact rfl; walk_at "vis"; decide; decide) | ((with_reducible apply ev_nameF (x := "words") (i := 1)); exact rfl; exact rfl; walk_at "vis"; decide; decide) | ((with_reducible apply ev_nameF (x := "signal") (i := 2)); exact rfl; exact rfl; walk_at "vis"; decide; decide) | ((with_reducible apply ev_nameF (x := "time") (i := 3)); exact rfl; exact rfl; walk_at "vis"; decide; decide))
local macro_rules | `(tactic| walk_at "st") => `(tactic| first | ((with_reducible apply bk_set (x := "line") (i := 0)); walk_at "go"; exact sc_read_edge.nd; exact rfl; walk_at "loc"; exact rfl; walk_at "loc") | ((with_reducible apply bk_set (x := "words") (i := 1)); walk_at "go"; exact sc_read_edge.nd; exact rfl; walk_at "loc"; exact rfl; walk_at "loc") | ((with_reducible apply bk_set (x := "signal") (i := 2)); walk_at "go"; exact sc_read_edge.nd; exact rfl; walk_at "loc"; exact rfl; walk_at "loc") | ((with_reducible apply bk_set (x := "time") (i := 3)); walk_at "go"; exact sc_read_edge.nd; exact rfl; walk_at "loc"; exact rfl; walk_at "loc") | ((with_reducible apply bk_aug (x := "line") (i := 0)); exact rfl; walk_at "go"; walk_at "ip"; exact sc_read_edge.nd; exact rfl; walk_at "loc"; walk_at "loc") | ((with_reducible apply bk_aug (x := "words") (i := 1)); exact rfl; walk_at "go"; walk_at "ip"; exact sc_read_edge.nd; exact rfl; walk_at "loc"; walk_at "loc") | ((with_reducible apply bk_aug (x := "signal") (i := 2)); exact rfl; walk_at "go"; walk_at "ip"; exact sc_read_edge.nd; exact rfl; walk_at "loc"; walk_at "loc") | ((with_reducible apply bk_aug (x := "time") (i := 3)); exact rfl; walk_at "go"; walk_at "ip"; exact sc_read_edge.nd; exact rfl; walk_at "loc"; walk_at "loc"))
local macro_rules | `(tactic| walk_at "ap") => `(tactic| first | ((with_reducible apply bk_append (x := "line") (i := 0)); exact rfl; walk_at "go"; (try walk_at "sd"); exact rfl; walk_at "vis"; exact rfl; exact rfl; exact rfl; exact rfl; exact rfl; exact rfl; decide; decide) | ((with_reducible apply bk_append (x := "words") (i := 1)); exact rfl; walk_at "go"; (try walk_at "sd"); exact rfl; walk_at "vis"; exact rfl; exact rfl; exact rfl; exact rfl; exact rfl; exact rfl; decide; decide) | ((with_reducible apply bk_append (x := "signal") (i := 2)); exact rfl; walk_at "go"; (try walk_at "sd"); exact rfl; walk_at "vis"; exact rfl; exact rfl; exact rfl; exact rfl; exact rfl; exact rfl; decide; decide) | ((with_reducible apply bk_append (x := "time") (i := 3)); exact rfl; walk_at "go"; (try walk_at "sd"); exact rfl; walk_at "vis"; exact rfl; exact rfl; exact rfl; exact rfl; exact rfl; exact rfl; decide; decide))
local macro_rules | `(tactic| walk_at "mine") => `(tactic| first | ((with_reducible apply bk_own (x := "line") (i := 0)); walk_at "fresh"; exact sc_read_edge.nd; exact rfl; walk_at "loc"; exact (by simp [env0]); exact rfl; walk_at "loc") | ((with_reducible apply bk_own (x := "words") (i := 1)); walk_at "fresh"; exact sc_read_edge.nd; exact rfl; walk_at "loc"; exact (by simp [env0]); exact rfl; walk_at "loc") | ((with_reducible apply bk_own (x := "signal") (i := 2)); walk_at "fresh"; exact sc_read_edge.nd; exact rfl; walk_at "loc"; exact (by simp [env0]); exact rfl; walk_at "loc") | ((with_reducible apply bk_own (x := "time") (i := 3)); walk_at "fresh"; exact sc_read_edge.nd; exact rfl; walk_at "loc"; exact (by simp [env0]); exact rfl; walk_at "loc"))
local macro_rules | `(tactic| walk_at "augl") => `(tactic| first | ((with_reducible apply bk_augL (x := "line") (i := 0)); exact rfl; walk_at "go"; (try walk_at "sd"); exact sc_read_edge.nd; exact rfl; walk_at "loc"; walk_at "loc") | ((with_reducible apply bk_augL (x := "words") (i := 1)); exact rfl; walk_at "go"; (try walk_at "sd"); exact sc_read_edge.nd; exact rfl; walk_at "loc"; walk_at "loc") | ((with_reducible apply bk_augL (x := "signal") (i := 2)); exact rfl; walk_at "go"; (try walk_at "sd"); exact sc_read_edge.nd; exact rfl; walk_at "loc"; walk_at "loc") | ((with_reducible apply bk_augL (x := "time") (i := 3)); exact rfl; walk_at "go"; (try walk_at "sd"); exact sc_read_edge.nd; exact rfl; walk_at "loc"; walk_at "loc"))
local macro_rules | `(tactic| walk_at "sto") => `(tactic| first | ((with_reducible apply bk_sto (x := "line") (i := 0)); exact rfl; walk_at "go"; walk_at "go"; (first | (apply ixN_at; walk_at "sd") | skip); exact rfl; walk_at "vis"; (exact fun _ => rfl); exact rfl; exact rfl; exact rfl; decide; decide) | ((with_reducible apply bk_sto (x := "words") (i := 1)); exact rfl; walk_at "go"; walk_at "go"; (first | (apply ixN_at; walk_at "sd") | skip); exact rfl; walk_at "vis"; (exact fun _ => rfl); exact rfl; exact rfl; exact rfl; decide; decide) | ((with_reducible apply bk_sto (x := "signal") (i := 2)); exact rfl; walk_at "go"; walk_at "go"; (first | (apply ixN_at; walk_at "sd") | skip); exact rfl; walk_at "vis"; (exact fun _ => rfl); exact rfl; exact rfl; exact rfl; decide; decide) | ((with_reducible apply bk_sto (x := "time") (i := 3)); exact rfl; walk_at "go"; walk_at "go"; (first | (apply ixN_at; walk_at "sd") | skip); exact rfl; walk_at "vis"; (exact fun _ => rfl); exact rfl; exact rfl; exact rfl; decide; decide))
local macro_rules | `(tactic| walk_at "own") => `(tactic| first | ((with_reducible apply ev_ixOwnF (x := "line") (i := 0)); exact rfl; walk_at "go"; (first | walk_at "at" | skip); exact rfl; walk_at "vis"; (exact fun _ _ => rfl); decide; decide) | ((with_reducible apply ev_ixOwnF (x := "words") (i := 1)); exact rfl; walk_at "go"; (first | walk_at "at" | skip); exact rfl; walk_at "vis"; (exact fun _ _ => rfl); decide; decide) | ((with_reducible apply ev_ixOwnF (x := "signal") (i := 2)); exact rfl; walk_at "go"; (first | walk_at "at" | skip); exact rfl; walk_at "vis"; (exact fun _ _ => rfl); decide; decide) | ((with_reducible apply ev_ixOwnF (x := "time") (i := 3)); exact rfl; walk_at "go"; (first | walk_at "at" | skip); exact rfl; walk_at "vis"; (exact fun _ _ => rfl); decide; decide))
local macro_rules | `(tactic| walk_at "tg") => `(tactic| first | ((with_reducible apply tg_name (x := "line") (i := 0)); exact sc_read_edge.nd; exact rfl; walk_at "loc"; walk_at "loc") | ((with_reducible apply tg_name (x := "words") (i := 1)); exact sc_read_edge.nd; exact rfl; walk_at "loc"; walk_at "loc") | ((with_reducible apply tg_name (x := "signal") (i := 2)); exact sc_read_edge.nd; exact rfl; walk_at "loc"; walk_at "loc") | ((with_reducible apply tg_name (x := "time") (i := 3)); exact sc_read_edge.nd; exact rfl; walk_at "loc"; walk_at "loc"))
local macro_rules | `(tactic| walk_at "rng") => `(tactic| first | ((with_reducible apply bk_rng2 (x := "line") (k := 0)); walk_at "go"; walk_at "go"; exact sc_read_edge.nd; exact rfl; walk_at "loc"; exact (by simp [env0]); exact rfl; walk_at "loc"; exact rfl; exact T.z_range; exact rfl; exact rfl; exact rfl) | ((with_reducible apply bk_rng2 (x := "words") (k := 1)); walk_at "go"; walk_at "go"; exact sc_read_edge.nd; exact rfl; walk_at "loc"; exact (by simp [env0]); exact rfl; walk_at "loc"; exact rfl; exact T.z_range; exact rfl; exact rfl; exact rfl) | ((with_reducible apply bk_rng2 (x := "signal") (k := 2)); walk_at "go"; walk_at "go"; exact sc_read_edge.nd; exact rfl; walk_at "loc"; exact (by simp [env0]); exact rfl; walk_at "loc"; exact rfl; exact T.z_range; exact rfl; exact rfl; exact rfl) | ((with_reducible apply bk_rng2 (x := "time") (k := 3)); walk_at "go"; walk_at "go"; exact sc_read_edge.nd; exact rfl; walk_at "loc"; exact (by simp [env0]); exact rfl; walk_at "loc"; exact rfl; exact T.z_range; exact rfl; exact rfl; exact rfl))
local macro_rules | `(tactic| walk_at "itr") => `(tactic| first | ((with_reducible apply iter_rngS (y := "line") (k := 0)); exact rfl; exact rgC_up (by walk_at "b62") (by walk_at "b62"); exact rfl; walk_at "vis"; decide; decide) | ((with_reducible apply iter_rngS (y := "words") (k := 1)); exact rfl; exact rgC_up (by walk_at "b62") (by walk_at "b62"); exact rfl; walk_at "vis"; decide; decide) | ((with_reducible apply iter_rngS (y := "signal") (k := 2)); exact rfl; exact rgC_up (by walk_at "b62") (by walk_at "b62"); exact rfl; walk_at "vis"; decide; decide) | ((with_reducible apply iter_rngS (y := "time") (k := 3)); exact rfl; exact rgC_up (by walk_at "b62") (by walk_at "b62"); exact rfl; walk_at "vis"; decide; decide))
local macro_rules | `(tactic| walk_at "fn read_number") => `(tactic| exact ok_read_number T (by omega) (by omega) (by omega))
local macro_rules | `(tactic| walk_at "at") => `(tactic| first | with_reducible assumption | exact at_nat (by decide) rfl)
theorem ok_read_edge (T : Top K mg) {dl : D} {t : Nat} {ss : List Nat} (ht : t ≤ 1000000) (hl : ss.length < 256) (hs : ∀ h : ss ≠ [], ss.getLast h < t) : Dfn P w K mg base "read_edge" ["line", "words", "signal"] 3 [dl, .list ((edW t).map strS), .list (ss.map dI)] (.int t) := by
  refine dfn T.d_read_edge sc_read_edge rfl fun f cdv A outer s H E hr => ?_
  walk_at "open"
  refine bk_if (p := false) (Tst.to (d := _) (by walk_at "go") (by rfl)) (fun h => nomatch h) fun _ => ?_
  refine bk_nil ?_
  walk_at "st"
  by_cases e : ss = []
  · subst e
    refine bk_if (p := false) (tst_bo (tw_andF (Tst.to (d := tru (.list (([] : List Nat).map dI))) (by walk_at "go") rfl))) (fun h => nomatch h) fun _ => ?_
    refine bk_nil ?_
    refine bk_if (p := false) (Tst.to (d := decide (((([] : List Nat).map dI).length : Int) ≥ 256)) (by walk_at "go") (by rfl)) (fun h => nomatch h) fun _ => ?_
    refine bk_nil ?_
    walk_at "ret"
    rfl
  · have hlt := hs e
    have hat1 : L2.atI (ss.map dI) (-1) = some (.int ((ss.getLast e : Nat) : Int)) := by
      have hpos := List.length_pos_iff.mpr e
      unfold L2.atI L2.ixN
      rw [List.length_map, if_neg (by omega), if_pos (by omega), show (-1 + ((ss.length : Nat) : Int)).toNat = ss.length - 1 by omega]
      show (ss.map dI)[ss.length - 1]? = _
      rw [List.getElem?_map, List.getElem?_eq_getElem (by omega), ← List.getLast_eq_getElem e]
      rfl
    have htr : tru (.list (ss.map dI)) = true := by
      cases ss with
      | nil => exact absurd rfl e
      | cons a l => rfl
    refine bk_if (p := false) (Tst.to (d := (tru (.list (ss.map dI)) && decide ((t : Int) ≤ ((ss.getLast e : Nat) : Int)))) (by walk_at "go") (by rw [htr, Bool.true_and]; exact decide_eq_false (by omega))) (fun h => nomatch h) fun _ => ?_
    refine bk_nil ?_
    refine bk_if (p := false) (Tst.to (d := decide (((ss.map dI).length : Int) ≥ 256)) (by walk_at "go") (decide_eq_false (by rw [List.length_map]; omega))) (fun h => nomatch h) fun _ => ?_
    refine bk_nil ?_
    walk_at "ret"
    rfl
end


section
variable {P : Program} {w : World} {K : PySem.W.Frag} {mg : Str → Option Value} {base : Heap}
theorem cut_from1 {α : Type} (g : α → D) (L : List α) : cutD (L.map g) (some 1) none = (L.drop 1).map g := by
  show cutG (L.map g) (some 1) none = _
  rw [cutG_from (by decide), List.map_drop]
  rfl
theorem take_get {α : Type} {l : List α} {k : Nat} (d : α) (h : k < l.length) : l.take (k + 1) = l.take k ++ [l.getD k d] := by
  rw [List.take_succ, List.getElem?_eq_getElem h, List.getD_eq_getElem?_getD, List.getElem?_eq_getElem h]
  rfl
local macro_rules | `(tactic| walk_at "nm") => `(tactic| first | ((with_reducible apply ev_nameF (x := "text") (i := 0)); exact rfl; exact rfl; walk_at "vis"; decide; decide) | ((with_reducible apply ev_nameF (x := "rows") (i := 1)); exact rfl; exact rfl; walk_at "vis"; decide; decide) | ((with_reducible apply ev_nameF (x := "line") (i := 2)); exact rfl; exact rfl; walk_at "vis"; decide; decide) | ((with_reducible apply ev_nameF (x := "words") (i := 3)); exact rfl; exact rfl; walk_at "vis"; decide; decide) | ((with_reducible apply ev_nameF (x := "limit") (i := 4)); exact rfl; exact rfl; walk_at "vis"; decide; decide) | ((with_reducible apply ev_nameF (x := "receiver") (i := 5)); exact rfl; exact rfl; walk_at "vis"; decide; decide) | ((with_reducible apply ev_nameF (x := "phase") (i := 6)); exact rfl; exact rfl; walk_at "vis"; decide; decide) | ((with_reducible apply ev_nameF (x := "signal") (i := 7)); exact rfl; exact rfl; walk_at "vis"; decide; decide))
local macro_rules | `(tactic| walk_at "st") => `(tactic| first | ((with_reducible apply bk_set (x := "text") (i := 0)); walk_at "go"; exact sc_read_trace.nd; exact rfl; walk_at "loc"; exact rfl; walk_at "loc") | ((with_reducible apply bk_set (x := "rows") (i := 1)); walk_at "go"; exact sc_read_trace.nd; exact rfl; walk_at "loc"; exact rfl; walk_at "loc") | ((with_reducible apply bk_set (x := "line") (i := 2)); walk_at "go"; exact sc_read_trace.nd; exact rfl; walk_at "loc"; exact rfl; walk_at "loc") | ((with_reducible apply bk_set (x := "words") (i := 3)); walk_at "go"; exact sc_read_trace.nd; exact rfl; walk_at "loc"; exact rfl; walk_at "loc") | ((with_reducible apply bk_set (x := "limit") (i := 4)); walk_at "go"; exact sc_read_trace.nd; exact rfl; walk_at "loc"; exact rfl; walk_at "loc") | ((with_reducible apply bk_set (x := "receiver") (i := 5)); walk_at "go"; exact sc_read_trace.nd; exact rfl; walk_at "loc"; exact rfl; walk_at "loc") | ((with_reducible apply bk_set (x := "phase") (i := 6)); walk_at "go"; exact sc_read_trace.nd; exact rfl; walk_at "loc"; exact rfl; walk_at "loc") | ((with_reducible apply bk_set (x := "signal") (i := 7)); walk_at "go"; exact sc_read_trace.nd; exact rfl; walk_at "loc"; exact rfl; walk_at "loc") | ((with_reducible apply bk_aug (x := "text") (i := 0)); exact rfl; walk_at "go"; walk_at "ip"; exact sc_read_trace.nd; exact rfl; walk_at "loc"; walk_at "loc") | ((with_reducible apply bk_aug (x := "rows") (i := 1)); exact rfl; walk_at "go"; walk_at "ip"; exact sc_read_trace.nd; exact rfl; walk_at "loc"; walk_at "loc") | ((with_reducible apply bk_aug (x := "line") (i := 2)); exact rfl; walk_at "go"; walk_at "ip"; exact sc_read_trace.nd; exact rfl; walk_at "loc"; walk_at "loc") | ((with_reducible apply bk_aug (x := "words") (i := 3)); exact rfl; walk_at "go"; walk_at "ip"; exact sc_read_trace.nd; exact rfl; walk_at "loc"; walk_at "loc") | ((with_reducible apply bk_aug (x := "limit") (i := 4)); exact rfl; walk_at "go"; walk_at "ip"; exact sc_read_trace.nd; exact rfl; walk_at "loc"; walk_at "loc") | ((with_reducible apply bk_aug (x := "receiver") (i := 5)); exact rfl; walk_at "go"; walk_at "ip"; exact sc_read_trace.nd; exact rfl; walk_at "loc"; walk_at "loc") | ((with_reducible apply bk_aug (x := "phase") (i := 6)); exact rfl; walk_at "go"; walk_at "ip"; exact sc_read_trace.nd; exact rfl; walk_at "loc"; walk_at "loc") | ((with_reducible apply bk_aug (x := "signal") (i := 7)); exact rfl; walk_at "go"; walk_at "ip"; exact sc_read_trace.nd; exact rfl; walk_at "loc"; walk_at "loc"))
local macro_rules | `(tactic| walk_at "ap") => `(tactic| first | ((with_reducible apply bk_append (x := "text") (i := 0)); exact rfl; walk_at "go"; (try walk_at "sd"); exact rfl; walk_at "vis"; exact rfl; exact rfl; exact rfl; exact rfl; exact rfl; exact rfl; decide; decide) | ((with_reducible apply bk_append (x := "rows") (i := 1)); exact rfl; walk_at "go"; (try walk_at "sd"); exact rfl; walk_at "vis"; exact rfl; exact rfl; exact rfl; exact rfl; exact rfl; exact rfl; decide; decide) | ((with_reducible apply bk_append (x := "line") (i := 2)); exact rfl; walk_at "go"; (try walk_at "sd"); exact rfl; walk_at "vis"; exact rfl; exact rfl; exact rfl; exact rfl; exact rfl; exact rfl; decide; decide) | ((with_reducible apply bk_append (x := "words") (i := 3)); exact rfl; walk_at "go"; (try walk_at "sd"); exact rfl; walk_at "vis"; exact rfl; exact rfl; exact rfl; exact rfl; exact rfl; exact rfl; decide; decide) | ((with_reducible apply bk_append (x := "limit") (i := 4)); exact rfl; walk_at "go"; (try walk_at "sd"); exact rfl; walk_at "vis"; exact rfl; exact rfl; exact rfl; exact rfl; exact rfl; exact rfl; decide; decide) | ((with_reducible apply bk_append (x := "receiver") (i := 5)); exact rfl; walk_at "go"; (try walk_at "sd"); exact rfl; walk_at "vis"; exact rfl; exact rfl; exact rfl; exact rfl; exact rfl; exact rfl; decide; decide) | ((with_reducible apply bk_append (x := "phase") (i := 6)); exact rfl; walk_at "go"; (try walk_at "sd"); exact rfl; walk_at "vis"; exact rfl; exact rfl; exact rfl; exact rfl; exact rfl; exact rfl; decide; decide) | ((with_reducible apply bk_append (x := "signal") (i := 7)); exact rfl; walk_at "go"; (try walk_at "sd"); exact rfl; walk_at "vis"; exact rfl; exact rfl; exact rfl; exact rfl; exact rfl; exact rfl; decide; decide))
local macro_rules | `(tactic| walk_at "mine") => `(tactic| first | ((with_reducible apply bk_own (x := "text") (i := 0)); walk_at "fresh"; exact sc_read_trace.nd; exact rfl; walk_at "loc"; exact (by simp [env0]); exact rfl; walk_at "loc") | ((with_reducible apply bk_own (x := "rows") (i := 1)); walk_at "fresh"; exact sc_read_trace.nd; exact rfl; walk_at "loc"; exact (by simp [env0]); exact rfl; walk_at "loc") | ((with_reducible apply bk_own (x := "line") (i := 2)); walk_at "fresh"; exact sc_read_trace.nd; exact rfl; walk_at "loc"; exact (by simp [env0]); exact rfl; walk_at "loc") | ((with_reducible apply bk_own (x := "words") (i := 3)); walk_at "fresh"; exact sc_read_trace.nd; exact rfl; walk_at "loc"; exact (by simp [env0]); exact rfl; walk_at "loc") | ((with_reducible apply bk_own (x := "limit") (i := 4)); walk_at "fresh"; exact sc_read_trace.nd; exact rfl; walk_at "loc"; exact (by simp [env0]); exact rfl; walk_at "loc") | ((with_reducible apply bk_own (x := "receiver") (i := 5)); walk_at "fresh"; exact sc_read_trace.nd; exact rfl; walk_at "loc"; exact (by simp [env0]); exact rfl; walk_at "loc") | ((with_reducible apply bk_own (x := "phase") (i := 6)); walk_at "fresh"; exact sc_read_trace.nd; exact rfl; walk_at "loc"; exact (by simp [env0]); exact rfl; walk_at "loc") | ((with_reducible apply bk_own (x := "signal") (i := 7)); walk_at "fresh"; exact sc_read_trace.nd; exact rfl; walk_at "loc"; exact (by simp [env0]); exact rfl; walk_at "loc"))
local macro_rules | `(tactic| walk_at "augl") => `(tactic| first | ((with_reducible apply bk_augL (x := "text") (i := 0)); exact rfl; walk_at "go"; (try walk_at "sd"); exact sc_read_trace.nd; exact rfl; walk_at "loc"; walk_at "loc") | ((with_reducible apply bk_augL (x := "rows") (i := 1)); exact rfl; walk_at "go"; (try walk_at "sd"); exact sc_read_trace.nd; exact rfl; walk_at "loc"; walk_at "loc") | ((with_reducible apply bk_augL (x := "line") (i := 2)); exact rfl; walk_at "go"; (try walk_at "sd"); exact sc_read_trace.nd; exact rfl; walk_at "loc"; walk_at "loc") | ((with_reducible apply bk_augL (x := "words") (i := 3)); exact rfl; walk_at "go"; (try walk_at "sd"); exact sc_read_trace.nd; exact rfl; walk_at "loc"; walk_at "loc") | ((with_reducible apply bk_augL (x := "limit") (i := 4)); exact rfl; walk_at "go"; (try walk_at "sd"); exact sc_read_trace.nd; exact rfl; walk_at "loc"; walk_at "loc") | ((with_reducible apply bk_augL (x := "receiver") (i := 5)); exact rfl; walk_at "go"; (try walk_at "sd"); exact sc_read_trace.nd; exact rfl; walk_at "loc"; walk_at "loc") | ((with_reducible apply bk_augL (x := "phase") (i := 6)); exact rfl; walk_at "go"; (try walk_at "sd"); exact sc_read_trace.nd; exact rfl; walk_at "loc"; walk_at "loc") | ((with_reducible apply bk_augL (x := "signal") (i := 7)); exact rfl; walk_at "go"; (try walk_at "sd"); exact sc_read_trace.nd; exact rfl; walk_at "loc"; walk_at "loc"))
local macro_rules | `(tactic| walk_at "sto") => `(tactic| first | ((with_reducible apply bk_sto (x := "text") (i := 0)); exact rfl; walk_at "go"; walk_at "go"; (first | (apply ixN_at; walk_at "sd") | skip); exact rfl; walk_at "vis"; (exact fun _ => rfl); exact rfl; exact rfl; exact rfl; decide; decide) | ((with_reducible apply bk_sto (x := "rows") (i := 1)); exact rfl; walk_at "go"; walk_at "go"; (first | (apply ixN_at; walk_at "sd") | skip); exact rfl; walk_at "vis"; (exact fun _ => rfl); exact rfl; exact rfl; exact rfl; decide; decide) | ((with_reducible apply bk_sto (x := "line") (i := 2)); exact rfl; walk_at "go"; walk_at "go"; (first | (apply ixN_at; walk_at "sd") | skip); exact rfl; walk_at "vis"; (exact fun _ => rfl); exact rfl; exact rfl; exact rfl; decide; decide) | ((with_reducible apply bk_sto (x := "words") (i := 3)); exact rfl; walk_at "go"; walk_at "go"; (first | (apply ixN_at; walk_at "sd") | skip); exact rfl; walk_at "vis"; (exact fun _ => rfl); exact rfl; exact rfl; exact rfl; decide; decide) | ((with_reducible apply bk_sto (x := "limit") (i := 4)); exact rfl; walk_at "go"; walk_at "go"; (first | (apply ixN_at; walk_at "sd") | skip); exact rfl; walk_at "vis"; (exact fun _ => rfl); exact rfl; exact rfl; exact rfl; decide; decide) | ((with_reducible apply bk_sto (x := "receiver") (i := 5)); exact rfl; walk_at "go"; walk_at "go"; (first | (apply ixN_at; walk_at "sd") | skip); exact rfl; walk_at "vis"; (exact fun _ => rfl); exact rfl; exact rfl; exact rfl; decide; decide) | ((with_reducible apply bk_sto (x := "phase") (i := 6)); exact rfl; walk_at "go"; walk_at "go"; (first | (apply ixN_at; walk_at "sd") | skip); exact rfl; walk_at "vis"; (exact fun _ => rfl); exact rfl; exact rfl; exact rfl; decide; decide) | ((with_reducible apply bk_sto (x := "signal") (i := 7)); exact rfl; walk_at "go"; walk_at "go"; (first | (apply ixN_at; walk_at "sd") | skip); exact rfl; walk_at "vis"; (exact fun _ => rfl); exact rfl; exact rfl; exact rfl; decide; decide))
local macro_rules | `(tactic| walk_at "own") => `(tactic| first | ((with_reducible apply ev_ixOwnF (x := "text") (i := 0)); exact rfl; walk_at "go"; (first | walk_at "at" | skip); exact rfl; walk_at "vis"; (exact fun _ _ => rfl); decide; decide) | ((with_reducible apply ev_ixOwnF (x := "rows") (i := 1)); exact rfl; walk_at "go"; (first | walk_at "at" | skip); exact rfl; walk_at "vis"; (exact fun _ _ => rfl); decide; decide) | ((with_reducible apply ev_ixOwnF (x := "line") (i := 2)); exact rfl; walk_at "go"; (first | walk_at "at" | skip); exact rfl; walk_at "vis"; (exact fun _ _ => rfl); decide; decide) | ((with_reducible apply ev_ixOwnF (x := "words") (i := 3)); exact rfl; walk_at "go"; (first | walk_at "at" | skip); exact rfl; walk_at "vis"; (exact fun _ _ => rfl); decide; decide) | ((with_reducible apply ev_ixOwnF (x := "limit") (i := 4)); exact rfl; walk_at "go"; (first | walk_at "at" | skip); exact rfl; walk_at "vis"; (exact fun _ _ => rfl); decide; decide) | ((with_reducible apply ev_ixOwnF (x := "receiver") (i := 5)); exact rfl; walk_at "go"; (first | walk_at "at" | skip); exact rfl; walk_at "vis"; (exact fun _ _ => rfl); decide; decide) | ((with_reducible apply ev_ixOwnF (x := "phase") (i := 6)); exact rfl; walk_at "go"; (first | walk_at "at" | skip); exact rfl; walk_at "vis"; (exact fun _ _ => rfl); decide; decide) | ((with_reducible apply ev_ixOwnF (x := "signal") (i := 7)); exact rfl; walk_at "go"; (first | walk_at "at" | skip); exact rfl; walk_at "vis"; (exact fun _ _ => rfl); decide; decide))
local macro_rules | `(tactic| walk_at "tg") => `(tactic| first | ((with_reducible apply tg_name (x := "text") (i := 0)); exact sc_read_trace.nd; exact rfl; walk_at "loc"; walk_at "loc") | ((with_reducible apply tg_name (x := "rows") (i := 1)); exact sc_read_trace.nd; exact rfl; walk_at "loc"; walk_at "loc") | ((with_reducible apply tg_name (x := "line") (i := 2)); exact sc_read_trace.nd; exact rfl; walk_at "loc"; walk_at "loc") | ((with_reducible apply tg_name (x := "words") (i := 3)); exact sc_read_trace.nd; exact rfl; walk_at "loc"; walk_at "loc") | ((with_reducible apply tg_name (x := "limit") (i := 4)); exact sc_read_trace.nd; exact rfl; walk_at "loc"; walk_at "loc") | ((with_reducible apply tg_name (x := "receiver") (i := 5)); exact sc_read_trace.nd; exact rfl; walk_at "loc"; walk_at "loc") | ((with_reducible apply tg_name (x := "phase") (i := 6)); exact sc_read_trace.nd; exact rfl; walk_at "loc"; walk_at "loc") | ((with_reducible apply tg_name (x := "signal") (i := 7)); exact sc_read_trace.nd; exact rfl; walk_at "loc"; walk_at "loc"))
local macro_rules | `(tactic| walk_at "rng") => `(tactic| first | ((with_reducible apply bk_rng2 (x := "text") (k := 0)); walk_at "go"; walk_at "go"; exact sc_read_trace.nd; exact rfl; walk_at "loc"; exact (by simp [env0]); exact rfl; walk_at "loc"; exact rfl; exact T.z_range; exact rfl; exact rfl; exact rfl) | ((with_reducible apply bk_rng2 (x := "rows") (k := 1)); walk_at "go"; walk_at "go"; exact sc_read_trace.nd; exact rfl; walk_at "loc"; exact (by simp [env0]); exact rfl; walk_at "loc"; exact rfl; exact T.z_range; exact rfl; exact rfl; exact rfl) | ((with_reducible apply bk_rng2 (x := "line") (k := 2)); walk_at "go"; walk_at "go"; exact sc_read_trace.nd; exact rfl; walk_at "loc"; exact (by simp [env0]); exact rfl; walk_at "loc"; exact rfl; exact T.z_range; exact rfl; exact rfl; exact rfl) | ((with_reducible apply bk_rng2 (x := "words") (k := 3)); walk_at "go"; walk_at "go"; exact sc_read_trace.nd; exact rfl; walk_at "loc"; exact (by simp [env0]); exact rfl; walk_at "loc"; exact rfl; exact T.z_range; exact rfl; exact rfl; exact rfl) | ((with_reducible apply bk_rng2 (x := "limit") (k := 4)); walk_at "go"; walk_at "go"; exact sc_read_trace.nd; exact rfl; walk_at "loc"; exact (by simp [env0]); exact rfl; walk_at "loc"; exact rfl; exact T.z_range; exact rfl; exact rfl; exact rfl) | ((with_reducible apply bk_rng2 (x := "receiver") (k := 5)); walk_at "go"; walk_at "go"; exact sc_read_trace.nd; exact rfl; walk_at "loc"; exact (by simp [env0]); exact rfl; walk_at "loc"; exact rfl; exact T.z_range; exact rfl; exact rfl; exact rfl) | ((with_reducible apply bk_rng2 (x := "phase") (k := 6)); walk_at "go"; walk_at "go"; exact sc_read_trace.nd; exact rfl; walk_at "loc"; exact (by simp [env0]); exact rfl; walk_at "loc"; exact rfl; exact T.z_range; exact rfl; exact rfl; exact rfl) | ((with_reducible apply bk_rng2 (x := "signal") (k := 7)); walk_at "go"; walk_at "go"; exact sc_read_trace.nd; exact rfl; walk_at "loc"; exact (by simp [env0]); exact rfl; walk_at "loc"; exact rfl; exact T.z_range; exact rfl; exact rfl; exact rfl))
local macro_rules | `(tactic| walk_at "itr") => `(tactic| first | ((with_reducible apply iter_rngS (y := "text") (k := 0)); exact rfl; exact rgC_up (by walk_at "b62") (by walk_at "b62"); exact rfl; walk_at "vis"; decide; decide) | ((with_reducible apply iter_rngS (y := "rows") (k := 1)); exact rfl; exact rgC_up (by walk_at "b62") (by walk_at "b62"); exact rfl; walk_at "vis"; decide; decide) | ((with_reducible apply iter_rngS (y := "line") (k := 2)); exact rfl; exact rgC_up (by walk_at "b62") (by walk_at "b62"); exact rfl; walk_at "vis"; decide; decide) | ((with_reducible apply iter_rngS (y := "words") (k := 3)); exact rfl; exact rgC_up (by walk_at "b62") (by walk_at "b62"); exact rfl; walk_at "vis"; decide; decide) | ((with_reducible apply iter_rngS (y := "limit") (k := 4)); exact rfl; exact rgC_up (by walk_at "b62") (by walk_at "b62"); exact rfl; walk_at "vis"; decide; decide) | ((with_reducible apply iter_rngS (y := "receiver") (k := 5)); exact rfl; exact rgC_up (by walk_at "b62") (by walk_at "b62"); exact rfl; walk_at "vis"; decide; decide) | ((with_reducible apply iter_rngS (y := "phase") (k := 6)); exact rfl; exact rgC_up (by walk_at "b62") (by walk_at "b62"); exact rfl; walk_at "vis"; decide; decide) | ((with_reducible apply iter_rngS (y := "signal") (k := 7)); exact rfl; exact rgC_up (by walk_at "b62") (by walk_at "b62"); exact rfl; walk_at "vis"; decide; decide))
local macro_rules | `(tactic| walk_at "fn rows_of") => `(tactic| exact ok_rows_of T hl)
local macro_rules | `(tactic| walk_at "fn read_head") => `(tactic| exact ok_read_headT T hn hp hq hh)
local macro_rules | `(tactic| walk_at "at") => `(tactic| first | with_reducible assumption | exact at_nat (by decide) rfl)
theorem ok_read_trace (T : Top K mg) {n p q h : Nat} {ts : List Nat} {l : List Nat} (hn : 2 ≤ n ∧ n ≤ 7) (hp : 1 ≤ p ∧ p ≤ 50) (hq : 3 ≤ q ∧ q ≤ 32) (hh : h < p) (hasc : ts.Pairwise (· < ·)) (hle : ∀ t ∈ ts, t ≤ 1000000) (hfew : ts.length ≤ 200) (hl : l.length ≤ 90000) (hR : (rowsQ l).map (fun q => wds q.1) = traW n p q h ts) :
    Dfn P w K mg base "read_trace" ["text"] 4 [.str (S l)] (.tuple [.int n, .tuple [.int p, .int q], .int h, .list (ts.map dI)]) := by
  refine dfn T.d_read_trace sc_read_trace rfl fun f cdv A outer s H E hr => ?_
  walk_at "open"
  walk_at "st"
  generalize rowsQ l = R at hR
  unfold traW at hR
  cases R with
  | nil => cases hR
  | cons q0 rest =>
    rw [List.map_cons] at hR
    obtain ⟨e0, eR⟩ := List.cons.inj hR
    have hrl : rest.length = ts.length := by
      have := congrArg List.length eR
      rwa [List.length_map, List.length_map] at this
    have hrg : ∀ (i : Nat) (hi : i < rest.length), wds (rest[i]).1 = edW (ts.getD i 0) := fun i hi => by
      have h1 : (rest.map fun q => wds q.1)[i]? = some (wds (rest[i]).1) := by rw [List.getElem?_map, List.getElem?_eq_getElem hi]; rfl
      rw [eR, List.getElem?_map, List.getElem?_eq_getElem (show i < ts.length by omega)] at h1
      rw [List.getD_eq_getElem?_getD, List.getElem?_eq_getElem (show i < ts.length by omega)]
      exact (Option.some.inj h1).symm
    have hat0 : L2.atI ((q0 :: rest).map rowD) 0 = some (.tuple [.int (1 + ((q0.2 : Nat) : Int)), .list ((trW n p q h).map strS)]) := at_nat (by decide) (by rw [← e0]; rfl)
    refine bk_if (p := false) (Tst.to (d := !tru (.list ((q0 :: rest).map rowD))) (by walk_at "go") (by rfl)) (fun h => nomatch h) fun _ => ?_
    refine bk_nil ?_
    walk_at "asg"
    walk_at "asg"
    walk_at "mine"
    refine bk_for (P := fun i r => ∃ (a b : SV), r = [.dat (.str (S l)), .dat (.list ((q0 :: rest).map rowD)), a, b, .dat (.int n), .dat (.tuple [.int p, .int q]), .dat (.int h), .own ((ts.take i).map dI)]) (B := fun _ => False)
      (Iter.eqTo (ds := cutD ((q0 :: rest).map rowD) (some 1) none) (ds' := rest.map rowD) (by walk_at "it") (cut_from1 rowD (q0 :: rest))) ⟨_, _, rfl⟩ ?_ ?_ rfl PassesOwn.never
    · rintro i r d hd ⟨a, b, rfl⟩
      obtain ⟨qq, hqq, rfl, hi⟩ := get_map hd
      have hi' : i < rest.length := by simpa using hi
      rw [List.getElem?_eq_getElem hi'] at hqq
      cases hqq
      have hit : i < ts.length := by omega
      have hw := hrg i hi'
      have eg : ts.getD i 0 = ts[i] := by rw [List.getD_eq_getElem?_getD, List.getElem?_eq_getElem hit]; rfl
      have hz : ((ts.take i).map dI).length < sizeLine := by rw [List.length_map, List.length_take, sizeLine_eq]; omega
      rw [show rowD (rest[i]) = PyData.tuple [.int (1 + (((rest[i]).2 : Nat) : Int)), .list ((edW (ts.getD i 0)).map strS)] by rw [← hw]]
      refine ⟨_, _, by walk_at "tgt", ?_⟩
      refine bk_append (x := "signal") (i := 7) (d := dI (ts.getD i 0)) rfl (ev_borrow (ev_callF (x := "read_edge") (ps := ["line", "words", "signal"]) (j := 3) (by walk_at "go") (ok_read_edge T (by rw [eg]; exact hle _ (List.getElem_mem hit)) (by rw [List.length_take]; omega) (fun hne => by
        have hpos := List.length_pos_iff.mpr hne
        rw [List.length_take] at hpos
        rw [eg, List.getLast_eq_getElem]
        rw [List.getElem_take]
        exact List.pairwise_iff_getElem.mp hasc _ i _ hit (by rw [List.length_take]; omega))) hr (by decide) rfl (by decide) rfl rfl) rfl) hz rfl (by walk_at "vis") rfl rfl rfl rfl rfl rfl (by decide) (by decide) ?_
      exact bk_nil (bk_end ⟨_, _, by rw [take_get 0 hit, List.map_append]; rfl⟩)
    · rintro r (⟨a, b, rfl⟩ | h)
      · rw [show (rest.map rowD).length = ts.length by rw [List.length_map, hrl], List.take_length]
        refine bk_freeze (i := 7) rfl ?_
        walk_at "ret"
        rfl
      · exact h.elim
end


section
variable {P : Program} {w : World} {K : PySem.W.Frag} {mg : Str → Option Value} {base : Heap}
/-! writing a trace -/
theorem lit_trace : ("trace " : Str) = S [116, 114, 97, 99, 101, 32] := by decide +kernel
theorem lit_edge : ("edge " : Str) = S [101, 100, 103, 101, 32] := by decide +kernel
theorem f_trace (n p q h : Nat) : ("trace " : Str) ++ numS (n : Int) ++ " " ++ numS (p : Int) ++ " " ++ numS (q : Int) ++ " " ++ numS (h : Int) = S (TL.joinL [32] (trW n p q h)) := by
  rw [numS_S, numS_S, numS_S, numS_S, lit_trace, sp1, S_app, S_app, S_app, S_app, S_app, S_app, S_app]
  refine congrArg S ?_
  simp [TL.joinL]
theorem f_edge (t : Nat) : ("edge " : Str) ++ numS (t : Int) = S (TL.joinL [32] (edW t)) := by
  rw [numS_S, lit_edge, S_app]
  refine congrArg S ?_
  simp [TL.joinL]
def linesT (n p q h : Nat) (ts : List Nat) : List (List Nat) := (traW n p q h ts).map (TL.joinL [32])
theorem dg7 {n : Nat} (h : n ≤ 1000000) : (digs n).length ≤ 7 := digs_len (k := 7) (by decide) (by omega)
theorem linesT_each {n p q h : Nat} {ts : List Nat} (hn : n ≤ 7) (hp : p ≤ 50) (hq : q ≤ 32) (hh : h < p) (hle : ∀ t ∈ ts, t ≤ 1000000) : ∀ l ∈ linesT n p q h ts, l.length ≤ 100 := by
  intro l hl
  obtain ⟨ws, hws, rfl⟩ := List.mem_map.mp hl
  unfold traW at hws
  rcases List.mem_cons.mp hws with e | hws
  · rw [e]
    have h1 := dg7 (n := n) (by omega)
    have h2 := dg7 (n := p) (by omega)
    have h3 := dg7 (n := q) (by omega)
    have h4 := dg7 (n := h) (by omega)
    simp only [TL.joinL, List.length_append, List.length_cons, List.length_nil]
    omega
  · obtain ⟨t, ht, rfl⟩ := List.mem_map.mp hws
    have h1 := dg7 (hle t ht)
    simp only [TL.joinL, List.length_append, List.length_cons, List.length_nil]
    omega
theorem sum_le100 : ∀ {ls : List (List Nat)} {B : Nat}, (∀ l ∈ ls, l.length ≤ B) → ((ls.map S).map (·.length)).sum ≤ B * ls.length
  | [], B, _ => Nat.zero_le _
  | l :: ls, B, h => by
    have h1 := sum_le100 (ls := ls) (B := B) fun z hz => h z (List.mem_cons_of_mem _ hz)
    have h2 := h l List.mem_cons_self
    rw [List.map_cons, List.map_cons, List.sum_cons, List.length_cons, S_len, Nat.mul_add, Nat.mul_one]
    omega
theorem join_lines {ls : List (List Nat)} : Txt.join "\n" (ls.map S) = S (TL.joinL [10] ls) := by
  rw [nl1, SX.join_S]
section
/-! sums of texts, with bounds of their lengths -/
def SzE (X : Cx) (ρ : Envi) (e : Expr) (y : Str) (m : Nat) : Prop := Ev X ρ e (.str y) ∧ y.length ≤ m
section
variable {X : Cx} {ρ : Envi} {pos : Pos}
theorem sz_lit {y : Str} {j : Nat} : SzE X ρ (.Constant (.str y) j pos) y y.length := ⟨ev_str, Nat.le_refl _⟩
theorem sz_num {e : Expr} {i : Int} (h : Ev X ρ e (.str (numS i))) (hi : i.natAbs.log2 < 1920) : SzE X ρ e (numS i) 1921 := ⟨h, numS_len hi⟩
theorem sz_var {e : Expr} {y : Str} {m : Nat} (h : Ev X ρ e (.str y)) (hy : y.length ≤ m) : SzE X ρ e y m := ⟨h, hy⟩
theorem sz_add {a b : Expr} {y z : Str} {n m : Nat} (ha : SzE X ρ a y n) (hb : SzE X ρ b z m) (h : n + m ≤ sizeLine) : SzE X ρ (.BinOp a .Add b pos) (y ++ z) (n + m) :=
  ⟨ev_bin ha.1 hb.1 (bin_addS (Nat.le_trans (Nat.add_le_add ha.2 hb.2) h)), by rw [str_app_len]; exact Nat.add_le_add ha.2 hb.2⟩
end
theorem sl_lit {y : Str} : y.length ≤ y.length := Nat.le_refl _
theorem sl_add {y z : Str} {n m : Nat} (ha : y.length ≤ n) (hb : z.length ≤ m) : (y ++ z).length ≤ n + m := by
  rw [str_app_len]
  exact Nat.add_le_add ha hb
theorem str_assoc (a b c : Str) : a ++ b ++ c = a ++ (b ++ c) := by
  cases a; cases b; cases c
  show (⟨_ ++ _ ++ _⟩ : Str) = ⟨_ ++ (_ ++ _)⟩
  rw [Array.append_assoc]
theorem lens_nil : ∀ y ∈ ([] : List Str), y.length ≤ 10000 := fun y h => nomatch h
theorem lens_cons {y : Str} {ys : List Str} (h : y.length ≤ 10000) (hs : ∀ z ∈ ys, z.length ≤ 10000) : ∀ z ∈ y :: ys, z.length ≤ 10000 := fun z hz => by
  rcases List.mem_cons.mp hz with e | hz
  · rw [e]; exact h
  · exact hs z hz
theorem lens_sum : ∀ {ys : List Str}, (∀ y ∈ ys, y.length ≤ 10000) → (ys.map (·.length)).sum ≤ 10000 * ys.length
  | [], _ => Nat.zero_le _
  | y :: ys, h => by
    have h1 := lens_sum (ys := ys) fun z hz => h z (List.mem_cons_of_mem _ hz)
    have h2 := h y (List.mem_cons_self)
    rw [List.map_cons, List.sum_cons, List.length_cons]
    omega
theorem lens_size {ys : List Str} (h : ∀ y ∈ ys, y.length ≤ 10000) (hl : ys.length ≤ 100) : (ys.map (·.length)).sum ≤ sizeLine := by
  have := lens_sum h
  rw [sizeLine_eq]
  omega
theorem num_10k {i : Int} (h : i.natAbs.log2 < 1920) : (numS i).length ≤ 10000 := Nat.le_trans (numS_len h) (by decide)
end

local macro_rules | `(tactic| walk_at "bl") => `(tactic| ((with_reducible apply blt_strN); walk_at "log"))
local macro_rules | `(tactic| walk_at "log") => `(tactic| first | with_reducible assumption | exact log2_small (by omega))
local macro_rules | `(tactic| walk_at "lens") => `(tactic| first
  | exact lens_nil
  | (refine lens_cons ?_ ?_; (first | with_reducible assumption | decide +kernel | ((with_reducible apply num_10k); walk_at "log")); walk_at "lens"))
local macro_rules | `(tactic| walk_at "fsz") => `(tactic| (refine lens_size ?_ (Nat.le_of_ble_eq_true rfl); walk_at "lens"))
local macro_rules | `(tactic| walk_at "sl") => `(tactic| first
  | with_reducible assumption
  | ((with_reducible apply numS_len); walk_at "log")
  | ((with_reducible apply sl_add); walk_at "sl"; walk_at "sl")
  | exact sl_lit)
local macro_rules | `(tactic| walk_at "sz") => `(tactic| first
  | with_reducible exact sz_lit
  | ((with_reducible apply sz_add); walk_at "sz"; walk_at "sz"; (decide +kernel))
  | ((with_reducible apply sz_num); walk_at "go"; walk_at "log")
  | ((with_reducible apply sz_var); walk_at "go"; (first | with_reducible assumption | walk_at "sd")))
local macro_rules | `(tactic| walk_at "pcs") => `(tactic| first
  | with_reducible exact Pcs.nil
  | ((with_reducible apply Pcs.const); walk_at "pcs")
  | ((with_reducible apply Pcs.int); walk_at "go"; walk_at "log"; walk_at "pcs")
  | ((with_reducible apply Pcs.str); walk_at "go"; walk_at "sd"; walk_at "pcs"))
local macro_rules | `(tactic| walk_at "go") => `(tactic| first | ((with_reducible apply ev_fs); walk_at "pcs"; (first | walk_at "fsz" | skip)))

local macro_rules | `(tactic| walk_at "nm") => `(tactic| first | ((with_reducible apply ev_nameF (x := "limit") (i := 0)); exact rfl; exact rfl; walk_at "vis"; decide; decide) | ((with_reducible apply ev_nameF (x := "receiver") (i := 1)); exact rfl; exact rfl; walk_at "vis"; decide; decide) | ((with_reducible apply ev_nameF (x := "phase") (i := 2)); exact rfl; exact rfl; walk_at "vis"; decide; decide) | ((with_reducible apply ev_nameF (x := "signal") (i := 3)); exact rfl; exact rfl; walk_at "vis"; decide; decide) | ((with_reducible apply ev_nameF (x := "poll") (i := 4)); exact rfl; exact rfl; walk_at "vis"; decide; decide) | ((with_reducible apply ev_nameF (x := "polls_per_bit") (i := 5)); exact rfl; exact rfl; walk_at "vis"; decide; decide) | ((with_reducible apply ev_nameF (x := "head") (i := 6)); exact rfl; exact rfl; walk_at "vis"; decide; decide) | ((with_reducible apply ev_nameF (x := "time") (i := 7)); exact rfl; exact rfl; walk_at "vis"; decide; decide))
local macro_rules | `(tactic| walk_at "st") => `(tactic| first | ((with_reducible apply bk_set (x := "limit") (i := 0)); walk_at "go"; exact sc_write_trace.nd; exact rfl; walk_at "loc"; exact rfl; walk_at "loc") | ((with_reducible apply bk_set (x := "receiver") (i := 1)); walk_at "go"; exact sc_write_trace.nd; exact rfl; walk_at "loc"; exact rfl; walk_at "loc") | ((with_reducible apply bk_set (x := "phase") (i := 2)); walk_at "go"; exact sc_write_trace.nd; exact rfl; walk_at "loc"; exact rfl; walk_at "loc") | ((with_reducible apply bk_set (x := "signal") (i := 3)); walk_at "go"; exact sc_write_trace.nd; exact rfl; walk_at "loc"; exact rfl; walk_at "loc") | ((with_reducible apply bk_set (x := "poll") (i := 4)); walk_at "go"; exact sc_write_trace.nd; exact rfl; walk_at "loc"; exact rfl; walk_at "loc") | ((with_reducible apply bk_set (x := "polls_per_bit") (i := 5)); walk_at "go"; exact sc_write_trace.nd; exact rfl; walk_at "loc"; exact rfl; walk_at "loc") | ((with_reducible apply bk_set (x := "head") (i := 6)); walk_at "go"; exact sc_write_trace.nd; exact rfl; walk_at "loc"; exact rfl; walk_at "loc") | ((with_reducible apply bk_set (x := "time") (i := 7)); walk_at "go"; exact sc_write_trace.nd; exact rfl; walk_at "loc"; exact rfl; walk_at "loc") | ((with_reducible apply bk_aug (x := "limit") (i := 0)); exact rfl; walk_at "go"; walk_at "ip"; exact sc_write_trace.nd; exact rfl; walk_at "loc"; walk_at "loc") | ((with_reducible apply bk_aug (x := "receiver") (i := 1)); exact rfl; walk_at "go"; walk_at "ip"; exact sc_write_trace.nd; exact rfl; walk_at "loc"; walk_at "loc") | ((with_reducible apply bk_aug (x := "phase") (i := 2)); exact rfl; walk_at "go"; walk_at "ip"; exact sc_write_trace.nd; exact rfl; walk_at "loc"; walk_at "loc") | ((with_reducible apply bk_aug (x := "signal") (i := 3)); exact rfl; walk_at "go"; walk_at "ip"; exact sc_write_trace.nd; exact rfl; walk_at "loc"; walk_at "loc") | ((with_reducible apply bk_aug (x := "poll") (i := 4)); exact rfl; walk_at "go"; walk_at "ip"; exact sc_write_trace.nd; exact rfl; walk_at "loc"; walk_at "loc") | ((with_reducible apply bk_aug (x := "polls_per_bit") (i := 5)); exact rfl; walk_at "go"; walk_at "ip"; exact sc_write_trace.nd; exact rfl; walk_at "loc"; walk_at "loc") | ((with_reducible apply bk_aug (x := "head") (i := 6)); exact rfl; walk_at "go"; walk_at "ip"; exact sc_write_trace.nd; exact rfl; walk_at "loc"; walk_at "loc") | ((with_reducible apply bk_aug (x := "time") (i := 7)); exact rfl; walk_at "go"; walk_at "ip"; exact sc_write_trace.nd; exact rfl; walk_at "loc"; walk_at "loc"))
local macro_rules | `(tactic| walk_at "ap") => `(tactic| first | ((with_reducible apply bk_append (x := "limit") (i := 0)); exact rfl; walk_at "go"; (try walk_at "sd"); exact rfl; walk_at "vis"; exact rfl; exact rfl; exact rfl; exact rfl; exact rfl; exact rfl; decide; decide) | ((with_reducible apply bk_append (x := "receiver") (i := 1)); exact rfl; walk_at "go"; (try walk_at "sd"); exact rfl; walk_at "vis"; exact rfl; exact rfl; exact rfl; exact rfl; exact rfl; exact rfl; decide; decide) | ((with_reducible apply bk_append (x := "phase") (i := 2)); exact rfl; walk_at "go"; (try walk_at "sd"); exact rfl; walk_at "vis"; exact rfl; exact rfl; exact rfl; exact rfl; exact rfl; exact rfl; decide; decide) | ((with_reducible apply bk_append (x := "signal") (i := 3)); exact rfl; walk_at "go"; (try walk_at "sd"); exact rfl; walk_at "vis"; exact rfl; exact rfl; exact rfl; exact rfl; exact rfl; exact rfl; decide; decide) | ((with_reducible apply bk_append (x := "poll") (i := 4)); exact rfl; walk_at "go"; (try walk_at "sd"); exact rfl; walk_at "vis"; exact rfl; exact rfl; exact rfl; exact rfl; exact rfl; exact rfl; decide; decide) | ((with_reducible apply bk_append (x := "polls_per_bit") (i := 5)); exact rfl; walk_at "go"; (try walk_at "sd"); exact rfl; walk_at "vis"; exact rfl; exact rfl; exact rfl; exact rfl; exact rfl; exact rfl; decide; decide) | ((with_reducible apply bk_append (x := "head") (i := 6)); exact rfl; walk_at "go"; (try walk_at "sd"); exact rfl; walk_at "vis"; exact rfl; exact rfl; exact rfl; exact rfl; exact rfl; exact rfl; decide; decide) | ((with_reducible apply bk_append (x := "time") (i := 7)); exact rfl; walk_at "go"; (try walk_at "sd"); exact rfl; walk_at "vis"; exact rfl; exact rfl; exact rfl; exact rfl; exact rfl; exact rfl; decide; decide))
local macro_rules | `(tactic| walk_at "mine") => `(tactic| first | ((with_reducible apply bk_own (x := "limit") (i := 0)); walk_at "fresh"; exact sc_write_trace.nd; exact rfl; walk_at "loc"; exact (by simp [env0]); exact rfl; walk_at "loc") | ((with_reducible apply bk_own (x := "receiver") (i := 1)); walk_at "fresh"; exact sc_write_trace.nd; exact rfl; walk_at "loc"; exact (by simp [env0]); exact rfl; walk_at "loc") | ((with_reducible apply bk_own (x := "phase") (i := 2)); walk_at "fresh"; exact sc_write_trace.nd; exact rfl; walk_at "loc"; exact (by simp [env0]); exact rfl; walk_at "loc") | ((with_reducible apply bk_own (x := "signal") (i := 3)); walk_at "fresh"; exact sc_write_trace.nd; exact rfl; walk_at "loc"; exact (by simp [env0]); exact rfl; walk_at "loc") | ((with_reducible apply bk_own (x := "poll") (i := 4)); walk_at "fresh"; exact sc_write_trace.nd; exact rfl; walk_at "loc"; exact (by simp [env0]); exact rfl; walk_at "loc") | ((with_reducible apply bk_own (x := "polls_per_bit") (i := 5)); walk_at "fresh"; exact sc_write_trace.nd; exact rfl; walk_at "loc"; exact (by simp [env0]); exact rfl; walk_at "loc") | ((with_reducible apply bk_own (x := "head") (i := 6)); walk_at "fresh"; exact sc_write_trace.nd; exact rfl; walk_at "loc"; exact (by simp [env0]); exact rfl; walk_at "loc") | ((with_reducible apply bk_own (x := "time") (i := 7)); walk_at "fresh"; exact sc_write_trace.nd; exact rfl; walk_at "loc"; exact (by simp [env0]); exact rfl; walk_at "loc"))
local macro_rules | `(tactic| walk_at "augl") => `(tactic| first | ((with_reducible apply bk_augL (x := "limit") (i := 0)); exact rfl; walk_at "go"; (try walk_at "sd"); exact sc_write_trace.nd; exact rfl; walk_at "loc"; walk_at "loc") | ((with_reducible apply bk_augL (x := "receiver") (i := 1)); exact rfl; walk_at "go"; (try walk_at "sd"); exact sc_write_trace.nd; exact rfl; walk_at "loc"; walk_at "loc") | ((with_reducible apply bk_augL (x := "phase") (i := 2)); exact rfl; walk_at "go"; (try walk_at "sd"); exact sc_write_trace.nd; exact rfl; walk_at "loc"; walk_at "loc") | ((with_reducible apply bk_augL (x := "signal") (i := 3)); exact rfl; walk_at "go"; (try walk_at "sd"); exact sc_write_trace.nd; exact rfl; walk_at "loc"; walk_at "loc") | ((with_reducible apply bk_augL (x := "poll") (i := 4)); exact rfl; walk_at "go"; (try walk_at "sd"); exact sc_write_trace.nd; exact rfl; walk_at "loc"; walk_at "loc") | ((with_reducible apply bk_augL (x := "polls_per_bit") (i := 5)); exact rfl; walk_at "go"; (try walk_at "sd"); exact sc_write_trace.nd; exact rfl; walk_at "loc"; walk_at "loc") | ((with_reducible apply bk_augL (x := "head") (i := 6)); exact rfl; walk_at "go"; (try walk_at "sd"); exact sc_write_trace.nd; exact rfl; walk_at "loc"; walk_at "loc") | ((with_reducible apply bk_augL (x := "time") (i := 7)); exact rfl; walk_at "go"; (try walk_at "sd"); exact sc_write_trace.nd; exact rfl; walk_at "loc"; walk_at "loc"))
local macro_rules | `(tactic| walk_at "sto") => `(tactic| first | ((with_reducible apply bk_sto (x := "limit") (i := 0)); exact rfl; walk_at "go"; walk_at "go"; (first | (apply ixN_at; walk_at "sd") | skip); exact rfl; walk_at "vis"; (exact fun _ => rfl); exact rfl; exact rfl; exact rfl; decide; decide) | ((with_reducible apply bk_sto (x := "receiver") (i := 1)); exact rfl; walk_at "go"; walk_at "go"; (first | (apply ixN_at; walk_at "sd") | skip); exact rfl; walk_at "vis"; (exact fun _ => rfl); exact rfl; exact rfl; exact rfl; decide; decide) | ((with_reducible apply bk_sto (x := "phase") (i := 2)); exact rfl; walk_at "go"; walk_at "go"; (first | (apply ixN_at; walk_at "sd") | skip); exact rfl; walk_at "vis"; (exact fun _ => rfl); exact rfl; exact rfl; exact rfl; decide; decide) | ((with_reducible apply bk_sto (x := "signal") (i := 3)); exact rfl; walk_at "go"; walk_at "go"; (first | (apply ixN_at; walk_at "sd") | skip); exact rfl; walk_at "vis"; (exact fun _ => rfl); exact rfl; exact rfl; exact rfl; decide; decide) | ((with_reducible apply bk_sto (x := "poll") (i := 4)); exact rfl; walk_at "go"; walk_at "go"; (first | (apply ixN_at; walk_at "sd") | skip); exact rfl; walk_at "vis"; (exact fun _ => rfl); exact rfl; exact rfl; exact rfl; decide; decide) | ((with_reducible apply bk_sto (x := "polls_per_bit") (i := 5)); exact rfl; walk_at "go"; walk_at "go"; (first | (apply ixN_at; walk_at "sd") | skip); exact rfl; walk_at "vis"; (exact fun _ => rfl); exact rfl; exact rfl; exact rfl; decide; decide) | ((with_reducible apply bk_sto (x := "head") (i := 6)); exact rfl; walk_at "go"; walk_at "go"; (first | (apply ixN_at; walk_at "sd") | skip); exact rfl; walk_at "vis"; (exact fun _ => rfl); exact rfl; exact rfl; exact rfl; decide; decide) | ((with_reducible apply bk_sto (x := "time") (i := 7)); exact rfl; walk_at "go"; walk_at "go"; (first | (apply ixN_at; walk_at "sd") | skip); exact rfl; walk_at "vis"; (exact fun _ => rfl); exact rfl; exact rfl; exact rfl; decide; decide))
local macro_rules | `(tactic| walk_at "own") => `(tactic| first | ((with_reducible apply ev_ixOwnF (x := "limit") (i := 0)); exact rfl; walk_at "go"; (first | walk_at "at" | skip); exact rfl; walk_at "vis"; (exact fun _ _ => rfl); decide; decide) | ((with_reducible apply ev_ixOwnF (x := "receiver") (i := 1)); exact rfl; walk_at "go"; (first | walk_at "at" | skip); exact rfl; walk_at "vis"; (exact fun _ _ => rfl); decide; decide) | ((with_reducible apply ev_ixOwnF (x := "phase") (i := 2)); exact rfl; walk_at "go"; (first | walk_at "at" | skip); exact rfl; walk_at "vis"; (exact fun _ _ => rfl); decide; decide) | ((with_reducible apply ev_ixOwnF (x := "signal") (i := 3)); exact rfl; walk_at "go"; (first | walk_at "at" | skip); exact rfl; walk_at "vis"; (exact fun _ _ => rfl); decide; decide) | ((with_reducible apply ev_ixOwnF (x := "poll") (i := 4)); exact rfl; walk_at "go"; (first | walk_at "at" | skip); exact rfl; walk_at "vis"; (exact fun _ _ => rfl); decide; decide) | ((with_reducible apply ev_ixOwnF (x := "polls_per_bit") (i := 5)); exact rfl; walk_at "go"; (first | walk_at "at" | skip); exact rfl; walk_at "vis"; (exact fun _ _ => rfl); decide; decide) | ((with_reducible apply ev_ixOwnF (x := "head") (i := 6)); exact rfl; walk_at "go"; (first | walk_at "at" | skip); exact rfl; walk_at "vis"; (exact fun _ _ => rfl); decide; decide) | ((with_reducible apply ev_ixOwnF (x := "time") (i := 7)); exact rfl; walk_at "go"; (first | walk_at "at" | skip); exact rfl; walk_at "vis"; (exact fun _ _ => rfl); decide; decide))
local macro_rules | `(tactic| walk_at "tg") => `(tactic| first | ((with_reducible apply tg_name (x := "limit") (i := 0)); exact sc_write_trace.nd; exact rfl; walk_at "loc"; walk_at "loc") | ((with_reducible apply tg_name (x := "receiver") (i := 1)); exact sc_write_trace.nd; exact rfl; walk_at "loc"; walk_at "loc") | ((with_reducible apply tg_name (x := "phase") (i := 2)); exact sc_write_trace.nd; exact rfl; walk_at "loc"; walk_at "loc") | ((with_reducible apply tg_name (x := "signal") (i := 3)); exact sc_write_trace.nd; exact rfl; walk_at "loc"; walk_at "loc") | ((with_reducible apply tg_name (x := "poll") (i := 4)); exact sc_write_trace.nd; exact rfl; walk_at "loc"; walk_at "loc") | ((with_reducible apply tg_name (x := "polls_per_bit") (i := 5)); exact sc_write_trace.nd; exact rfl; walk_at "loc"; walk_at "loc") | ((with_reducible apply tg_name (x := "head") (i := 6)); exact sc_write_trace.nd; exact rfl; walk_at "loc"; walk_at "loc") | ((with_reducible apply tg_name (x := "time") (i := 7)); exact sc_write_trace.nd; exact rfl; walk_at "loc"; walk_at "loc"))
local macro_rules | `(tactic| walk_at "rng") => `(tactic| first | ((with_reducible apply bk_rng2 (x := "limit") (k := 0)); walk_at "go"; walk_at "go"; exact sc_write_trace.nd; exact rfl; walk_at "loc"; exact (by simp [env0]); exact rfl; walk_at "loc"; exact rfl; exact T.z_range; exact rfl; exact rfl; exact rfl) | ((with_reducible apply bk_rng2 (x := "receiver") (k := 1)); walk_at "go"; walk_at "go"; exact sc_write_trace.nd; exact rfl; walk_at "loc"; exact (by simp [env0]); exact rfl; walk_at "loc"; exact rfl; exact T.z_range; exact rfl; exact rfl; exact rfl) | ((with_reducible apply bk_rng2 (x := "phase") (k := 2)); walk_at "go"; walk_at "go"; exact sc_write_trace.nd; exact rfl; walk_at "loc"; exact (by simp [env0]); exact rfl; walk_at "loc"; exact rfl; exact T.z_range; exact rfl; exact rfl; exact rfl) | ((with_reducible apply bk_rng2 (x := "signal") (k := 3)); walk_at "go"; walk_at "go"; exact sc_write_trace.nd; exact rfl; walk_at "loc"; exact (by simp [env0]); exact rfl; walk_at "loc"; exact rfl; exact T.z_range; exact rfl; exact rfl; exact rfl) | ((with_reducible apply bk_rng2 (x := "poll") (k := 4)); walk_at "go"; walk_at "go"; exact sc_write_trace.nd; exact rfl; walk_at "loc"; exact (by simp [env0]); exact rfl; walk_at "loc"; exact rfl; exact T.z_range; exact rfl; exact rfl; exact rfl) | ((with_reducible apply bk_rng2 (x := "polls_per_bit") (k := 5)); walk_at "go"; walk_at "go"; exact sc_write_trace.nd; exact rfl; walk_at "loc"; exact (by simp [env0]); exact rfl; walk_at "loc"; exact rfl; exact T.z_range; exact rfl; exact rfl; exact rfl) | ((with_reducible apply bk_rng2 (x := "head") (k := 6)); walk_at "go"; walk_at "go"; exact sc_write_trace.nd; exact rfl; walk_at "loc"; exact (by simp [env0]); exact rfl; walk_at "loc"; exact rfl; exact T.z_range; exact rfl; exact rfl; exact rfl) | ((with_reducible apply bk_rng2 (x := "time") (k := 7)); walk_at "go"; walk_at "go"; exact sc_write_trace.nd; exact rfl; walk_at "loc"; exact (by simp [env0]); exact rfl; walk_at "loc"; exact rfl; exact T.z_range; exact rfl; exact rfl; exact rfl))
local macro_rules | `(tactic| walk_at "itr") => `(tactic| first | ((with_reducible apply iter_rngS (y := "limit") (k := 0)); exact rfl; exact rgC_up (by walk_at "b62") (by walk_at "b62"); exact rfl; walk_at "vis"; decide; decide) | ((with_reducible apply iter_rngS (y := "receiver") (k := 1)); exact rfl; exact rgC_up (by walk_at "b62") (by walk_at "b62"); exact rfl; walk_at "vis"; decide; decide) | ((with_reducible apply iter_rngS (y := "phase") (k := 2)); exact rfl; exact rgC_up (by walk_at "b62") (by walk_at "b62"); exact rfl; walk_at "vis"; decide; decide) | ((with_reducible apply iter_rngS (y := "signal") (k := 3)); exact rfl; exact rgC_up (by walk_at "b62") (by walk_at "b62"); exact rfl; walk_at "vis"; decide; decide) | ((with_reducible apply iter_rngS (y := "poll") (k := 4)); exact rfl; exact rgC_up (by walk_at "b62") (by walk_at "b62"); exact rfl; walk_at "vis"; decide; decide) | ((with_reducible apply iter_rngS (y := "polls_per_bit") (k := 5)); exact rfl; exact rgC_up (by walk_at "b62") (by walk_at "b62"); exact rfl; walk_at "vis"; decide; decide) | ((with_reducible apply iter_rngS (y := "head") (k := 6)); exact rfl; exact rgC_up (by walk_at "b62") (by walk_at "b62"); exact rfl; walk_at "vis"; decide; decide) | ((with_reducible apply iter_rngS (y := "time") (k := 7)); exact rfl; exact rgC_up (by walk_at "b62") (by walk_at "b62"); exact rfl; walk_at "vis"; decide; decide))
local macro_rules | `(tactic| walk_at "lcl") => `(tactic| first | ((with_reducible apply evl_lc0 (own := [("time", 7)])); exact rfl; exact sc_write_trace.nd; exact blkOk_by (N := N_write_trace) (sc := defScope s_write_trace) (by decide +kernel); walk_at "it"; (intro x hx s H C cl fp; walk_at "tgt"); (intro _ _ _ hi; first | (simpa using hi) | (simp at hi ⊢; omega)); (intro x hx s H C cl fp; walk_at "go"); (try walk_at "sd"); (intro _; exact rfl)) | ((with_reducible apply evl_lc1 (own := [("time", 7)])); exact rfl; exact sc_write_trace.nd; exact blkOk_by (N := N_write_trace) (sc := defScope s_write_trace) (by decide +kernel); walk_at "it"; (intro x hx s H C cl fp; walk_at "tgt"); (intro _ _ _ hi; first | (simpa using hi) | (simp at hi ⊢; omega)); (intro x hx s H C cl fp; walk_at "go"); (intro x hx hcx s H C cl fp; walk_at "go"); (try walk_at "sd"); (intro _; exact rfl)))
local macro_rules | `(tactic| walk_at "lc") => `(tactic| ((with_reducible apply ev_lcOf); walk_at "lcl"))
local macro_rules | `(tactic| walk_at "lcs") => `(tactic| first | ((with_reducible apply bk_lc0 (y := "limit") (i := 0) (own := [("time", 7)])); exact rfl; exact sc_write_trace.nd; exact rfl; exact rfl; exact sw_true rfl rfl rfl (by decide +kernel); exact blkOk_by (N := N_write_trace) (sc := defScope s_write_trace) (by decide +kernel); walk_at "it"; (intro x hx s H C cl fp; walk_at "tgt"); (intro _ _ _ hi; first | (simpa using hi) | (simp at hi ⊢; omega)); (intro x hx s H C cl fp; walk_at "go"); (try walk_at "sd"); exact (by simp [env0]); (intro _; exact rfl)) | ((with_reducible apply bk_lc1 (y := "limit") (i := 0) (own := [("time", 7)])); exact rfl; exact sc_write_trace.nd; exact rfl; exact rfl; exact sw_true rfl rfl rfl (by decide +kernel); exact blkOk_by (N := N_write_trace) (sc := defScope s_write_trace) (by decide +kernel); walk_at "it"; (intro x hx s H C cl fp; walk_at "tgt"); (intro _ _ _ hi; first | (simpa using hi) | (simp at hi ⊢; omega)); (intro x hx s H C cl fp; walk_at "go"); (intro x hx hcx s H C cl fp; walk_at "go"); (try walk_at "sd"); exact (by simp [env0]); (intro _; exact rfl)) | ((with_reducible apply bk_lc0 (y := "receiver") (i := 1) (own := [("time", 7)])); exact rfl; exact sc_write_trace.nd; exact rfl; exact rfl; exact sw_true rfl rfl rfl (by decide +kernel); exact blkOk_by (N := N_write_trace) (sc := defScope s_write_trace) (by decide +kernel); walk_at "it"; (intro x hx s H C cl fp; walk_at "tgt"); (intro _ _ _ hi; first | (simpa using hi) | (simp at hi ⊢; omega)); (intro x hx s H C cl fp; walk_at "go"); (try walk_at "sd"); exact (by simp [env0]); (intro _; exact rfl)) | ((with_reducible apply bk_lc1 (y := "receiver") (i := 1) (own := [("time", 7)])); exact rfl; exact sc_write_trace.nd; exact rfl; exact rfl; exact sw_true rfl rfl rfl (by decide +kernel); exact blkOk_by (N := N_write_trace) (sc := defScope s_write_trace) (by decide +kernel); walk_at "it"; (intro x hx s H C cl fp; walk_at "tgt"); (intro _ _ _ hi; first | (simpa using hi) | (simp at hi ⊢; omega)); (intro x hx s H C cl fp; walk_at "go"); (intro x hx hcx s H C cl fp; walk_at "go"); (try walk_at "sd"); exact (by simp [env0]); (intro _; exact rfl)) | ((with_reducible apply bk_lc0 (y := "phase") (i := 2) (own := [("time", 7)])); exact rfl; exact sc_write_trace.nd; exact rfl; exact rfl; exact sw_true rfl rfl rfl (by decide +kernel); exact blkOk_by (N := N_write_trace) (sc := defScope s_write_trace) (by decide +kernel); walk_at "it"; (intro x hx s H C cl fp; walk_at "tgt"); (intro _ _ _ hi; first | (simpa using hi) | (simp at hi ⊢; omega)); (intro x hx s H C cl fp; walk_at "go"); (try walk_at "sd"); exact (by simp [env0]); (intro _; exact rfl)) | ((with_reducible apply bk_lc1 (y := "phase") (i := 2) (own := [("time", 7)])); exact rfl; exact sc_write_trace.nd; exact rfl; exact rfl; exact sw_true rfl rfl rfl (by decide +kernel); exact blkOk_by (N := N_write_trace) (sc := defScope s_write_trace) (by decide +kernel); walk_at "it"; (intro x hx s H C cl fp; walk_at "tgt"); (intro _ _ _ hi; first | (simpa using hi) | (simp at hi ⊢; omega)); (intro x hx s H C cl fp; walk_at "go"); (intro x hx hcx s H C cl fp; walk_at "go"); (try walk_at "sd"); exact (by simp [env0]); (intro _; exact rfl)) | ((with_reducible apply bk_lc0 (y := "signal") (i := 3) (own := [("time", 7)])); exact rfl; exact sc_write_trace.nd; exact rfl; exact rfl; exact sw_true rfl rfl rfl (by decide +kernel); exact blkOk_by (N := N_write_trace) (sc := defScope s_write_trace) (by decide +kernel); walk_at "it"; (intro x hx s H C cl fp; walk_at "tgt"); (intro _ _ _ hi; first | (simpa using hi) | (simp at hi ⊢; omega)); (intro x hx s H C cl fp; walk_at "go"); (try walk_at "sd"); exact (by simp [env0]); (intro _; exact rfl)) | ((with_reducible apply bk_lc1 (y := "signal") (i := 3) (own := [("time", 7)])); exact rfl; exact sc_write_trace.nd; exact rfl; exact rfl; exact sw_true rfl rfl rfl (by decide +kernel); exact blkOk_by (N := N_write_trace) (sc := defScope s_write_trace) (by decide +kernel); walk_at "it"; (intro x hx s H C cl fp; walk_at "tgt"); (intro _ _ _ hi; first | (simpa using hi) | (simp at hi ⊢; omega)); (intro x hx s H C cl fp; walk_at "go"); (intro x hx hcx s H C cl fp; walk_at "go"); (try walk_at "sd"); exact (by simp [env0]); (intro _; exact rfl)) | ((with_reducible apply bk_lc0 (y := "poll") (i := 4) (own := [("time", 7)])); exact rfl; exact sc_write_trace.nd; exact rfl; exact rfl; exact sw_true rfl rfl rfl (by decide +kernel); exact blkOk_by (N := N_write_trace) (sc := defScope s_write_trace) (by decide +kernel); walk_at "it"; (intro x hx s H C cl fp; walk_at "tgt"); (intro _ _ _ hi; first | (simpa using hi) | (simp at hi ⊢; omega)); (intro x hx s H C cl fp; walk_at "go"); (try walk_at "sd"); exact (by simp [env0]); (intro _; exact rfl)) | ((with_reducible apply bk_lc1 (y := "poll") (i := 4) (own := [("time", 7)])); exact rfl; exact sc_write_trace.nd; exact rfl; exact rfl; exact sw_true rfl rfl rfl (by decide +kernel); exact blkOk_by (N := N_write_trace) (sc := defScope s_write_trace) (by decide +kernel); walk_at "it"; (intro x hx s H C cl fp; walk_at "tgt"); (intro _ _ _ hi; first | (simpa using hi) | (simp at hi ⊢; omega)); (intro x hx s H C cl fp; walk_at "go"); (intro x hx hcx s H C cl fp; walk_at "go"); (try walk_at "sd"); exact (by simp [env0]); (intro _; exact rfl)) | ((with_reducible apply bk_lc0 (y := "polls_per_bit") (i := 5) (own := [("time", 7)])); exact rfl; exact sc_write_trace.nd; exact rfl; exact rfl; exact sw_true rfl rfl rfl (by decide +kernel); exact blkOk_by (N := N_write_trace) (sc := defScope s_write_trace) (by decide +kernel); walk_at "it"; (intro x hx s H C cl fp; walk_at "tgt"); (intro _ _ _ hi; first | (simpa using hi) | (simp at hi ⊢; omega)); (intro x hx s H C cl fp; walk_at "go"); (try walk_at "sd"); exact (by simp [env0]); (intro _; exact rfl)) | ((with_reducible apply bk_lc1 (y := "polls_per_bit") (i := 5) (own := [("time", 7)])); exact rfl; exact sc_write_trace.nd; exact rfl; exact rfl; exact sw_true rfl rfl rfl (by decide +kernel); exact blkOk_by (N := N_write_trace) (sc := defScope s_write_trace) (by decide +kernel); walk_at "it"; (intro x hx s H C cl fp; walk_at "tgt"); (intro _ _ _ hi; first | (simpa using hi) | (simp at hi ⊢; omega)); (intro x hx s H C cl fp; walk_at "go"); (intro x hx hcx s H C cl fp; walk_at "go"); (try walk_at "sd"); exact (by simp [env0]); (intro _; exact rfl)) | ((with_reducible apply bk_lc0 (y := "head") (i := 6) (own := [("time", 7)])); exact rfl; exact sc_write_trace.nd; exact rfl; exact rfl; exact sw_true rfl rfl rfl (by decide +kernel); exact blkOk_by (N := N_write_trace) (sc := defScope s_write_trace) (by decide +kernel); walk_at "it"; (intro x hx s H C cl fp; walk_at "tgt"); (intro _ _ _ hi; first | (simpa using hi) | (simp at hi ⊢; omega)); (intro x hx s H C cl fp; walk_at "go"); (try walk_at "sd"); exact (by simp [env0]); (intro _; exact rfl)) | ((with_reducible apply bk_lc1 (y := "head") (i := 6) (own := [("time", 7)])); exact rfl; exact sc_write_trace.nd; exact rfl; exact rfl; exact sw_true rfl rfl rfl (by decide +kernel); exact blkOk_by (N := N_write_trace) (sc := defScope s_write_trace) (by decide +kernel); walk_at "it"; (intro x hx s H C cl fp; walk_at "tgt"); (intro _ _ _ hi; first | (simpa using hi) | (simp at hi ⊢; omega)); (intro x hx s H C cl fp; walk_at "go"); (intro x hx hcx s H C cl fp; walk_at "go"); (try walk_at "sd"); exact (by simp [env0]); (intro _; exact rfl)) | ((with_reducible apply bk_lc0 (y := "time") (i := 7) (own := [("time", 7)])); exact rfl; exact sc_write_trace.nd; exact rfl; exact rfl; exact sw_true rfl rfl rfl (by decide +kernel); exact blkOk_by (N := N_write_trace) (sc := defScope s_write_trace) (by decide +kernel); walk_at "it"; (intro x hx s H C cl fp; walk_at "tgt"); (intro _ _ _ hi; first | (simpa using hi) | (simp at hi ⊢; omega)); (intro x hx s H C cl fp; walk_at "go"); (try walk_at "sd"); exact (by simp [env0]); (intro _; exact rfl)) | ((with_reducible apply bk_lc1 (y := "time") (i := 7) (own := [("time", 7)])); exact rfl; exact sc_write_trace.nd; exact rfl; exact rfl; exact sw_true rfl rfl rfl (by decide +kernel); exact blkOk_by (N := N_write_trace) (sc := defScope s_write_trace) (by decide +kernel); walk_at "it"; (intro x hx s H C cl fp; walk_at "tgt"); (intro _ _ _ hi; first | (simpa using hi) | (simp at hi ⊢; omega)); (intro x hx s H C cl fp; walk_at "go"); (intro x hx hcx s H C cl fp; walk_at "go"); (try walk_at "sd"); exact (by simp [env0]); (intro _; exact rfl)))
local macro_rules | `(tactic| walk_at "log") => `(tactic| first | with_reducible assumption | exact log2_small (by have := hle _ (by assumption); omega))
theorem ok_write_trace (T : Top K mg) {n p q h : Nat} {ts : List Nat} (hn : 2 ≤ n ∧ n ≤ 7) (hp : 1 ≤ p ∧ p ≤ 50) (hq : 3 ≤ q ∧ q ≤ 32) (hh : h < p) (hle : ∀ t : Nat, t ∈ ts → t ≤ 1000000) (hfew : ts.length ≤ 200) :
    Dfn P w K mg base "write_trace" ["limit", "receiver", "phase", "signal"] 1 [.int n, .tuple [.int p, .int q], .int h, .list (ts.map dI)] (.str (S (TL.joinL [10] (linesT n p q h ts)))) := by
  have g1 : ((n : Nat) : Int).natAbs.log2 < 1920 := log2_small (by omega)
  have g2 : ((p : Nat) : Int).natAbs.log2 < 1920 := log2_small (by omega)
  have g3 : ((q : Nat) : Int).natAbs.log2 < 1920 := log2_small (by omega)
  have g4 : ((h : Nat) : Int).natAbs.log2 < 1920 := log2_small (by omega)
  have hsz : ts.length ≤ sizeLine := by rw [sizeLine_eq]; omega
  have hll : (linesT n p q h ts).length = ts.length + 1 := by unfold linesT traW; simp
  have hle1 := linesT_each (n := n) (q := q) hn.2 hp.2 hq.2 hh hle
  refine dfn T.d_write_trace sc_write_trace rfl fun f cdv A outer s H E hr => ?_
  walk_at "open"
  walk_at "asg"
  refine bk_set (i := 6) (d := .str (S (TL.joinL [32] (trW n p q h)))) (Ev.to (d := .str (catS ["trace ", numS (n : Int), " ", numS (p : Int), " ", numS (q : Int), " ", numS (h : Int)])) (by walk_at "go") (by
    unfold catS
    simp only [List.foldl_cons, List.foldl_nil, S_empty]
    rw [f_trace])) sc_write_trace.nd rfl (by walk_at "loc") rfl (by walk_at "loc") ?_
  refine bk_ret (d := .str (Txt.join "\n" ((linesT n p q h ts).map S))) (ev_mF (x := "join") (ev_str (x := "\n")) (evs_cons (Ev.to (d := .list ([strS (TL.joinL [32] (trW n p q h))] ++ ts.map fun t => PyData.str (catS ["edge ", numS ((t : Nat) : Int)]))) (ev_ofL (evl_catY (evy_ofX (evx_ofL (evl_lst (evs_cons (by walk_at "go") evs_nil) (by show 1 ≤ sizeLine; decide)))) (evy_of (by walk_at "go")) (by rw [sizeLine_eq, List.length_map, List.length_singleton]; omega))) (by
    unfold linesT traW
    rw [List.map_cons, List.map_cons, List.map_cons, List.map_map, List.map_map, List.map_map]
    refine congrArg (fun l => PyData.list (strS (TL.joinL [32] (trW n p q h)) :: l)) (List.map_congr_left fun t _ => ?_)
    show PyData.str (catS ["edge ", numS ((t : Nat) : Int)]) = strS (TL.joinL [32] (edW t))
    unfold catS
    simp only [List.foldl_cons, List.foldl_nil, S_empty]
    rw [f_edge])) evs_nil) (mth_join ?_) rfl rfl rfl rfl rfl) ?_
  · have h1 := sum_le100 hle1
    rw [List.length_map, hll]
    rw [hll] at h1
    have : ("\n" : Str).length = 1 := by decide +kernel
    rw [this]
    omega
  · rw [join_lines]
    rfl
end


section
variable {P : Program} {w : World} {K : PySem.W.Frag} {mg : Str → Option Value} {base : Heap}
/-! what the rows of a text tell, and of the same text with more spaces and empty lines -/
theorem joinL_free {c : Nat} {s : List Nat} (hs : c ∉ s) : ∀ {parts : List (List Nat)}, (∀ p ∈ parts, c ∉ p) → c ∉ TL.joinL s parts
  | [], _ => by simp [TL.joinL]
  | [p], h => by
    show c ∉ p
    exact h p List.mem_cons_self
  | p :: q :: r, h => by
    show c ∉ p ++ (s ++ TL.joinL s (q :: r))
    have h1 := joinL_free (parts := q :: r) hs fun z hz => h z (List.mem_cons_of_mem _ hz)
    have h2 := h p List.mem_cons_self
    simp only [List.mem_append, not_or]
    exact ⟨h2, hs, h1⟩
theorem rows_wds (l : List Nat) : (rowsQ l).map (fun q => wds q.1) = ((cutC 10 [] l).map wds).filter fun ws => !ws.isEmpty := by
  unfold rowsQ
  rw [List.filter_map]
  have : ∀ (L : List (List Nat)) (k : Nat), ((L.zipIdx k).filter fun q => !(wds q.1).isEmpty).map (fun q => wds q.1) = (L.filter ((fun ws => !ws.isEmpty) ∘ wds)).map wds := by
    intro L
    induction L with
    | nil => exact fun _ => rfl
    | cons a r ih =>
      intro k
      rw [List.zipIdx_cons, List.filter_cons, List.filter_cons]
      show (if (!(wds a).isEmpty) = true then _ else _ : List (List Nat × Nat)).map _ = (if (!(wds a).isEmpty) = true then _ else _ : List (List Nat)).map _
      split
      · rw [List.map_cons, List.map_cons, ih (k + 1)]
      · exact ih (k + 1)
  exact this _ _
/-- words that stand in lines -/
def WordsOk (A : List (List (List Nat))) : Prop := ∀ ws ∈ A, ws ≠ [] ∧ ∀ p ∈ ws, 32 ∉ p ∧ p ≠ [] ∧ 10 ∉ p
theorem WordsOk.line_free {A : List (List (List Nat))} (h : WordsOk A) : ∀ l ∈ A.map (TL.joinL [32]), 10 ∉ l := by
  intro l hl
  obtain ⟨ws, hws, rfl⟩ := List.mem_map.mp hl
  exact joinL_free (by decide) fun p hp => ((h ws hws).2 p hp).2.2
theorem WordsOk.line_wds {A : List (List (List Nat))} (h : WordsOk A) : (A.map (TL.joinL [32])).map wds = A := by
  rw [List.map_map]
  conv => rhs; rw [← List.map_id A]
  refine List.map_congr_left fun ws hws => ?_
  exact wds_join (h ws hws).1 fun p hp => ⟨((h ws hws).2 p hp).1, ((h ws hws).2 p hp).2.1⟩
theorem WordsOk.keep {A : List (List (List Nat))} (h : WordsOk A) : A.filter (fun ws => !ws.isEmpty) = A := List.filter_eq_self.mpr fun ws hws => by
  have := (h ws hws).1
  cases ws with
  | nil => exact absurd rfl this
  | cons a l => rfl
theorem WordsOk.plain {A : List (List (List Nat))} (h : WordsOk A) (hne : A ≠ []) : (rowsQ (TL.joinL [10] (A.map (TL.joinL [32])))).map (fun q => wds q.1) = A := by
  rw [rows_wds, cut_join (by simpa using hne) h.line_free, h.line_wds, h.keep]
def wdG (b : Nat → List Nat) (g : List Nat → Nat → List Nat) (c : Int) (ls : List (List Nat)) (k : Nat) : List (List Nat) := (List.range k).flatMap fun (i : Nat) => (if c / ((i : Int) + 1) % 3 = 0 then [b i] else []) ++ [g (ls.getD i []) i]
section
variable {b : Nat → List Nat} {g : List Nat → Nat → List Nat}
theorem wdG_succ (c : Int) (ls : List (List Nat)) (k : Nat) : wdG b g c ls (k + 1) = wdG b g c ls k ++ ((if c / ((k : Int) + 1) % 3 = 0 then [b k] else []) ++ [g (ls.getD k []) k]) := by
  unfold wdG
  rw [List.range_succ, List.flatMap_append]
  simp
theorem wdG_len (c : Int) (ls : List (List Nat)) : ∀ k, (wdG b g c ls k).length ≤ 2 * k
  | 0 => Nat.zero_le _
  | k + 1 => by
    have := wdG_len c ls k
    rw [wdG_succ, List.length_append, List.length_append]
    split <;> simp only [List.length_cons, List.length_nil] <;> omega
theorem wdG_wds (hb : ∀ i, wds (b i) = []) (hg : ∀ l i, wds (g l i) = wds l) (c : Int) (ls : List (List Nat)) : ∀ k, k ≤ ls.length → ((wdG b g c ls k).map wds).filter (fun ws => !ws.isEmpty) = ((ls.take k).map wds).filter fun ws => !ws.isEmpty
  | 0, _ => rfl
  | k + 1, h => by
    rw [wdG_succ, take_get [] (show k < ls.length by omega), List.map_append, List.map_append, List.map_append, List.filter_append, List.filter_append, List.filter_append, wdG_wds hb hg c ls k (by omega)]
    congr 1
    have e1 : (List.map wds (if c / ((k : Int) + 1) % 3 = 0 then [b k] else [])).filter (fun ws => !ws.isEmpty) = [] := by
      split
      · show List.filter _ [wds (b k)] = []
        rw [hb]
        rfl
      · rfl
    rw [e1, List.nil_append]
    show List.filter _ [wds (g (ls.getD k []) k)] = List.filter _ [wds (ls.getD k [])]
    rw [hg]
theorem wdG_free (hb : ∀ i, 10 ∉ b i) (hg : ∀ l i, 10 ∉ l → 10 ∉ g l i) (c : Int) (ls : List (List Nat)) (k : Nat) (hls : ∀ l ∈ ls, 10 ∉ l) : ∀ l ∈ wdG b g c ls k, 10 ∉ l := by
  intro l hl
  obtain ⟨i, hi, hl⟩ := List.mem_flatMap.mp hl
  rcases List.mem_append.mp hl with hl | hl
  · split at hl
    · rw [List.mem_singleton.mp hl]
      exact hb i
    · cases hl
  · rw [List.mem_singleton.mp hl]
    refine hg _ _ ?_
    by_cases q : i < ls.length
    · rw [List.getD_eq_getElem?_getD, List.getElem?_eq_getElem q]
      exact hls _ (List.getElem_mem q)
    · rw [List.getD_eq_getElem?_getD, List.getElem?_eq_none (by omega)]
      simp
theorem wdG_rows (hb : ∀ i, wds (b i) = []) (hg : ∀ l i, wds (g l i) = wds l) (hb2 : ∀ i, 10 ∉ b i) (hg2 : ∀ l i, 10 ∉ l → 10 ∉ g l i) (c : Int) {A : List (List (List Nat))} (h : WordsOk A) (hne : A ≠ []) :
    (rowsQ (TL.joinL [10] (wdG b g c (A.map (TL.joinL [32])) (A.map (TL.joinL [32])).length))).map (fun q => wds q.1) = A := by
  have hnz : wdG b g c (A.map (TL.joinL [32])) (A.map (TL.joinL [32])).length ≠ [] := by
    cases A with
    | nil => exact absurd rfl hne
    | cons a l =>
      rw [List.map_cons, List.length_cons, wdG_succ]
      simp
  rw [rows_wds, cut_join hnz (wdG_free hb2 hg2 _ _ _ h.line_free), wdG_wds hb hg _ _ _ (Nat.le_refl _), List.take_length, h.line_wds, h.keep]
theorem wdG_each {B : Nat} (hb : ∀ i, (b i).length ≤ B) (hg : ∀ l i, l.length ≤ 100 → (g l i).length ≤ B) {c : Int} {ls : List (List Nat)} {k : Nat} (hls : ∀ l ∈ ls, l.length ≤ 100) : ∀ l ∈ wdG b g c ls k, l.length ≤ B := by
  intro l hl
  obtain ⟨i, hi, hl⟩ := List.mem_flatMap.mp hl
  rcases List.mem_append.mp hl with hl | hl
  · split at hl
    · rw [List.mem_singleton.mp hl]
      exact hb i
    · cases hl
  · rw [List.mem_singleton.mp hl]
    refine hg _ _ ?_
    by_cases q : i < ls.length
    · rw [List.getD_eq_getElem?_getD, List.getElem?_eq_getElem q]
      exact hls _ (List.getElem_mem q)
    · rw [List.getD_eq_getElem?_getD, List.getElem?_eq_none (by omega)]
      simp
end
theorem join_len {ls : List (List Nat)} {B : Nat} (h : ∀ l ∈ ls, l.length ≤ B) : (TL.joinL [10] ls).length ≤ (B + 1) * ls.length := by
  induction ls with
  | nil => simp [TL.joinL]
  | cons a r ih =>
    have h1 := ih fun z hz => h z (List.mem_cons_of_mem _ hz)
    have h2 := h a List.mem_cons_self
    cases r with
    | nil =>
      show a.length ≤ _
      simp only [List.length_cons, List.length_nil]
      omega
    | cons b r =>
      show (a ++ ([10] ++ TL.joinL [10] (b :: r))).length ≤ _
      rw [List.length_append, List.length_append, List.length_singleton]
      rw [show (a :: b :: r).length = (b :: r).length + 1 from rfl, Nat.mul_add, Nat.mul_one]
      omega
theorem traW_ok {n p q h : Nat} {ts : List Nat} : WordsOk (traW n p q h ts) := by
  have dg : ∀ x : Nat, 32 ∉ digs x ∧ digs x ≠ [] ∧ 10 ∉ digs x := fun x => ⟨digs_free (by decide), digs_ne x, digs_free (by decide)⟩
  intro ws hw
  unfold traW at hw
  rcases List.mem_cons.mp hw with e | hw
  · rw [e]
    refine ⟨by simp, fun p hp => ?_⟩
    simp only [List.mem_cons, List.not_mem_nil, or_false] at hp
    rcases hp with e | e | e | e | e <;> rw [e]
    · decide
    · exact dg _
    · exact dg _
    · exact dg _
    · exact dg _
  · obtain ⟨t, _, rfl⟩ := List.mem_map.mp hw
    refine ⟨by simp, fun p hp => ?_⟩
    simp only [List.mem_cons, List.not_mem_nil, or_false] at hp
    rcases hp with e | e <;> rw [e]
    · decide
    · exact dg _
end


section
variable {P : Program} {w : World} {K : PySem.W.Frag} {mg : Str → Option Value} {base : Heap}
def edS (c z : Int) : Nat → List Int
  | 0 => []
  | k + 1 => edS c z k ++ [(edS c z k).getLastD (-1) + 1 + draw c k % z]
theorem edS_len (c z : Int) : ∀ k, (edS c z k).length = k
  | 0 => rfl
  | k + 1 => by rw [edS, List.length_append, edS_len c z k]; rfl
theorem getLastD_snoc (l : List Int) (x d : Int) : (l ++ [x]).getLastD d = x := by
  cases l with
  | nil => rfl
  | cons a l =>
    show ((a :: l) ++ [x]).getLast (by simp) = x
    first | exact List.getLast_concat | exact List.getLast_append_singleton _ | simp
theorem edS_asc (c : Int) {z : Int} (hz : 1 ≤ z) : ∀ k, (edS c z k).Pairwise (· < ·) ∧ (∀ y ∈ edS c z k, 0 ≤ y ∧ y ≤ (edS c z k).getLastD (-1)) ∧ -1 ≤ (edS c z k).getLastD (-1) ∧ (edS c z k).getLastD (-1) + 1 ≤ k * z
  | 0 => ⟨List.Pairwise.nil, (fun y h => by cases h), by show (-1 : Int) ≤ -1; omega, by show (-1 : Int) + 1 ≤ ((0 : Nat) : Int) * z; simp⟩
  | k + 1 => by
    obtain ⟨h1, h2, h3, h4⟩ := edS_asc c hz k
    have hd := Int.emod_nonneg (draw c k) (show z ≠ 0 by omega)
    have hd2 := Int.emod_lt_of_pos (draw c k) (show 0 < z by omega)
    have hl := getLastD_snoc (edS c z k) ((edS c z k).getLastD (-1) + 1 + draw c k % z) (-1)
    have e : ((k + 1 : Nat) : Int) * z = (k : Int) * z + z := by rw [Int.natCast_add, Int.add_mul]; omega
    rw [edS, hl]
    refine ⟨List.pairwise_append.mpr ⟨h1, List.pairwise_singleton _ _, fun a ha b hb => ?_⟩, fun y hy => ?_, by omega, by rw [e]; omega⟩
    · rw [List.mem_singleton.mp hb]
      have := h2 a ha
      omega
    · rcases List.mem_append.mp hy with h | h
      · have := h2 y h
        omega
      · rw [List.mem_singleton.mp h]
        omega
local macro_rules | `(tactic| walk_at "nm") => `(tactic| first | ((with_reducible apply ev_nameF (x := "cell") (i := 0)); exact rfl; exact rfl; walk_at "vis"; decide; decide) | ((with_reducible apply ev_nameF (x := "many") (i := 1)); exact rfl; exact rfl; walk_at "vis"; decide; decide) | ((with_reducible apply ev_nameF (x := "size") (i := 2)); exact rfl; exact rfl; walk_at "vis"; decide; decide) | ((with_reducible apply ev_nameF (x := "draws") (i := 3)); exact rfl; exact rfl; walk_at "vis"; decide; decide) | ((with_reducible apply ev_nameF (x := "edges") (i := 4)); exact rfl; exact rfl; walk_at "vis"; decide; decide) | ((with_reducible apply ev_nameF (x := "k") (i := 5)); exact rfl; exact rfl; walk_at "vis"; decide; decide))
local macro_rules | `(tactic| walk_at "st") => `(tactic| first | ((with_reducible apply bk_set (x := "cell") (i := 0)); walk_at "go"; exact sc_u_law_signal.nd; exact rfl; walk_at "loc"; exact rfl; walk_at "loc") | ((with_reducible apply bk_set (x := "many") (i := 1)); walk_at "go"; exact sc_u_law_signal.nd; exact rfl; walk_at "loc"; exact rfl; walk_at "loc") | ((with_reducible apply bk_set (x := "size") (i := 2)); walk_at "go"; exact sc_u_law_signal.nd; exact rfl; walk_at "loc"; exact rfl; walk_at "loc") | ((with_reducible apply bk_set (x := "draws") (i := 3)); walk_at "go"; exact sc_u_law_signal.nd; exact rfl; walk_at "loc"; exact rfl; walk_at "loc") | ((with_reducible apply bk_set (x := "edges") (i := 4)); walk_at "go"; exact sc_u_law_signal.nd; exact rfl; walk_at "loc"; exact rfl; walk_at "loc") | ((with_reducible apply bk_set (x := "k") (i := 5)); walk_at "go"; exact sc_u_law_signal.nd; exact rfl; walk_at "loc"; exact rfl; walk_at "loc") | ((with_reducible apply bk_aug (x := "cell") (i := 0)); exact rfl; walk_at "go"; walk_at "ip"; exact sc_u_law_signal.nd; exact rfl; walk_at "loc"; walk_at "loc") | ((with_reducible apply bk_aug (x := "many") (i := 1)); exact rfl; walk_at "go"; walk_at "ip"; exact sc_u_law_signal.nd; exact rfl; walk_at "loc"; walk_at "loc") | ((with_reducible apply bk_aug (x := "size") (i := 2)); exact rfl; walk_at "go"; walk_at "ip"; exact sc_u_law_signal.nd; exact rfl; walk_at "loc"; walk_at "loc") | ((with_reducible apply bk_aug (x := "draws") (i := 3)); exact rfl; walk_at "go"; walk_at "ip"; exact sc_u_law_signal.nd; exact rfl; walk_at "loc"; walk_at "loc") | ((with_reducible apply bk_aug (x := "edges") (i := 4)); exact rfl; walk_at "go"; walk_at "ip"; exact sc_u_law_signal.nd; exact rfl; walk_at "loc"; walk_at "loc") | ((with_reducible apply bk_aug (x := "k") (i := 5)); exact rfl; walk_at "go"; walk_at "ip"; exact sc_u_law_signal.nd; exact rfl; walk_at "loc"; walk_at "loc"))
local macro_rules | `(tactic| walk_at "ap") => `(tactic| first | ((with_reducible apply bk_append (x := "cell") (i := 0)); exact rfl; walk_at "go"; (try walk_at "sd"); exact rfl; walk_at "vis"; exact rfl; exact rfl; exact rfl; exact rfl; exact rfl; exact rfl; decide; decide) | ((with_reducible apply bk_append (x := "many") (i := 1)); exact rfl; walk_at "go"; (try walk_at "sd"); exact rfl; walk_at "vis"; exact rfl; exact rfl; exact rfl; exact rfl; exact rfl; exact rfl; decide; decide) | ((with_reducible apply bk_append (x := "size") (i := 2)); exact rfl; walk_at "go"; (try walk_at "sd"); exact rfl; walk_at "vis"; exact rfl; exact rfl; exact rfl; exact rfl; exact rfl; exact rfl; decide; decide) | ((with_reducible apply bk_append (x := "draws") (i := 3)); exact rfl; walk_at "go"; (try walk_at "sd"); exact rfl; walk_at "vis"; exact rfl; exact rfl; exact rfl; exact rfl; exact rfl; exact rfl; decide; decide) | ((with_reducible apply bk_append (x := "edges") (i := 4)); exact rfl; walk_at "go"; (try walk_at "sd"); exact rfl; walk_at "vis"; exact rfl; exact rfl; exact rfl; exact rfl; exact rfl; exact rfl; decide; decide) | ((with_reducible apply bk_append (x := "k") (i := 5)); exact rfl; walk_at "go"; (try walk_at "sd"); exact rfl; walk_at "vis"; exact rfl; exact rfl; exact rfl; exact rfl; exact rfl; exact rfl; decide; decide))
local macro_rules | `(tactic| walk_at "mine") => `(tactic| first | ((with_reducible apply bk_own (x := "cell") (i := 0)); walk_at "fresh"; exact sc_u_law_signal.nd; exact rfl; walk_at "loc"; exact (by simp [env0]); exact rfl; walk_at "loc") | ((with_reducible apply bk_own (x := "many") (i := 1)); walk_at "fresh"; exact sc_u_law_signal.nd; exact rfl; walk_at "loc"; exact (by simp [env0]); exact rfl; walk_at "loc") | ((with_reducible apply bk_own (x := "size") (i := 2)); walk_at "fresh"; exact sc_u_law_signal.nd; exact rfl; walk_at "loc"; exact (by simp [env0]); exact rfl; walk_at "loc") | ((with_reducible apply bk_own (x := "draws") (i := 3)); walk_at "fresh"; exact sc_u_law_signal.nd; exact rfl; walk_at "loc"; exact (by simp [env0]); exact rfl; walk_at "loc") | ((with_reducible apply bk_own (x := "edges") (i := 4)); walk_at "fresh"; exact sc_u_law_signal.nd; exact rfl; walk_at "loc"; exact (by simp [env0]); exact rfl; walk_at "loc") | ((with_reducible apply bk_own (x := "k") (i := 5)); walk_at "fresh"; exact sc_u_law_signal.nd; exact rfl; walk_at "loc"; exact (by simp [env0]); exact rfl; walk_at "loc"))
local macro_rules | `(tactic| walk_at "augl") => `(tactic| first | ((with_reducible apply bk_augL (x := "cell") (i := 0)); exact rfl; walk_at "go"; (try walk_at "sd"); exact sc_u_law_signal.nd; exact rfl; walk_at "loc"; walk_at "loc") | ((with_reducible apply bk_augL (x := "many") (i := 1)); exact rfl; walk_at "go"; (try walk_at "sd"); exact sc_u_law_signal.nd; exact rfl; walk_at "loc"; walk_at "loc") | ((with_reducible apply bk_augL (x := "size") (i := 2)); exact rfl; walk_at "go"; (try walk_at "sd"); exact sc_u_law_signal.nd; exact rfl; walk_at "loc"; walk_at "loc") | ((with_reducible apply bk_augL (x := "draws") (i := 3)); exact rfl; walk_at "go"; (try walk_at "sd"); exact sc_u_law_signal.nd; exact rfl; walk_at "loc"; walk_at "loc") | ((with_reducible apply bk_augL (x := "edges") (i := 4)); exact rfl; walk_at "go"; (try walk_at "sd"); exact sc_u_law_signal.nd; exact rfl; walk_at "loc"; walk_at "loc") | ((with_reducible apply bk_augL (x := "k") (i := 5)); exact rfl; walk_at "go"; (try walk_at "sd"); exact sc_u_law_signal.nd; exact rfl; walk_at "loc"; walk_at "loc"))
local macro_rules | `(tactic| walk_at "sto") => `(tactic| first | ((with_reducible apply bk_sto (x := "cell") (i := 0)); exact rfl; walk_at "go"; walk_at "go"; (first | (apply ixN_at; walk_at "sd") | skip); exact rfl; walk_at "vis"; (exact fun _ => rfl); exact rfl; exact rfl; exact rfl; decide; decide) | ((with_reducible apply bk_sto (x := "many") (i := 1)); exact rfl; walk_at "go"; walk_at "go"; (first | (apply ixN_at; walk_at "sd") | skip); exact rfl; walk_at "vis"; (exact fun _ => rfl); exact rfl; exact rfl; exact rfl; decide; decide) | ((with_reducible apply bk_sto (x := "size") (i := 2)); exact rfl; walk_at "go"; walk_at "go"; (first | (apply ixN_at; walk_at "sd") | skip); exact rfl; walk_at "vis"; (exact fun _ => rfl); exact rfl; exact rfl; exact rfl; decide; decide) | ((with_reducible apply bk_sto (x := "draws") (i := 3)); exact rfl; walk_at "go"; walk_at "go"; (first | (apply ixN_at; walk_at "sd") | skip); exact rfl; walk_at "vis"; (exact fun _ => rfl); exact rfl; exact rfl; exact rfl; decide; decide) | ((with_reducible apply bk_sto (x := "edges") (i := 4)); exact rfl; walk_at "go"; walk_at "go"; (first | (apply ixN_at; walk_at "sd") | skip); exact rfl; walk_at "vis"; (exact fun _ => rfl); exact rfl; exact rfl; exact rfl; decide; decide) | ((with_reducible apply bk_sto (x := "k") (i := 5)); exact rfl; walk_at "go"; walk_at "go"; (first | (apply ixN_at; walk_at "sd") | skip); exact rfl; walk_at "vis"; (exact fun _ => rfl); exact rfl; exact rfl; exact rfl; decide; decide))
local macro_rules | `(tactic| walk_at "own") => `(tactic| first | ((with_reducible apply ev_ixOwnF (x := "cell") (i := 0)); exact rfl; walk_at "go"; (first | walk_at "at" | skip); exact rfl; walk_at "vis"; (exact fun _ _ => rfl); decide; decide) | ((with_reducible apply ev_ixOwnF (x := "many") (i := 1)); exact rfl; walk_at "go"; (first | walk_at "at" | skip); exact rfl; walk_at "vis"; (exact fun _ _ => rfl); decide; decide) | ((with_reducible apply ev_ixOwnF (x := "size") (i := 2)); exact rfl; walk_at "go"; (first | walk_at "at" | skip); exact rfl; walk_at "vis"; (exact fun _ _ => rfl); decide; decide) | ((with_reducible apply ev_ixOwnF (x := "draws") (i := 3)); exact rfl; walk_at "go"; (first | walk_at "at" | skip); exact rfl; walk_at "vis"; (exact fun _ _ => rfl); decide; decide) | ((with_reducible apply ev_ixOwnF (x := "edges") (i := 4)); exact rfl; walk_at "go"; (first | walk_at "at" | skip); exact rfl; walk_at "vis"; (exact fun _ _ => rfl); decide; decide) | ((with_reducible apply ev_ixOwnF (x := "k") (i := 5)); exact rfl; walk_at "go"; (first | walk_at "at" | skip); exact rfl; walk_at "vis"; (exact fun _ _ => rfl); decide; decide))
local macro_rules | `(tactic| walk_at "tg") => `(tactic| first | ((with_reducible apply tg_name (x := "cell") (i := 0)); exact sc_u_law_signal.nd; exact rfl; walk_at "loc"; walk_at "loc") | ((with_reducible apply tg_name (x := "many") (i := 1)); exact sc_u_law_signal.nd; exact rfl; walk_at "loc"; walk_at "loc") | ((with_reducible apply tg_name (x := "size") (i := 2)); exact sc_u_law_signal.nd; exact rfl; walk_at "loc"; walk_at "loc") | ((with_reducible apply tg_name (x := "draws") (i := 3)); exact sc_u_law_signal.nd; exact rfl; walk_at "loc"; walk_at "loc") | ((with_reducible apply tg_name (x := "edges") (i := 4)); exact sc_u_law_signal.nd; exact rfl; walk_at "loc"; walk_at "loc") | ((with_reducible apply tg_name (x := "k") (i := 5)); exact sc_u_law_signal.nd; exact rfl; walk_at "loc"; walk_at "loc"))
local macro_rules | `(tactic| walk_at "rng") => `(tactic| first | ((with_reducible apply bk_rng2 (x := "cell") (k := 0)); walk_at "go"; walk_at "go"; exact sc_u_law_signal.nd; exact rfl; walk_at "loc"; exact (by simp [env0]); exact rfl; walk_at "loc"; exact rfl; exact T.z_range; exact rfl; exact rfl; exact rfl) | ((with_reducible apply bk_rng2 (x := "many") (k := 1)); walk_at "go"; walk_at "go"; exact sc_u_law_signal.nd; exact rfl; walk_at "loc"; exact (by simp [env0]); exact rfl; walk_at "loc"; exact rfl; exact T.z_range; exact rfl; exact rfl; exact rfl) | ((with_reducible apply bk_rng2 (x := "size") (k := 2)); walk_at "go"; walk_at "go"; exact sc_u_law_signal.nd; exact rfl; walk_at "loc"; exact (by simp [env0]); exact rfl; walk_at "loc"; exact rfl; exact T.z_range; exact rfl; exact rfl; exact rfl) | ((with_reducible apply bk_rng2 (x := "draws") (k := 3)); walk_at "go"; walk_at "go"; exact sc_u_law_signal.nd; exact rfl; walk_at "loc"; exact (by simp [env0]); exact rfl; walk_at "loc"; exact rfl; exact T.z_range; exact rfl; exact rfl; exact rfl) | ((with_reducible apply bk_rng2 (x := "edges") (k := 4)); walk_at "go"; walk_at "go"; exact sc_u_law_signal.nd; exact rfl; walk_at "loc"; exact (by simp [env0]); exact rfl; walk_at "loc"; exact rfl; exact T.z_range; exact rfl; exact rfl; exact rfl) | ((with_reducible apply bk_rng2 (x := "k") (k := 5)); walk_at "go"; walk_at "go"; exact sc_u_law_signal.nd; exact rfl; walk_at "loc"; exact (by simp [env0]); exact rfl; walk_at "loc"; exact rfl; exact T.z_range; exact rfl; exact rfl; exact rfl))
local macro_rules | `(tactic| walk_at "itr") => `(tactic| first | ((with_reducible apply iter_rngS (y := "cell") (k := 0)); exact rfl; exact rgC_up (by walk_at "b62") (by walk_at "b62"); exact rfl; walk_at "vis"; decide; decide) | ((with_reducible apply iter_rngS (y := "many") (k := 1)); exact rfl; exact rgC_up (by walk_at "b62") (by walk_at "b62"); exact rfl; walk_at "vis"; decide; decide) | ((with_reducible apply iter_rngS (y := "size") (k := 2)); exact rfl; exact rgC_up (by walk_at "b62") (by walk_at "b62"); exact rfl; walk_at "vis"; decide; decide) | ((with_reducible apply iter_rngS (y := "draws") (k := 3)); exact rfl; exact rgC_up (by walk_at "b62") (by walk_at "b62"); exact rfl; walk_at "vis"; decide; decide) | ((with_reducible apply iter_rngS (y := "edges") (k := 4)); exact rfl; exact rgC_up (by walk_at "b62") (by walk_at "b62"); exact rfl; walk_at "vis"; decide; decide) | ((with_reducible apply iter_rngS (y := "k") (k := 5)); exact rfl; exact rgC_up (by walk_at "b62") (by walk_at "b62"); exact rfl; walk_at "vis"; decide; decide))
local macro_rules | `(tactic| walk_at "at") => `(tactic| first | exact hmany | exact hat | exact hlast (by assumption))
theorem ok_u_law_signal (T : Top K mg) {c m z : Int} (hz : (0 ≤ m ∧ m ≤ 100) ∧ 1 ≤ z) : Dfn P w K mg base "_law_signal" ["cell", "many", "size"] 2 [.int c, .int m, .int z] (.list ((edS c z (draw c m.toNat % (m + 1)).toNat).map .int)) := by
  obtain ⟨⟨hm0, hm⟩, hz⟩ := hz
  have b1 := Int.emod_nonneg (draw c m.toNat) (show m + 1 ≠ 0 by omega)
  have b2 := Int.emod_lt_of_pos (draw c m.toNat) (show 0 < m + 1 by omega)
  have hmany : L2.atI ((draws c (m + 1).toNat).map PyData.int) m = some (.int (draw c m.toNat)) := at_draws (by omega) (by omega)
  refine dfn T.d_u_law_signal sc_u_law_signal rfl fun f cdv A outer s H E hr => ?_
  walk_at "open"
  walk_at "st"
  walk_at "mine"
  refine bk_for (P := fun i r => ∃ (a : SV), r = [.dat (.int c), .dat (.int m), .dat (.int z), .dat (.list ((draws c (m + 1).toNat).map .int)), .own ((edS c z i).map .int), a]) (B := fun _ => False) (by walk_at "it") ⟨.un, rfl⟩ ?_ ?_ rfl PassesOwn.never
  · rintro i r d hd ⟨a, rfl⟩
    obtain ⟨hi, rfl⟩ := get_rng hd
    refine ⟨_, _, by walk_at "tgt", ?_⟩
    have hat : L2.atI ((draws c (m + 1).toNat).map PyData.int) ((i : Nat) : Int) = some (.int (draw c i)) := by
      have h := at_draws (c := c) (n := (m + 1).toNat) (i := (i : Int)) (by omega) (by omega)
      rw [show (i : Int).toNat = i by omega] at h
      exact h
    have hlen := edS_len c z i
    have hnx : edS c z (i + 1) = edS c z i ++ [(edS c z i).getLastD (-1) + 1 + draw c i % z] := rfl
    rw [hnx]
    generalize edS c z i = X at hlen
    have hlast : decide ((0 : Int) < (((X.map PyData.int).length : Nat) : Int)) = true → L2.atI (X.map PyData.int) (-1) = some (.int (X.getLastD (-1))) := fun h => by
      have h := of_decide_eq_true h
      rw [List.length_map] at h
      rcases List.eq_nil_or_concat X with rfl | ⟨y, x, rfl⟩
      · simp at h
      · rw [List.concat_eq_append, getLastD_snoc, List.map_append]
        exact atI_last _ _
    have hlz : (X.map PyData.int).length < sizeLine := by rw [sizeLine_eq, List.length_map]; omega
    have hv : (if decide ((0 : Int) < (((X.map PyData.int).length : Nat) : Int)) = true then X.getLastD (-1) + 1 else 0) + draw c i % z = X.getLastD (-1) + 1 + draw c i % z := by
      rw [List.length_map]
      by_cases h : X = []
      · subst h
        rfl
      · have := List.length_pos_iff.mpr h
        rw [if_pos (decide_eq_true (by omega))]
    refine bk_append (x := "edges") (i := 4) (d := .int (X.getLastD (-1) + 1 + draw c i % z)) rfl (ev_borrow ?_ rfl) hlz rfl (by walk_at "vis") rfl rfl rfl rfl rfl rfl (by decide) (by decide) ?_
    · rw [← hv]
      walk_at "go"
    refine bk_nil (bk_end ?_)
    show ∃ a, _ = _
    rw [List.map_append]
    exact ⟨_, rfl⟩
  · rintro r (⟨a, rfl⟩ | h)
    · refine' bk_freeze (i := 4) rfl (bk_ret (ev_name (i := 4) rfl rfl (by walk_at "vis")) ?_)
      rw [List.length_map, List.length_range]
      rfl
    · exact h.elim
end


section
variable {P : Program} {w : World} {K : PySem.W.Frag} {mg : Str → Option Value} {base : Heap}
theorem SzE.ev {X : Cx} {ρ : Envi} {e : Expr} {y : Str} {m : Nat} (h : SzE X ρ e y m) : Ev X ρ e (.str y) := h.1
theorem ev_addN {X : Cx} {ρ : Envi} {b : Expr} {c : Str} {i : Int} {j : Nat} {p pos : Pos} (hb : Ev X ρ b (.str (numS i))) (hi : i.natAbs.log2 < 1920) (hc : c.length ≤ 100) : Ev X ρ (.BinOp (.Constant (.str c) j p) .Add b pos) (.str (c ++ numS i)) :=
  ev_bin ev_str hb (bin_addS (by have := num_10k hi; rw [sizeLine_eq]; omega))
theorem sp3 : ("   " : Str) = S [32, 32, 32] := by decide +kernel
theorem sp0 : ("" : Str) = S [] := by decide +kernel
def bl3 (i : Nat) : List Nat := if i % 2 = 0 then [] else [32, 32, 32]
def wl3 (l : List Nat) (i : Nat) : List Nat := List.replicate (i % 3) 32 ++ wideL 2 l ++ [32]
theorem wds_bl3 (i : Nat) : wds (bl3 i) = [] := by
  unfold bl3
  split <;> rfl
theorem wds_wl3 (l : List Nat) (i : Nat) : wds (wl3 l i) = wds l := by
  unfold wl3
  rw [wds_end, wds_many, wds_wide]
theorem fr_bl3 (i : Nat) : 10 ∉ bl3 i := by
  unfold bl3
  split <;> decide
theorem fr_wl3 (l : List Nat) (i : Nat) (h : 10 ∉ l) : 10 ∉ wl3 l i := by
  have h2 := wide_free (m := 2) (c := 10) (by decide) h
  unfold wl3
  simp only [List.mem_append, not_or]
  exact ⟨⟨fun h => absurd (List.eq_of_mem_replicate h) (by decide), h2⟩, by decide⟩
theorem ln_bl3 (i : Nat) : (bl3 i).length ≤ 400 := by
  unfold bl3
  split <;> decide
theorem ln_wl3 (l : List Nat) (i : Nat) (h : l.length ≤ 100) : (wl3 l i).length ≤ 400 := by
  have := wide_len 2 l
  unfold wl3
  rw [List.length_append, List.length_append, List.length_replicate, List.length_singleton]
  omega
theorem at_bl3 (i : Nat) : L2.atI [PyData.str "", .str "   "] (((i : Nat) : Int) % 2) = some (strS (bl3 i)) := by
  have : i % 2 = 0 ∨ i % 2 = 1 := by omega
  unfold bl3
  rcases this with e | e
  · rw [if_pos e, show ((i : Nat) : Int) % 2 = 0 by omega, sp0]
    exact at_nat (by decide) rfl
  · rw [if_neg (by omega), show ((i : Nat) : Int) % 2 = 1 by omega, sp3]
    exact at_nat (by decide) rfl
theorem wl3_eq (l : List Nat) (i : Nat) : PyData.str (S (repL [32] (((i : Nat) : Int) % 3)) ++ Txt.replace (S l) " " "   " ++ (" " : Str)) = strS (wl3 l i) := by
  rw [sp1, sp3, replace_S (by simp), S_app, S_app, show ([32, 32, 32] : List Nat) = List.replicate (2 + 1) 32 from rfl, repl_wide, repL_one, show (((i : Nat) : Int) % 3).toNat = i % 3 by omega]
  rfl
theorem f_trace' (n p q h : Nat) : PyData.str (("trace " : Str) ++ numS (n : Int) ++ " " ++ numS (p : Int) ++ " " ++ numS (q : Int) ++ " " ++ numS (h : Int)) = strS (TL.joinL [32] (trW n p q h)) := congrArg PyData.str (f_trace n p q h)
theorem edS_nats (c : Int) {z : Int} (hz : 1 ≤ z) (k : Nat) : ∃ ts : List Nat, (edS c z k).map PyData.int = ts.map dI ∧ ts.length = k ∧ ts.Pairwise (· < ·) ∧ ∀ t ∈ ts, (t : Int) ≤ k * z := by
  obtain ⟨h1, h2, h3, h4⟩ := edS_asc c hz k
  have hl := edS_len c z k
  generalize edS c z k = L at *
  refine ⟨L.map Int.toNat, ?_, by simpa using hl, ?_, fun t ht => ?_⟩
  · rw [List.map_map]
    refine List.map_congr_left fun x hx => ?_
    have := (h2 x hx).1
    show PyData.int x = PyData.int ((x.toNat : Nat) : Int)
    rw [Int.toNat_of_nonneg this]
  · refine List.pairwise_map.mpr (List.Pairwise.imp_of_mem ?_ h1)
    intro a b ha hb hab
    have := (h2 a ha).1
    omega
  · obtain ⟨x, hx, rfl⟩ := List.mem_map.mp ht
    have := h2 x hx
    omega
theorem same_head (T : Top K mg) {n p q h : Nat} : Dfn P w K mg base "_law_same" ["actual", "expected"] 3 [.tuple [.int n, .tuple [.int p, .int q], .int h], .tuple [.int n, .tuple [.int p, .int q], .int h]] (.bool true) := by
  refine ok_same_tup (k := 2) T (by simp) fun d hd => ?_
  simp only [List.mem_cons, List.not_mem_nil, or_false] at hd
  rcases hd with e | e | e <;> rw [e]
  · exact ok_same_int T 1
  · refine ok_same_tup (k := 1) T (by simp) fun d hd => ?_
    simp only [List.mem_cons, List.not_mem_nil, or_false] at hd
    rcases hd with e | e <;> rw [e] <;> exact ok_same_int T 0
  · exact ok_same_int T 1
theorem cmp_neDN {X : Cx} {ts : List Nat} (hu : X.A.units + 64 < cLine) : CmpD X .NotEq (.list (ts.map dI)) (.list (ts.map dI)) false := by
  have h := cmp_neLI (X := X) (ns := ts.map fun (t : Nat) => (t : Int)) (ms := ts.map fun (t : Nat) => (t : Int)) hu
  rw [List.map_map] at h
  rw [show (!decide ((ts.map fun (t : Nat) => (t : Int)) = ts.map fun (t : Nat) => (t : Int))) = false by simp] at h
  exact h
local macro_rules | `(tactic| walk_at "bl") => `(tactic| ((with_reducible apply blt_strN); walk_at "log"))
local macro_rules | `(tactic| walk_at "log") => `(tactic| first | with_reducible assumption | exact log2_small (by omega))
local macro_rules | `(tactic| walk_at "lens") => `(tactic| first
  | exact lens_nil
  | (refine lens_cons ?_ ?_; (first | with_reducible assumption | decide +kernel | ((with_reducible apply num_10k); walk_at "log")); walk_at "lens"))
local macro_rules | `(tactic| walk_at "fsz") => `(tactic| (refine lens_size ?_ (Nat.le_of_ble_eq_true rfl); walk_at "lens"))
local macro_rules | `(tactic| walk_at "sl") => `(tactic| first
  | with_reducible assumption
  | ((with_reducible apply numS_len); walk_at "log")
  | ((with_reducible apply sl_add); walk_at "sl"; walk_at "sl")
  | exact sl_lit)
local macro_rules | `(tactic| walk_at "sz") => `(tactic| first
  | with_reducible exact sz_lit
  | ((with_reducible apply sz_add); walk_at "sz"; walk_at "sz"; (decide +kernel))
  | ((with_reducible apply sz_num); walk_at "go"; walk_at "log")
  | ((with_reducible apply sz_var); walk_at "go"; (first | with_reducible assumption | walk_at "sd")))
local macro_rules | `(tactic| walk_at "pcs") => `(tactic| first
  | with_reducible exact Pcs.nil
  | ((with_reducible apply Pcs.const); walk_at "pcs")
  | ((with_reducible apply Pcs.int); walk_at "go"; walk_at "log"; walk_at "pcs")
  | ((with_reducible apply Pcs.str); walk_at "go"; walk_at "sd"; walk_at "pcs"))
local macro_rules | `(tactic| walk_at "go") => `(tactic| first | ((with_reducible apply ev_fs); walk_at "pcs"; (first | walk_at "fsz" | skip)))

local macro_rules | `(tactic| walk_at "nm") => `(tactic| first | ((with_reducible apply ev_nameF (x := "script") (i := 0)); exact rfl; exact rfl; walk_at "vis"; decide; decide) | ((with_reducible apply ev_nameF (x := "draws") (i := 1)); exact rfl; exact rfl; walk_at "vis"; decide; decide) | ((with_reducible apply ev_nameF (x := "limit") (i := 2)); exact rfl; exact rfl; walk_at "vis"; decide; decide) | ((with_reducible apply ev_nameF (x := "poll") (i := 3)); exact rfl; exact rfl; walk_at "vis"; decide; decide) | ((with_reducible apply ev_nameF (x := "receiver") (i := 4)); exact rfl; exact rfl; walk_at "vis"; decide; decide) | ((with_reducible apply ev_nameF (x := "phase") (i := 5)); exact rfl; exact rfl; walk_at "vis"; decide; decide) | ((with_reducible apply ev_nameF (x := "signal") (i := 6)); exact rfl; exact rfl; walk_at "vis"; decide; decide) | ((with_reducible apply ev_nameF (x := "lines") (i := 7)); exact rfl; exact rfl; walk_at "vis"; decide; decide) | ((with_reducible apply ev_nameF (x := "text") (i := 8)); exact rfl; exact rfl; walk_at "vis"; decide; decide) | ((with_reducible apply ev_nameF (x := "wide") (i := 9)); exact rfl; exact rfl; walk_at "vis"; decide; decide) | ((with_reducible apply ev_nameF (x := "k") (i := 10)); exact rfl; exact rfl; walk_at "vis"; decide; decide) | ((with_reducible apply ev_nameF (x := "other") (i := 11)); exact rfl; exact rfl; walk_at "vis"; decide; decide) | ((with_reducible apply ev_nameF (x := "told") (i := 12)); exact rfl; exact rfl; walk_at "vis"; decide; decide) | ((with_reducible apply ev_nameF (x := "time") (i := 13)); exact rfl; exact rfl; walk_at "vis"; decide; decide))
local macro_rules | `(tactic| walk_at "st") => `(tactic| first | ((with_reducible apply bk_set (x := "script") (i := 0)); walk_at "go"; exact sc_law.nd; exact rfl; walk_at "loc"; exact rfl; walk_at "loc") | ((with_reducible apply bk_set (x := "draws") (i := 1)); walk_at "go"; exact sc_law.nd; exact rfl; walk_at "loc"; exact rfl; walk_at "loc") | ((with_reducible apply bk_set (x := "limit") (i := 2)); walk_at "go"; exact sc_law.nd; exact rfl; walk_at "loc"; exact rfl; walk_at "loc") | ((with_reducible apply bk_set (x := "poll") (i := 3)); walk_at "go"; exact sc_law.nd; exact rfl; walk_at "loc"; exact rfl; walk_at "loc") | ((with_reducible apply bk_set (x := "receiver") (i := 4)); walk_at "go"; exact sc_law.nd; exact rfl; walk_at "loc"; exact rfl; walk_at "loc") | ((with_reducible apply bk_set (x := "phase") (i := 5)); walk_at "go"; exact sc_law.nd; exact rfl; walk_at "loc"; exact rfl; walk_at "loc") | ((with_reducible apply bk_set (x := "signal") (i := 6)); walk_at "go"; exact sc_law.nd; exact rfl; walk_at "loc"; exact rfl; walk_at "loc") | ((with_reducible apply bk_set (x := "lines") (i := 7)); walk_at "go"; exact sc_law.nd; exact rfl; walk_at "loc"; exact rfl; walk_at "loc") | ((with_reducible apply bk_set (x := "text") (i := 8)); walk_at "go"; exact sc_law.nd; exact rfl; walk_at "loc"; exact rfl; walk_at "loc") | ((with_reducible apply bk_set (x := "wide") (i := 9)); walk_at "go"; exact sc_law.nd; exact rfl; walk_at "loc"; exact rfl; walk_at "loc") | ((with_reducible apply bk_set (x := "k") (i := 10)); walk_at "go"; exact sc_law.nd; exact rfl; walk_at "loc"; exact rfl; walk_at "loc") | ((with_reducible apply bk_set (x := "other") (i := 11)); walk_at "go"; exact sc_law.nd; exact rfl; walk_at "loc"; exact rfl; walk_at "loc") | ((with_reducible apply bk_set (x := "told") (i := 12)); walk_at "go"; exact sc_law.nd; exact rfl; walk_at "loc"; exact rfl; walk_at "loc") | ((with_reducible apply bk_set (x := "time") (i := 13)); walk_at "go"; exact sc_law.nd; exact rfl; walk_at "loc"; exact rfl; walk_at "loc") | ((with_reducible apply bk_aug (x := "script") (i := 0)); exact rfl; walk_at "go"; walk_at "ip"; exact sc_law.nd; exact rfl; walk_at "loc"; walk_at "loc") | ((with_reducible apply bk_aug (x := "draws") (i := 1)); exact rfl; walk_at "go"; walk_at "ip"; exact sc_law.nd; exact rfl; walk_at "loc"; walk_at "loc") | ((with_reducible apply bk_aug (x := "limit") (i := 2)); exact rfl; walk_at "go"; walk_at "ip"; exact sc_law.nd; exact rfl; walk_at "loc"; walk_at "loc") | ((with_reducible apply bk_aug (x := "poll") (i := 3)); exact rfl; walk_at "go"; walk_at "ip"; exact sc_law.nd; exact rfl; walk_at "loc"; walk_at "loc") | ((with_reducible apply bk_aug (x := "receiver") (i := 4)); exact rfl; walk_at "go"; walk_at "ip"; exact sc_law.nd; exact rfl; walk_at "loc"; walk_at "loc") | ((with_reducible apply bk_aug (x := "phase") (i := 5)); exact rfl; walk_at "go"; walk_at "ip"; exact sc_law.nd; exact rfl; walk_at "loc"; walk_at "loc") | ((with_reducible apply bk_aug (x := "signal") (i := 6)); exact rfl; walk_at "go"; walk_at "ip"; exact sc_law.nd; exact rfl; walk_at "loc"; walk_at "loc") | ((with_reducible apply bk_aug (x := "lines") (i := 7)); exact rfl; walk_at "go"; walk_at "ip"; exact sc_law.nd; exact rfl; walk_at "loc"; walk_at "loc") | ((with_reducible apply bk_aug (x := "text") (i := 8)); exact rfl; walk_at "go"; walk_at "ip"; exact sc_law.nd; exact rfl; walk_at "loc"; walk_at "loc") | ((with_reducible apply bk_aug (x := "wide") (i := 9)); exact rfl; walk_at "go"; walk_at "ip"; exact sc_law.nd; exact rfl; walk_at "loc"; walk_at "loc") | ((with_reducible apply bk_aug (x := "k") (i := 10)); exact rfl; walk_at "go"; walk_at "ip"; exact sc_law.nd; exact rfl; walk_at "loc"; walk_at "loc") | ((with_reducible apply bk_aug (x := "other") (i := 11)); exact rfl; walk_at "go"; walk_at "ip"; exact sc_law.nd; exact rfl; walk_at "loc"; walk_at "loc") | ((with_reducible apply bk_aug (x := "told") (i := 12)); exact rfl; walk_at "go"; walk_at "ip"; exact sc_law.nd; exact rfl; walk_at "loc"; walk_at "loc") | ((with_reducible apply bk_aug (x := "time") (i := 13)); exact rfl; walk_at "go"; walk_at "ip"; exact sc_law.nd; exact rfl; walk_at "loc"; walk_at "loc"))
local macro_rules | `(tactic| walk_at "ap") => `(tactic| first | ((with_reducible apply bk_append (x := "script") (i := 0)); exact rfl; walk_at "go"; (try walk_at "sd"); exact rfl; walk_at "vis"; exact rfl; exact rfl; exact rfl; exact rfl; exact rfl; exact rfl; decide; decide) | ((with_reducible apply bk_append (x := "draws") (i := 1)); exact rfl; walk_at "go"; (try walk_at "sd"); exact rfl; walk_at "vis"; exact rfl; exact rfl; exact rfl; exact rfl; exact rfl; exact rfl; decide; decide) | ((with_reducible apply bk_append (x := "limit") (i := 2)); exact rfl; walk_at "go"; (try walk_at "sd"); exact rfl; walk_at "vis"; exact rfl; exact rfl; exact rfl; exact rfl; exact rfl; exact rfl; decide; decide) | ((with_reducible apply bk_append (x := "poll") (i := 3)); exact rfl; walk_at "go"; (try walk_at "sd"); exact rfl; walk_at "vis"; exact rfl; exact rfl; exact rfl; exact rfl; exact rfl; exact rfl; decide; decide) | ((with_reducible apply bk_append (x := "receiver") (i := 4)); exact rfl; walk_at "go"; (try walk_at "sd"); exact rfl; walk_at "vis"; exact rfl; exact rfl; exact rfl; exact rfl; exact rfl; exact rfl; decide; decide) | ((with_reducible apply bk_append (x := "phase") (i := 5)); exact rfl; walk_at "go"; (try walk_at "sd"); exact rfl; walk_at "vis"; exact rfl; exact rfl; exact rfl; exact rfl; exact rfl; exact rfl; decide; decide) | ((with_reducible apply bk_append (x := "signal") (i := 6)); exact rfl; walk_at "go"; (try walk_at "sd"); exact rfl; walk_at "vis"; exact rfl; exact rfl; exact rfl; exact rfl; exact rfl; exact rfl; decide; decide) | ((with_reducible apply bk_append (x := "lines") (i := 7)); exact rfl; walk_at "go"; (try walk_at "sd"); exact rfl; walk_at "vis"; exact rfl; exact rfl; exact rfl; exact rfl; exact rfl; exact rfl; decide; decide) | ((with_reducible apply bk_append (x := "text") (i := 8)); exact rfl; walk_at "go"; (try walk_at "sd"); exact rfl; walk_at "vis"; exact rfl; exact rfl; exact rfl; exact rfl; exact rfl; exact rfl; decide; decide) | ((with_reducible apply bk_append (x := "wide") (i := 9)); exact rfl; walk_at "go"; (try walk_at "sd"); exact rfl; walk_at "vis"; exact rfl; exact rfl; exact rfl; exact rfl; exact rfl; exact rfl; decide; decide) | ((with_reducible apply bk_append (x := "k") (i := 10)); exact rfl; walk_at "go"; (try walk_at "sd"); exact rfl; walk_at "vis"; exact rfl; exact rfl; exact rfl; exact rfl; exact rfl; exact rfl; decide; decide) | ((with_reducible apply bk_append (x := "other") (i := 11)); exact rfl; walk_at "go"; (try walk_at "sd"); exact rfl; walk_at "vis"; exact rfl; exact rfl; exact rfl; exact rfl; exact rfl; exact rfl; decide; decide) | ((with_reducible apply bk_append (x := "told") (i := 12)); exact rfl; walk_at "go"; (try walk_at "sd"); exact rfl; walk_at "vis"; exact rfl; exact rfl; exact rfl; exact rfl; exact rfl; exact rfl; decide; decide) | ((with_reducible apply bk_append (x := "time") (i := 13)); exact rfl; walk_at "go"; (try walk_at "sd"); exact rfl; walk_at "vis"; exact rfl; exact rfl; exact rfl; exact rfl; exact rfl; exact rfl; decide; decide))
local macro_rules | `(tactic| walk_at "mine") => `(tactic| first | ((with_reducible apply bk_own (x := "script") (i := 0)); walk_at "fresh"; exact sc_law.nd; exact rfl; walk_at "loc"; exact (by simp [env0]); exact rfl; walk_at "loc") | ((with_reducible apply bk_own (x := "draws") (i := 1)); walk_at "fresh"; exact sc_law.nd; exact rfl; walk_at "loc"; exact (by simp [env0]); exact rfl; walk_at "loc") | ((with_reducible apply bk_own (x := "limit") (i := 2)); walk_at "fresh"; exact sc_law.nd; exact rfl; walk_at "loc"; exact (by simp [env0]); exact rfl; walk_at "loc") | ((with_reducible apply bk_own (x := "poll") (i := 3)); walk_at "fresh"; exact sc_law.nd; exact rfl; walk_at "loc"; exact (by simp [env0]); exact rfl; walk_at "loc") | ((with_reducible apply bk_own (x := "receiver") (i := 4)); walk_at "fresh"; exact sc_law.nd; exact rfl; walk_at "loc"; exact (by simp [env0]); exact rfl; walk_at "loc") | ((with_reducible apply bk_own (x := "phase") (i := 5)); walk_at "fresh"; exact sc_law.nd; exact rfl; walk_at "loc"; exact (by simp [env0]); exact rfl; walk_at "loc") | ((with_reducible apply bk_own (x := "signal") (i := 6)); walk_at "fresh"; exact sc_law.nd; exact rfl; walk_at "loc"; exact (by simp [env0]); exact rfl; walk_at "loc") | ((with_reducible apply bk_own (x := "lines") (i := 7)); walk_at "fresh"; exact sc_law.nd; exact rfl; walk_at "loc"; exact (by simp [env0]); exact rfl; walk_at "loc") | ((with_reducible apply bk_own (x := "text") (i := 8)); walk_at "fresh"; exact sc_law.nd; exact rfl; walk_at "loc"; exact (by simp [env0]); exact rfl; walk_at "loc") | ((with_reducible apply bk_own (x := "wide") (i := 9)); walk_at "fresh"; exact sc_law.nd; exact rfl; walk_at "loc"; exact (by simp [env0]); exact rfl; walk_at "loc") | ((with_reducible apply bk_own (x := "k") (i := 10)); walk_at "fresh"; exact sc_law.nd; exact rfl; walk_at "loc"; exact (by simp [env0]); exact rfl; walk_at "loc") | ((with_reducible apply bk_own (x := "other") (i := 11)); walk_at "fresh"; exact sc_law.nd; exact rfl; walk_at "loc"; exact (by simp [env0]); exact rfl; walk_at "loc") | ((with_reducible apply bk_own (x := "told") (i := 12)); walk_at "fresh"; exact sc_law.nd; exact rfl; walk_at "loc"; exact (by simp [env0]); exact rfl; walk_at "loc") | ((with_reducible apply bk_own (x := "time") (i := 13)); walk_at "fresh"; exact sc_law.nd; exact rfl; walk_at "loc"; exact (by simp [env0]); exact rfl; walk_at "loc"))
local macro_rules | `(tactic| walk_at "augl") => `(tactic| first | ((with_reducible apply bk_augL (x := "script") (i := 0)); exact rfl; walk_at "go"; (try walk_at "sd"); exact sc_law.nd; exact rfl; walk_at "loc"; walk_at "loc") | ((with_reducible apply bk_augL (x := "draws") (i := 1)); exact rfl; walk_at "go"; (try walk_at "sd"); exact sc_law.nd; exact rfl; walk_at "loc"; walk_at "loc") | ((with_reducible apply bk_augL (x := "limit") (i := 2)); exact rfl; walk_at "go"; (try walk_at "sd"); exact sc_law.nd; exact rfl; walk_at "loc"; walk_at "loc") | ((with_reducible apply bk_augL (x := "poll") (i := 3)); exact rfl; walk_at "go"; (try walk_at "sd"); exact sc_law.nd; exact rfl; walk_at "loc"; walk_at "loc") | ((with_reducible apply bk_augL (x := "receiver") (i := 4)); exact rfl; walk_at "go"; (try walk_at "sd"); exact sc_law.nd; exact rfl; walk_at "loc"; walk_at "loc") | ((with_reducible apply bk_augL (x := "phase") (i := 5)); exact rfl; walk_at "go"; (try walk_at "sd"); exact sc_law.nd; exact rfl; walk_at "loc"; walk_at "loc") | ((with_reducible apply bk_augL (x := "signal") (i := 6)); exact rfl; walk_at "go"; (try walk_at "sd"); exact sc_law.nd; exact rfl; walk_at "loc"; walk_at "loc") | ((with_reducible apply bk_augL (x := "lines") (i := 7)); exact rfl; walk_at "go"; (try walk_at "sd"); exact sc_law.nd; exact rfl; walk_at "loc"; walk_at "loc") | ((with_reducible apply bk_augL (x := "text") (i := 8)); exact rfl; walk_at "go"; (try walk_at "sd"); exact sc_law.nd; exact rfl; walk_at "loc"; walk_at "loc") | ((with_reducible apply bk_augL (x := "wide") (i := 9)); exact rfl; walk_at "go"; (try walk_at "sd"); exact sc_law.nd; exact rfl; walk_at "loc"; walk_at "loc") | ((with_reducible apply bk_augL (x := "k") (i := 10)); exact rfl; walk_at "go"; (try walk_at "sd"); exact sc_law.nd; exact rfl; walk_at "loc"; walk_at "loc") | ((with_reducible apply bk_augL (x := "other") (i := 11)); exact rfl; walk_at "go"; (try walk_at "sd"); exact sc_law.nd; exact rfl; walk_at "loc"; walk_at "loc") | ((with_reducible apply bk_augL (x := "told") (i := 12)); exact rfl; walk_at "go"; (try walk_at "sd"); exact sc_law.nd; exact rfl; walk_at "loc"; walk_at "loc") | ((with_reducible apply bk_augL (x := "time") (i := 13)); exact rfl; walk_at "go"; (try walk_at "sd"); exact sc_law.nd; exact rfl; walk_at "loc"; walk_at "loc"))
local macro_rules | `(tactic| walk_at "sto") => `(tactic| first | ((with_reducible apply bk_sto (x := "script") (i := 0)); exact rfl; walk_at "go"; walk_at "go"; (first | (apply ixN_at; walk_at "sd") | skip); exact rfl; walk_at "vis"; (exact fun _ => rfl); exact rfl; exact rfl; exact rfl; decide; decide) | ((with_reducible apply bk_sto (x := "draws") (i := 1)); exact rfl; walk_at "go"; walk_at "go"; (first | (apply ixN_at; walk_at "sd") | skip); exact rfl; walk_at "vis"; (exact fun _ => rfl); exact rfl; exact rfl; exact rfl; decide; decide) | ((with_reducible apply bk_sto (x := "limit") (i := 2)); exact rfl; walk_at "go"; walk_at "go"; (first | (apply ixN_at; walk_at "sd") | skip); exact rfl; walk_at "vis"; (exact fun _ => rfl); exact rfl; exact rfl; exact rfl; decide; decide) | ((with_reducible apply bk_sto (x := "poll") (i := 3)); exact rfl; walk_at "go"; walk_at "go"; (first | (apply ixN_at; walk_at "sd") | skip); exact rfl; walk_at "vis"; (exact fun _ => rfl); exact rfl; exact rfl; exact rfl; decide; decide) | ((with_reducible apply bk_sto (x := "receiver") (i := 4)); exact rfl; walk_at "go"; walk_at "go"; (first | (apply ixN_at; walk_at "sd") | skip); exact rfl; walk_at "vis"; (exact fun _ => rfl); exact rfl; exact rfl; exact rfl; decide; decide) | ((with_reducible apply bk_sto (x := "phase") (i := 5)); exact rfl; walk_at "go"; walk_at "go"; (first | (apply ixN_at; walk_at "sd") | skip); exact rfl; walk_at "vis"; (exact fun _ => rfl); exact rfl; exact rfl; exact rfl; decide; decide) | ((with_reducible apply bk_sto (x := "signal") (i := 6)); exact rfl; walk_at "go"; walk_at "go"; (first | (apply ixN_at; walk_at "sd") | skip); exact rfl; walk_at "vis"; (exact fun _ => rfl); exact rfl; exact rfl; exact rfl; decide; decide) | ((with_reducible apply bk_sto (x := "lines") (i := 7)); exact rfl; walk_at "go"; walk_at "go"; (first | (apply ixN_at; walk_at "sd") | skip); exact rfl; walk_at "vis"; (exact fun _ => rfl); exact rfl; exact rfl; exact rfl; decide; decide) | ((with_reducible apply bk_sto (x := "text") (i := 8)); exact rfl; walk_at "go"; walk_at "go"; (first | (apply ixN_at; walk_at "sd") | skip); exact rfl; walk_at "vis"; (exact fun _ => rfl); exact rfl; exact rfl; exact rfl; decide; decide) | ((with_reducible apply bk_sto (x := "wide") (i := 9)); exact rfl; walk_at "go"; walk_at "go"; (first | (apply ixN_at; walk_at "sd") | skip); exact rfl; walk_at "vis"; (exact fun _ => rfl); exact rfl; exact rfl; exact rfl; decide; decide) | ((with_reducible apply bk_sto (x := "k") (i := 10)); exact rfl; walk_at "go"; walk_at "go"; (first | (apply ixN_at; walk_at "sd") | skip); exact rfl; walk_at "vis"; (exact fun _ => rfl); exact rfl; exact rfl; exact rfl; decide; decide) | ((with_reducible apply bk_sto (x := "other") (i := 11)); exact rfl; walk_at "go"; walk_at "go"; (first | (apply ixN_at; walk_at "sd") | skip); exact rfl; walk_at "vis"; (exact fun _ => rfl); exact rfl; exact rfl; exact rfl; decide; decide) | ((with_reducible apply bk_sto (x := "told") (i := 12)); exact rfl; walk_at "go"; walk_at "go"; (first | (apply ixN_at; walk_at "sd") | skip); exact rfl; walk_at "vis"; (exact fun _ => rfl); exact rfl; exact rfl; exact rfl; decide; decide) | ((with_reducible apply bk_sto (x := "time") (i := 13)); exact rfl; walk_at "go"; walk_at "go"; (first | (apply ixN_at; walk_at "sd") | skip); exact rfl; walk_at "vis"; (exact fun _ => rfl); exact rfl; exact rfl; exact rfl; decide; decide))
local macro_rules | `(tactic| walk_at "own") => `(tactic| first | ((with_reducible apply ev_ixOwnF (x := "script") (i := 0)); exact rfl; walk_at "go"; (first | walk_at "at" | skip); exact rfl; walk_at "vis"; (exact fun _ _ => rfl); decide; decide) | ((with_reducible apply ev_ixOwnF (x := "draws") (i := 1)); exact rfl; walk_at "go"; (first | walk_at "at" | skip); exact rfl; walk_at "vis"; (exact fun _ _ => rfl); decide; decide) | ((with_reducible apply ev_ixOwnF (x := "limit") (i := 2)); exact rfl; walk_at "go"; (first | walk_at "at" | skip); exact rfl; walk_at "vis"; (exact fun _ _ => rfl); decide; decide) | ((with_reducible apply ev_ixOwnF (x := "poll") (i := 3)); exact rfl; walk_at "go"; (first | walk_at "at" | skip); exact rfl; walk_at "vis"; (exact fun _ _ => rfl); decide; decide) | ((with_reducible apply ev_ixOwnF (x := "receiver") (i := 4)); exact rfl; walk_at "go"; (first | walk_at "at" | skip); exact rfl; walk_at "vis"; (exact fun _ _ => rfl); decide; decide) | ((with_reducible apply ev_ixOwnF (x := "phase") (i := 5)); exact rfl; walk_at "go"; (first | walk_at "at" | skip); exact rfl; walk_at "vis"; (exact fun _ _ => rfl); decide; decide) | ((with_reducible apply ev_ixOwnF (x := "signal") (i := 6)); exact rfl; walk_at "go"; (first | walk_at "at" | skip); exact rfl; walk_at "vis"; (exact fun _ _ => rfl); decide; decide) | ((with_reducible apply ev_ixOwnF (x := "lines") (i := 7)); exact rfl; walk_at "go"; (first | walk_at "at" | skip); exact rfl; walk_at "vis"; (exact fun _ _ => rfl); decide; decide) | ((with_reducible apply ev_ixOwnF (x := "text") (i := 8)); exact rfl; walk_at "go"; (first | walk_at "at" | skip); exact rfl; walk_at "vis"; (exact fun _ _ => rfl); decide; decide) | ((with_reducible apply ev_ixOwnF (x := "wide") (i := 9)); exact rfl; walk_at "go"; (first | walk_at "at" | skip); exact rfl; walk_at "vis"; (exact fun _ _ => rfl); decide; decide) | ((with_reducible apply ev_ixOwnF (x := "k") (i := 10)); exact rfl; walk_at "go"; (first | walk_at "at" | skip); exact rfl; walk_at "vis"; (exact fun _ _ => rfl); decide; decide) | ((with_reducible apply ev_ixOwnF (x := "other") (i := 11)); exact rfl; walk_at "go"; (first | walk_at "at" | skip); exact rfl; walk_at "vis"; (exact fun _ _ => rfl); decide; decide) | ((with_reducible apply ev_ixOwnF (x := "told") (i := 12)); exact rfl; walk_at "go"; (first | walk_at "at" | skip); exact rfl; walk_at "vis"; (exact fun _ _ => rfl); decide; decide) | ((with_reducible apply ev_ixOwnF (x := "time") (i := 13)); exact rfl; walk_at "go"; (first | walk_at "at" | skip); exact rfl; walk_at "vis"; (exact fun _ _ => rfl); decide; decide))
local macro_rules | `(tactic| walk_at "tg") => `(tactic| first | ((with_reducible apply tg_name (x := "script") (i := 0)); exact sc_law.nd; exact rfl; walk_at "loc"; walk_at "loc") | ((with_reducible apply tg_name (x := "draws") (i := 1)); exact sc_law.nd; exact rfl; walk_at "loc"; walk_at "loc") | ((with_reducible apply tg_name (x := "limit") (i := 2)); exact sc_law.nd; exact rfl; walk_at "loc"; walk_at "loc") | ((with_reducible apply tg_name (x := "poll") (i := 3)); exact sc_law.nd; exact rfl; walk_at "loc"; walk_at "loc") | ((with_reducible apply tg_name (x := "receiver") (i := 4)); exact sc_law.nd; exact rfl; walk_at "loc"; walk_at "loc") | ((with_reducible apply tg_name (x := "phase") (i := 5)); exact sc_law.nd; exact rfl; walk_at "loc"; walk_at "loc") | ((with_reducible apply tg_name (x := "signal") (i := 6)); exact sc_law.nd; exact rfl; walk_at "loc"; walk_at "loc") | ((with_reducible apply tg_name (x := "lines") (i := 7)); exact sc_law.nd; exact rfl; walk_at "loc"; walk_at "loc") | ((with_reducible apply tg_name (x := "text") (i := 8)); exact sc_law.nd; exact rfl; walk_at "loc"; walk_at "loc") | ((with_reducible apply tg_name (x := "wide") (i := 9)); exact sc_law.nd; exact rfl; walk_at "loc"; walk_at "loc") | ((with_reducible apply tg_name (x := "k") (i := 10)); exact sc_law.nd; exact rfl; walk_at "loc"; walk_at "loc") | ((with_reducible apply tg_name (x := "other") (i := 11)); exact sc_law.nd; exact rfl; walk_at "loc"; walk_at "loc") | ((with_reducible apply tg_name (x := "told") (i := 12)); exact sc_law.nd; exact rfl; walk_at "loc"; walk_at "loc") | ((with_reducible apply tg_name (x := "time") (i := 13)); exact sc_law.nd; exact rfl; walk_at "loc"; walk_at "loc"))
local macro_rules | `(tactic| walk_at "rng") => `(tactic| first | ((with_reducible apply bk_rng2 (x := "script") (k := 0)); walk_at "go"; walk_at "go"; exact sc_law.nd; exact rfl; walk_at "loc"; exact (by simp [env0]); exact rfl; walk_at "loc"; exact rfl; exact T.z_range; exact rfl; exact rfl; exact rfl) | ((with_reducible apply bk_rng2 (x := "draws") (k := 1)); walk_at "go"; walk_at "go"; exact sc_law.nd; exact rfl; walk_at "loc"; exact (by simp [env0]); exact rfl; walk_at "loc"; exact rfl; exact T.z_range; exact rfl; exact rfl; exact rfl) | ((with_reducible apply bk_rng2 (x := "limit") (k := 2)); walk_at "go"; walk_at "go"; exact sc_law.nd; exact rfl; walk_at "loc"; exact (by simp [env0]); exact rfl; walk_at "loc"; exact rfl; exact T.z_range; exact rfl; exact rfl; exact rfl) | ((with_reducible apply bk_rng2 (x := "poll") (k := 3)); walk_at "go"; walk_at "go"; exact sc_law.nd; exact rfl; walk_at "loc"; exact (by simp [env0]); exact rfl; walk_at "loc"; exact rfl; exact T.z_range; exact rfl; exact rfl; exact rfl) | ((with_reducible apply bk_rng2 (x := "receiver") (k := 4)); walk_at "go"; walk_at "go"; exact sc_law.nd; exact rfl; walk_at "loc"; exact (by simp [env0]); exact rfl; walk_at "loc"; exact rfl; exact T.z_range; exact rfl; exact rfl; exact rfl) | ((with_reducible apply bk_rng2 (x := "phase") (k := 5)); walk_at "go"; walk_at "go"; exact sc_law.nd; exact rfl; walk_at "loc"; exact (by simp [env0]); exact rfl; walk_at "loc"; exact rfl; exact T.z_range; exact rfl; exact rfl; exact rfl) | ((with_reducible apply bk_rng2 (x := "signal") (k := 6)); walk_at "go"; walk_at "go"; exact sc_law.nd; exact rfl; walk_at "loc"; exact (by simp [env0]); exact rfl; walk_at "loc"; exact rfl; exact T.z_range; exact rfl; exact rfl; exact rfl) | ((with_reducible apply bk_rng2 (x := "lines") (k := 7)); walk_at "go"; walk_at "go"; exact sc_law.nd; exact rfl; walk_at "loc"; exact (by simp [env0]); exact rfl; walk_at "loc"; exact rfl; exact T.z_range; exact rfl; exact rfl; exact rfl) | ((with_reducible apply bk_rng2 (x := "text") (k := 8)); walk_at "go"; walk_at "go"; exact sc_law.nd; exact rfl; walk_at "loc"; exact (by simp [env0]); exact rfl; walk_at "loc"; exact rfl; exact T.z_range; exact rfl; exact rfl; exact rfl) | ((with_reducible apply bk_rng2 (x := "wide") (k := 9)); walk_at "go"; walk_at "go"; exact sc_law.nd; exact rfl; walk_at "loc"; exact (by simp [env0]); exact rfl; walk_at "loc"; exact rfl; exact T.z_range; exact rfl; exact rfl; exact rfl) | ((with_reducible apply bk_rng2 (x := "k") (k := 10)); walk_at "go"; walk_at "go"; exact sc_law.nd; exact rfl; walk_at "loc"; exact (by simp [env0]); exact rfl; walk_at "loc"; exact rfl; exact T.z_range; exact rfl; exact rfl; exact rfl) | ((with_reducible apply bk_rng2 (x := "other") (k := 11)); walk_at "go"; walk_at "go"; exact sc_law.nd; exact rfl; walk_at "loc"; exact (by simp [env0]); exact rfl; walk_at "loc"; exact rfl; exact T.z_range; exact rfl; exact rfl; exact rfl) | ((with_reducible apply bk_rng2 (x := "told") (k := 12)); walk_at "go"; walk_at "go"; exact sc_law.nd; exact rfl; walk_at "loc"; exact (by simp [env0]); exact rfl; walk_at "loc"; exact rfl; exact T.z_range; exact rfl; exact rfl; exact rfl) | ((with_reducible apply bk_rng2 (x := "time") (k := 13)); walk_at "go"; walk_at "go"; exact sc_law.nd; exact rfl; walk_at "loc"; exact (by simp [env0]); exact rfl; walk_at "loc"; exact rfl; exact T.z_range; exact rfl; exact rfl; exact rfl))
local macro_rules | `(tactic| walk_at "itr") => `(tactic| first | ((with_reducible apply iter_rngS (y := "script") (k := 0)); exact rfl; exact rgC_up (by walk_at "b62") (by walk_at "b62"); exact rfl; walk_at "vis"; decide; decide) | ((with_reducible apply iter_rngS (y := "draws") (k := 1)); exact rfl; exact rgC_up (by walk_at "b62") (by walk_at "b62"); exact rfl; walk_at "vis"; decide; decide) | ((with_reducible apply iter_rngS (y := "limit") (k := 2)); exact rfl; exact rgC_up (by walk_at "b62") (by walk_at "b62"); exact rfl; walk_at "vis"; decide; decide) | ((with_reducible apply iter_rngS (y := "poll") (k := 3)); exact rfl; exact rgC_up (by walk_at "b62") (by walk_at "b62"); exact rfl; walk_at "vis"; decide; decide) | ((with_reducible apply iter_rngS (y := "receiver") (k := 4)); exact rfl; exact rgC_up (by walk_at "b62") (by walk_at "b62"); exact rfl; walk_at "vis"; decide; decide) | ((with_reducible apply iter_rngS (y := "phase") (k := 5)); exact rfl; exact rgC_up (by walk_at "b62") (by walk_at "b62"); exact rfl; walk_at "vis"; decide; decide) | ((with_reducible apply iter_rngS (y := "signal") (k := 6)); exact rfl; exact rgC_up (by walk_at "b62") (by walk_at "b62"); exact rfl; walk_at "vis"; decide; decide) | ((with_reducible apply iter_rngS (y := "lines") (k := 7)); exact rfl; exact rgC_up (by walk_at "b62") (by walk_at "b62"); exact rfl; walk_at "vis"; decide; decide) | ((with_reducible apply iter_rngS (y := "text") (k := 8)); exact rfl; exact rgC_up (by walk_at "b62") (by walk_at "b62"); exact rfl; walk_at "vis"; decide; decide) | ((with_reducible apply iter_rngS (y := "wide") (k := 9)); exact rfl; exact rgC_up (by walk_at "b62") (by walk_at "b62"); exact rfl; walk_at "vis"; decide; decide) | ((with_reducible apply iter_rngS (y := "k") (k := 10)); exact rfl; exact rgC_up (by walk_at "b62") (by walk_at "b62"); exact rfl; walk_at "vis"; decide; decide) | ((with_reducible apply iter_rngS (y := "other") (k := 11)); exact rfl; exact rgC_up (by walk_at "b62") (by walk_at "b62"); exact rfl; walk_at "vis"; decide; decide) | ((with_reducible apply iter_rngS (y := "told") (k := 12)); exact rfl; exact rgC_up (by walk_at "b62") (by walk_at "b62"); exact rfl; walk_at "vis"; decide; decide) | ((with_reducible apply iter_rngS (y := "time") (k := 13)); exact rfl; exact rgC_up (by walk_at "b62") (by walk_at "b62"); exact rfl; walk_at "vis"; decide; decide))
local macro_rules | `(tactic| walk_at "lcl") => `(tactic| first | ((with_reducible apply evl_lc0 (own := [("time", 13)])); exact rfl; exact sc_law.nd; exact blkOk_by (N := N_law) (sc := defScope s_law) (by decide +kernel); walk_at "it"; (intro x hx s H C cl fp; walk_at "tgt"); (intro _ _ _ hi; first | (simpa using hi) | (simp at hi ⊢; omega)); (intro x hx s H C cl fp; walk_at "go"); (try walk_at "sd"); (intro _; exact rfl)) | ((with_reducible apply evl_lc1 (own := [("time", 13)])); exact rfl; exact sc_law.nd; exact blkOk_by (N := N_law) (sc := defScope s_law) (by decide +kernel); walk_at "it"; (intro x hx s H C cl fp; walk_at "tgt"); (intro _ _ _ hi; first | (simpa using hi) | (simp at hi ⊢; omega)); (intro x hx s H C cl fp; walk_at "go"); (intro x hx hcx s H C cl fp; walk_at "go"); (try walk_at "sd"); (intro _; exact rfl)))
local macro_rules | `(tactic| walk_at "lc") => `(tactic| ((with_reducible apply ev_lcOf); walk_at "lcl"))
local macro_rules | `(tactic| walk_at "lcs") => `(tactic| first | ((with_reducible apply bk_lc0 (y := "script") (i := 0) (own := [("time", 13)])); exact rfl; exact sc_law.nd; exact rfl; exact rfl; exact sw_true rfl rfl rfl (by decide +kernel); exact blkOk_by (N := N_law) (sc := defScope s_law) (by decide +kernel); walk_at "it"; (intro x hx s H C cl fp; walk_at "tgt"); (intro _ _ _ hi; first | (simpa using hi) | (simp at hi ⊢; omega)); (intro x hx s H C cl fp; walk_at "go"); (try walk_at "sd"); exact (by simp [env0]); (intro _; exact rfl)) | ((with_reducible apply bk_lc1 (y := "script") (i := 0) (own := [("time", 13)])); exact rfl; exact sc_law.nd; exact rfl; exact rfl; exact sw_true rfl rfl rfl (by decide +kernel); exact blkOk_by (N := N_law) (sc := defScope s_law) (by decide +kernel); walk_at "it"; (intro x hx s H C cl fp; walk_at "tgt"); (intro _ _ _ hi; first | (simpa using hi) | (simp at hi ⊢; omega)); (intro x hx s H C cl fp; walk_at "go"); (intro x hx hcx s H C cl fp; walk_at "go"); (try walk_at "sd"); exact (by simp [env0]); (intro _; exact rfl)) | ((with_reducible apply bk_lc0 (y := "draws") (i := 1) (own := [("time", 13)])); exact rfl; exact sc_law.nd; exact rfl; exact rfl; exact sw_true rfl rfl rfl (by decide +kernel); exact blkOk_by (N := N_law) (sc := defScope s_law) (by decide +kernel); walk_at "it"; (intro x hx s H C cl fp; walk_at "tgt"); (intro _ _ _ hi; first | (simpa using hi) | (simp at hi ⊢; omega)); (intro x hx s H C cl fp; walk_at "go"); (try walk_at "sd"); exact (by simp [env0]); (intro _; exact rfl)) | ((with_reducible apply bk_lc1 (y := "draws") (i := 1) (own := [("time", 13)])); exact rfl; exact sc_law.nd; exact rfl; exact rfl; exact sw_true rfl rfl rfl (by decide +kernel); exact blkOk_by (N := N_law) (sc := defScope s_law) (by decide +kernel); walk_at "it"; (intro x hx s H C cl fp; walk_at "tgt"); (intro _ _ _ hi; first | (simpa using hi) | (simp at hi ⊢; omega)); (intro x hx s H C cl fp; walk_at "go"); (intro x hx hcx s H C cl fp; walk_at "go"); (try walk_at "sd"); exact (by simp [env0]); (intro _; exact rfl)) | ((with_reducible apply bk_lc0 (y := "limit") (i := 2) (own := [("time", 13)])); exact rfl; exact sc_law.nd; exact rfl; exact rfl; exact sw_true rfl rfl rfl (by decide +kernel); exact blkOk_by (N := N_law) (sc := defScope s_law) (by decide +kernel); walk_at "it"; (intro x hx s H C cl fp; walk_at "tgt"); (intro _ _ _ hi; first | (simpa using hi) | (simp at hi ⊢; omega)); (intro x hx s H C cl fp; walk_at "go"); (try walk_at "sd"); exact (by simp [env0]); (intro _; exact rfl)) | ((with_reducible apply bk_lc1 (y := "limit") (i := 2) (own := [("time", 13)])); exact rfl; exact sc_law.nd; exact rfl; exact rfl; exact sw_true rfl rfl rfl (by decide +kernel); exact blkOk_by (N := N_law) (sc := defScope s_law) (by decide +kernel); walk_at "it"; (intro x hx s H C cl fp; walk_at "tgt"); (intro _ _ _ hi; first | (simpa using hi) | (simp at hi ⊢; omega)); (intro x hx s H C cl fp; walk_at "go"); (intro x hx hcx s H C cl fp; walk_at "go"); (try walk_at "sd"); exact (by simp [env0]); (intro _; exact rfl)) | ((with_reducible apply bk_lc0 (y := "poll") (i := 3) (own := [("time", 13)])); exact rfl; exact sc_law.nd; exact rfl; exact rfl; exact sw_true rfl rfl rfl (by decide +kernel); exact blkOk_by (N := N_law) (sc := defScope s_law) (by decide +kernel); walk_at "it"; (intro x hx s H C cl fp; walk_at "tgt"); (intro _ _ _ hi; first | (simpa using hi) | (simp at hi ⊢; omega)); (intro x hx s H C cl fp; walk_at "go"); (try walk_at "sd"); exact (by simp [env0]); (intro _; exact rfl)) | ((with_reducible apply bk_lc1 (y := "poll") (i := 3) (own := [("time", 13)])); exact rfl; exact sc_law.nd; exact rfl; exact rfl; exact sw_true rfl rfl rfl (by decide +kernel); exact blkOk_by (N := N_law) (sc := defScope s_law) (by decide +kernel); walk_at "it"; (intro x hx s H C cl fp; walk_at "tgt"); (intro _ _ _ hi; first | (simpa using hi) | (simp at hi ⊢; omega)); (intro x hx s H C cl fp; walk_at "go"); (intro x hx hcx s H C cl fp; walk_at "go"); (try walk_at "sd"); exact (by simp [env0]); (intro _; exact rfl)) | ((with_reducible apply bk_lc0 (y := "receiver") (i := 4) (own := [("time", 13)])); exact rfl; exact sc_law.nd; exact rfl; exact rfl; exact sw_true rfl rfl rfl (by decide +kernel); exact blkOk_by (N := N_law) (sc := defScope s_law) (by decide +kernel); walk_at "it"; (intro x hx s H C cl fp; walk_at "tgt"); (intro _ _ _ hi; first | (simpa using hi) | (simp at hi ⊢; omega)); (intro x hx s H C cl fp; walk_at "go"); (try walk_at "sd"); exact (by simp [env0]); (intro _; exact rfl)) | ((with_reducible apply bk_lc1 (y := "receiver") (i := 4) (own := [("time", 13)])); exact rfl; exact sc_law.nd; exact rfl; exact rfl; exact sw_true rfl rfl rfl (by decide +kernel); exact blkOk_by (N := N_law) (sc := defScope s_law) (by decide +kernel); walk_at "it"; (intro x hx s H C cl fp; walk_at "tgt"); (intro _ _ _ hi; first | (simpa using hi) | (simp at hi ⊢; omega)); (intro x hx s H C cl fp; walk_at "go"); (intro x hx hcx s H C cl fp; walk_at "go"); (try walk_at "sd"); exact (by simp [env0]); (intro _; exact rfl)) | ((with_reducible apply bk_lc0 (y := "phase") (i := 5) (own := [("time", 13)])); exact rfl; exact sc_law.nd; exact rfl; exact rfl; exact sw_true rfl rfl rfl (by decide +kernel); exact blkOk_by (N := N_law) (sc := defScope s_law) (by decide +kernel); walk_at "it"; (intro x hx s H C cl fp; walk_at "tgt"); (intro _ _ _ hi; first | (simpa using hi) | (simp at hi ⊢; omega)); (intro x hx s H C cl fp; walk_at "go"); (try walk_at "sd"); exact (by simp [env0]); (intro _; exact rfl)) | ((with_reducible apply bk_lc1 (y := "phase") (i := 5) (own := [("time", 13)])); exact rfl; exact sc_law.nd; exact rfl; exact rfl; exact sw_true rfl rfl rfl (by decide +kernel); exact blkOk_by (N := N_law) (sc := defScope s_law) (by decide +kernel); walk_at "it"; (intro x hx s H C cl fp; walk_at "tgt"); (intro _ _ _ hi; first | (simpa using hi) | (simp at hi ⊢; omega)); (intro x hx s H C cl fp; walk_at "go"); (intro x hx hcx s H C cl fp; walk_at "go"); (try walk_at "sd"); exact (by simp [env0]); (intro _; exact rfl)) | ((with_reducible apply bk_lc0 (y := "signal") (i := 6) (own := [("time", 13)])); exact rfl; exact sc_law.nd; exact rfl; exact rfl; exact sw_true rfl rfl rfl (by decide +kernel); exact blkOk_by (N := N_law) (sc := defScope s_law) (by decide +kernel); walk_at "it"; (intro x hx s H C cl fp; walk_at "tgt"); (intro _ _ _ hi; first | (simpa using hi) | (simp at hi ⊢; omega)); (intro x hx s H C cl fp; walk_at "go"); (try walk_at "sd"); exact (by simp [env0]); (intro _; exact rfl)) | ((with_reducible apply bk_lc1 (y := "signal") (i := 6) (own := [("time", 13)])); exact rfl; exact sc_law.nd; exact rfl; exact rfl; exact sw_true rfl rfl rfl (by decide +kernel); exact blkOk_by (N := N_law) (sc := defScope s_law) (by decide +kernel); walk_at "it"; (intro x hx s H C cl fp; walk_at "tgt"); (intro _ _ _ hi; first | (simpa using hi) | (simp at hi ⊢; omega)); (intro x hx s H C cl fp; walk_at "go"); (intro x hx hcx s H C cl fp; walk_at "go"); (try walk_at "sd"); exact (by simp [env0]); (intro _; exact rfl)) | ((with_reducible apply bk_lc0 (y := "lines") (i := 7) (own := [("time", 13)])); exact rfl; exact sc_law.nd; exact rfl; exact rfl; exact sw_true rfl rfl rfl (by decide +kernel); exact blkOk_by (N := N_law) (sc := defScope s_law) (by decide +kernel); walk_at "it"; (intro x hx s H C cl fp; walk_at "tgt"); (intro _ _ _ hi; first | (simpa using hi) | (simp at hi ⊢; omega)); (intro x hx s H C cl fp; walk_at "go"); (try walk_at "sd"); exact (by simp [env0]); (intro _; exact rfl)) | ((with_reducible apply bk_lc1 (y := "lines") (i := 7) (own := [("time", 13)])); exact rfl; exact sc_law.nd; exact rfl; exact rfl; exact sw_true rfl rfl rfl (by decide +kernel); exact blkOk_by (N := N_law) (sc := defScope s_law) (by decide +kernel); walk_at "it"; (intro x hx s H C cl fp; walk_at "tgt"); (intro _ _ _ hi; first | (simpa using hi) | (simp at hi ⊢; omega)); (intro x hx s H C cl fp; walk_at "go"); (intro x hx hcx s H C cl fp; walk_at "go"); (try walk_at "sd"); exact (by simp [env0]); (intro _; exact rfl)) | ((with_reducible apply bk_lc0 (y := "text") (i := 8) (own := [("time", 13)])); exact rfl; exact sc_law.nd; exact rfl; exact rfl; exact sw_true rfl rfl rfl (by decide +kernel); exact blkOk_by (N := N_law) (sc := defScope s_law) (by decide +kernel); walk_at "it"; (intro x hx s H C cl fp; walk_at "tgt"); (intro _ _ _ hi; first | (simpa using hi) | (simp at hi ⊢; omega)); (intro x hx s H C cl fp; walk_at "go"); (try walk_at "sd"); exact (by simp [env0]); (intro _; exact rfl)) | ((with_reducible apply bk_lc1 (y := "text") (i := 8) (own := [("time", 13)])); exact rfl; exact sc_law.nd; exact rfl; exact rfl; exact sw_true rfl rfl rfl (by decide +kernel); exact blkOk_by (N := N_law) (sc := defScope s_law) (by decide +kernel); walk_at "it"; (intro x hx s H C cl fp; walk_at "tgt"); (intro _ _ _ hi; first | (simpa using hi) | (simp at hi ⊢; omega)); (intro x hx s H C cl fp; walk_at "go"); (intro x hx hcx s H C cl fp; walk_at "go"); (try walk_at "sd"); exact (by simp [env0]); (intro _; exact rfl)) | ((with_reducible apply bk_lc0 (y := "wide") (i := 9) (own := [("time", 13)])); exact rfl; exact sc_law.nd; exact rfl; exact rfl; exact sw_true rfl rfl rfl (by decide +kernel); exact blkOk_by (N := N_law) (sc := defScope s_law) (by decide +kernel); walk_at "it"; (intro x hx s H C cl fp; walk_at "tgt"); (intro _ _ _ hi; first | (simpa using hi) | (simp at hi ⊢; omega)); (intro x hx s H C cl fp; walk_at "go"); (try walk_at "sd"); exact (by simp [env0]); (intro _; exact rfl)) | ((with_reducible apply bk_lc1 (y := "wide") (i := 9) (own := [("time", 13)])); exact rfl; exact sc_law.nd; exact rfl; exact rfl; exact sw_true rfl rfl rfl (by decide +kernel); exact blkOk_by (N := N_law) (sc := defScope s_law) (by decide +kernel); walk_at "it"; (intro x hx s H C cl fp; walk_at "tgt"); (intro _ _ _ hi; first | (simpa using hi) | (simp at hi ⊢; omega)); (intro x hx s H C cl fp; walk_at "go"); (intro x hx hcx s H C cl fp; walk_at "go"); (try walk_at "sd"); exact (by simp [env0]); (intro _; exact rfl)) | ((with_reducible apply bk_lc0 (y := "k") (i := 10) (own := [("time", 13)])); exact rfl; exact sc_law.nd; exact rfl; exact rfl; exact sw_true rfl rfl rfl (by decide +kernel); exact blkOk_by (N := N_law) (sc := defScope s_law) (by decide +kernel); walk_at "it"; (intro x hx s H C cl fp; walk_at "tgt"); (intro _ _ _ hi; first | (simpa using hi) | (simp at hi ⊢; omega)); (intro x hx s H C cl fp; walk_at "go"); (try walk_at "sd"); exact (by simp [env0]); (intro _; exact rfl)) | ((with_reducible apply bk_lc1 (y := "k") (i := 10) (own := [("time", 13)])); exact rfl; exact sc_law.nd; exact rfl; exact rfl; exact sw_true rfl rfl rfl (by decide +kernel); exact blkOk_by (N := N_law) (sc := defScope s_law) (by decide +kernel); walk_at "it"; (intro x hx s H C cl fp; walk_at "tgt"); (intro _ _ _ hi; first | (simpa using hi) | (simp at hi ⊢; omega)); (intro x hx s H C cl fp; walk_at "go"); (intro x hx hcx s H C cl fp; walk_at "go"); (try walk_at "sd"); exact (by simp [env0]); (intro _; exact rfl)) | ((with_reducible apply bk_lc0 (y := "other") (i := 11) (own := [("time", 13)])); exact rfl; exact sc_law.nd; exact rfl; exact rfl; exact sw_true rfl rfl rfl (by decide +kernel); exact blkOk_by (N := N_law) (sc := defScope s_law) (by decide +kernel); walk_at "it"; (intro x hx s H C cl fp; walk_at "tgt"); (intro _ _ _ hi; first | (simpa using hi) | (simp at hi ⊢; omega)); (intro x hx s H C cl fp; walk_at "go"); (try walk_at "sd"); exact (by simp [env0]); (intro _; exact rfl)) | ((with_reducible apply bk_lc1 (y := "other") (i := 11) (own := [("time", 13)])); exact rfl; exact sc_law.nd; exact rfl; exact rfl; exact sw_true rfl rfl rfl (by decide +kernel); exact blkOk_by (N := N_law) (sc := defScope s_law) (by decide +kernel); walk_at "it"; (intro x hx s H C cl fp; walk_at "tgt"); (intro _ _ _ hi; first | (simpa using hi) | (simp at hi ⊢; omega)); (intro x hx s H C cl fp; walk_at "go"); (intro x hx hcx s H C cl fp; walk_at "go"); (try walk_at "sd"); exact (by simp [env0]); (intro _; exact rfl)) | ((with_reducible apply bk_lc0 (y := "told") (i := 12) (own := [("time", 13)])); exact rfl; exact sc_law.nd; exact rfl; exact rfl; exact sw_true rfl rfl rfl (by decide +kernel); exact blkOk_by (N := N_law) (sc := defScope s_law) (by decide +kernel); walk_at "it"; (intro x hx s H C cl fp; walk_at "tgt"); (intro _ _ _ hi; first | (simpa using hi) | (simp at hi ⊢; omega)); (intro x hx s H C cl fp; walk_at "go"); (try walk_at "sd"); exact (by simp [env0]); (intro _; exact rfl)) | ((with_reducible apply bk_lc1 (y := "told") (i := 12) (own := [("time", 13)])); exact rfl; exact sc_law.nd; exact rfl; exact rfl; exact sw_true rfl rfl rfl (by decide +kernel); exact blkOk_by (N := N_law) (sc := defScope s_law) (by decide +kernel); walk_at "it"; (intro x hx s H C cl fp; walk_at "tgt"); (intro _ _ _ hi; first | (simpa using hi) | (simp at hi ⊢; omega)); (intro x hx s H C cl fp; walk_at "go"); (intro x hx hcx s H C cl fp; walk_at "go"); (try walk_at "sd"); exact (by simp [env0]); (intro _; exact rfl)) | ((with_reducible apply bk_lc0 (y := "time") (i := 13) (own := [("time", 13)])); exact rfl; exact sc_law.nd; exact rfl; exact rfl; exact sw_true rfl rfl rfl (by decide +kernel); exact blkOk_by (N := N_law) (sc := defScope s_law) (by decide +kernel); walk_at "it"; (intro x hx s H C cl fp; walk_at "tgt"); (intro _ _ _ hi; first | (simpa using hi) | (simp at hi ⊢; omega)); (intro x hx s H C cl fp; walk_at "go"); (try walk_at "sd"); exact (by simp [env0]); (intro _; exact rfl)) | ((with_reducible apply bk_lc1 (y := "time") (i := 13) (own := [("time", 13)])); exact rfl; exact sc_law.nd; exact rfl; exact rfl; exact sw_true rfl rfl rfl (by decide +kernel); exact blkOk_by (N := N_law) (sc := defScope s_law) (by decide +kernel); walk_at "it"; (intro x hx s H C cl fp; walk_at "tgt"); (intro _ _ _ hi; first | (simpa using hi) | (simp at hi ⊢; omega)); (intro x hx s H C cl fp; walk_at "go"); (intro x hx hcx s H C cl fp; walk_at "go"); (try walk_at "sd"); exact (by simp [env0]); (intro _; exact rfl)))
local macro_rules | `(tactic| walk_at "go") => `(tactic| ((with_reducible apply ev_addN); walk_at "go"; walk_at "log"; decide +kernel))
local macro_rules | `(tactic| walk_at "fn _law_cell") => `(tactic| exact ok_u_law_cell T (by decide))
local macro_rules | `(tactic| walk_at "fn _law_draws") => `(tactic| exact ok_u_law_draws T (by decide))
local macro_rules | `(tactic| walk_at "fn _law_signal") => `(tactic| exact ok_u_law_signal T hz)
local macro_rules | `(tactic| walk_at "fn write_trace") => `(tactic| exact ok_write_trace T hn2 hp2 hq2 hh2 hle hfew)
local macro_rules | `(tactic| walk_at "at") => `(tactic| first | with_reducible assumption | exact at_nat (by decide) rfl)
local macro_rules | `(tactic| walk_at "log") => `(tactic| first | with_reducible assumption | exact log2_small (by have := hle _ (by assumption); omega))
local macro_rules | `(tactic| walk_at "div") => `(tactic| exact ⟨by omega, by omega⟩)
local macro_rules | `(tactic| walk_at "cm") => `(tactic| with_reducible exact cmp_neDN (hu64 hr))
theorem law_ok (T : Top K mg) {f : Addr} {fd : FuncData} (F : Fun K "law" "law" s_law f fd) (ns : List Int) (hl : ns.length ≤ 63) : FnOk P w K mg base CX0 9 f fd ["script"] (spOne K [.list (ns.map .int)] (.bool true)) := by
  refine fnok_of F sc_law rfl fun cdv A outer s H E hr => ?_
  walk_at "open"
  walk_at "st"
  generalize ns.getD (Int.toNat 0) 0 = c
  walk_at "st"
  obtain ⟨n, hn⟩ : ∃ n : Nat, 2 + draw c 0 % 6 = (n : Int) := ⟨(2 + draw c 0 % 6).toNat, by omega⟩
  have hn2 : 2 ≤ n ∧ n ≤ 7 := by omega
  rw [hn]
  walk_at "st"
  obtain ⟨p, hp⟩ : ∃ p : Nat, 1 + draw c 1 % 50 = (p : Int) := ⟨(1 + draw c 1 % 50).toNat, by omega⟩
  have hp2 : 1 ≤ p ∧ p ≤ 50 := by omega
  rw [hp]
  walk_at "st"
  obtain ⟨q, hq⟩ : ∃ q : Nat, 3 + draw c 2 % 30 = (q : Int) := ⟨(3 + draw c 2 % 30).toNat, by omega⟩
  have hq2 : 3 ≤ q ∧ q ≤ 32 := by omega
  rw [hq]
  have hpp : (0 : Int) < p := by omega
  walk_at "st"
  have hm0 := Int.emod_nonneg (draw c 3) (show (p : Int) ≠ 0 by omega)
  have hm1 := Int.emod_lt_of_pos (draw c 3) hpp
  obtain ⟨h, hh⟩ : ∃ h : Nat, draw c 3 % p = (h : Int) := ⟨(draw c 3 % p).toNat, by omega⟩
  have hh2 : h < p := by omega
  rw [hh]
  generalize hzz : (if draw c 4 % 2 = 0 then 5 else 16000 : Int) = z
  have hz1 : 1 ≤ z ∧ z ≤ 16000 := by rw [← hzz]; split <;> omega
  have hz : ((0 : Int) ≤ 60 ∧ (60 : Int) ≤ 100) ∧ 1 ≤ z := ⟨⟨by decide, by decide⟩, hz1.1⟩
  have hatz : L2.atI [PyData.int 5, .int 16000] (draw c 4 % 2) = some (.int z) := by
    rw [← hzz]
    have : draw c 4 % 2 = 0 ∨ draw c 4 % 2 = 1 := by omega
    rcases this with e | e
    · rw [e, if_pos rfl]; exact at_nat (by decide) rfl
    · rw [e, if_neg (by decide)]; exact at_nat (by decide) rfl
  walk_at "st"
  generalize ns.getD (Int.toNat 1) 0 = c1
  have hk0 : (draw c1 (Int.toNat 60) % (60 + 1)).toNat ≤ 60 := by omega
  generalize (draw c1 (Int.toNat 60) % (60 + 1)).toNat = k0 at hk0
  obtain ⟨ts, hts, htl, hasc, hle0⟩ := edS_nats c1 hz1.1 k0
  have hle : ∀ t : Nat, t ∈ ts → t ≤ 1000000 := fun t ht => by
    have h1 := hle0 t ht
    have h2 : (k0 : Int) * z ≤ 60 * 16000 := Int.mul_le_mul (by omega) hz1.2 (by omega) (by omega)
    omega
  have hfew : ts.length ≤ 200 := by omega
  rw [hts]
  have g1 : ((n : Nat) : Int).natAbs.log2 < 1920 := log2_small (by omega)
  have g2 : ((p : Nat) : Int).natAbs.log2 < 1920 := log2_small (by omega)
  have g3 : ((q : Nat) : Int).natAbs.log2 < 1920 := log2_small (by omega)
  have g4 : ((h : Nat) : Int).natAbs.log2 < 1920 := log2_small (by omega)
  have hsz : ts.length ≤ sizeLine := by rw [sizeLine_eq]; omega
  have hatq : L2.atI [PyData.int p, .int q] 1 = some (.int q) := at_nat (by decide) rfl
  refine bk_set (i := 7) (d := .list [strS (TL.joinL [32] (trW n p q h))]) (Ev.to (ev_ofL (evl_lst (evs_cons (SzE.ev (by walk_at "sz")) evs_nil) (by show 1 ≤ sizeLine; decide))) (by rw [f_trace'])) sc_law.nd rfl (by walk_at "loc") rfl (by walk_at "loc") ?_
  refine bk_set (i := 7) (d := .list ((linesT n p q h ts).map strS)) (Ev.to (d := .list ([strS (TL.joinL [32] (trW n p q h))] ++ ts.map fun t => PyData.str ("edge " ++ numS ((t : Nat) : Int)))) (ev_ofL (evl_catY (evy_of (by walk_at "go")) (evy_of (by walk_at "go")) (by rw [sizeLine_eq, List.length_map, List.length_singleton]; omega))) (by
    unfold linesT traW
    rw [List.map_cons, List.map_cons, List.map_map, List.map_map]
    refine congrArg (fun l => PyData.list (strS (TL.joinL [32] (trW n p q h)) :: l)) (List.map_congr_left fun t _ => ?_)
    show PyData.str ("edge " ++ numS ((t : Nat) : Int)) = strS (TL.joinL [32] (edW t))
    rw [f_edge])) sc_law.nd rfl (by walk_at "loc") rfl (by walk_at "loc") ?_
  refine bk_set (i := 8) (d := .str (S (TL.joinL [10] (linesT n p q h ts)))) (ev_callF (x := "write_trace") (ps := ["limit", "receiver", "phase", "signal"]) (j := 1) (by walk_at "go") (ok_write_trace T hn2 hp2 hq2 hh2 hle hfew) hr (by decide) rfl (by decide) rfl rfl) sc_law.nd rfl (by walk_at "loc") rfl (by walk_at "loc") ?_
  have hls := linesT_each (n := n) (q := q) hn2.2 hp2.2 hq2.2 hh2 hle
  have hll : (linesT n p q h ts).length = ts.length + 1 := by unfold linesT traW; simp
  have hne : traW n p q h ts ≠ [] := by unfold traW; simp
  have hpr := (traW_ok (n := n) (p := p) (q := q) (h := h) (ts := ts)).plain hne
  have hwr := wdG_rows wds_bl3 wds_wl3 fr_bl3 fr_wl3 (ns.getD (Int.toNat 2) 0) (traW_ok (n := n) (p := p) (q := q) (h := h) (ts := ts)) hne
  rw [show (traW n p q h ts).map (TL.joinL [32]) = linesT n p q h ts from rfl] at hpr hwr
  generalize linesT n p q h ts = ls at hls hll hpr hwr ⊢
  have hn1 : ("\n" : Str).length = 1 := by decide +kernel
  have hjn : ((ls.map S).map (·.length)).sum + (ls.map S).length * ("\n" : Str).length ≤ 16777216 := by
    have h1 := sum_le100 hls
    rw [hn1, List.length_map]
    omega
  have evj : ∀ {X : Cx} {ρ : Envi} {e : Expr}, Ev X ρ e (.list (ls.map strS)) → Ev X ρ e (.list ((ls.map S).map .str)) := fun h => h.to (by rw [List.map_map]; rfl)
  refine bk_if (p := false) (Tst.to (d := !decide (S (TL.joinL [10] ls) = Txt.join "\n" (ls.map S))) (tst_cmp (by walk_at "go") (ev_mF (x := "join") (ev_str (x := "\n")) (evs_cons (evj (by walk_at "go")) evs_nil) (mth_join hjn) rfl rfl rfl rfl rfl) cmp_neS rfl) (by rw [join_lines]; simp)) (fun h => nomatch h) fun _ => ?_
  refine bk_nil ?_
  walk_at "mine"
  have hb2 : b62 (((ls.map strS).length : Nat) : Int) := ⟨by omega, by rw [List.length_map]; omega⟩
  refine bk_for (P := fun i r => ∃ (a3 : SV), r = [.dat (.list (ns.map .int)), .dat (.list ((draws c (Int.toNat 6)).map .int)), .dat (.int n), .dat (.int p), .dat (.tuple [.int p, .int q]), .dat (.int h), .dat (.list (ts.map dI)), .dat (.list (ls.map strS)), .dat (.str (S (TL.joinL [10] ls))), .own ((wdG bl3 wl3 (ns.getD (Int.toNat 2) 0) ls i).map strS), a3, .un, .un, .un]) (B := fun _ => False)
    (iter_range1F (by walk_at "go") hb2 rfl T.z_range rfl) ⟨_, rfl⟩ ?_ ?_ rfl PassesOwn.never
  · rintro i r d hd ⟨a3, rfl⟩
    obtain ⟨hi, rfl⟩ := get_rng hd
    have hi' : i < ls.length := by rw [List.length_map] at hi; omega
    have hwl := wdG_len (b := bl3) (g := wl3) (ns.getD (Int.toNat 2) 0) ls i
    have hws := wdG_succ (b := bl3) (g := wl3) (ns.getD (Int.toNat 2) 0) ls i
    have hat0 : L2.atI (ls.map strS) ((i : Nat) : Int) = some (strS (ls.getD i [])) := at_nat (by omega) (by
      rw [Int.toNat_natCast, List.getElem?_map, List.getD_eq_getElem?_getD, List.getElem?_eq_getElem hi']
      rfl)
    have hl100 : (ls.getD i []).length ≤ 100 := by
      rw [List.getD_eq_getElem?_getD, List.getElem?_eq_getElem hi']
      exact hls _ (List.getElem_mem hi')
    have hatB := at_bl3 i
    have hrep : Txt.replace (S (ls.getD i [])) " " "   " = S (wideL 2 (ls.getD i [])) := by
      rw [sp1, sp3, replace_S (by simp), show ([32, 32, 32] : List Nat) = List.replicate (2 + 1) 32 from rfl, repl_wide]
    have hw3 := wide_len 2 (ls.getD i [])
    have h4 : ("   " : Str).length = 3 := by decide +kernel
    have h1 : (" " : Str).length = 1 := by decide +kernel
    have hsz1 : (S (ls.getD i [])).length + ((S (ls.getD i [])).length + 1) * ("   " : Str).length ≤ 16777216 := by rw [S_len, h4]; omega
    have hrl : (repL [32] (((i : Nat) : Int) % 3)).length ≤ 3 := by rw [length_repL, List.length_singleton]; omega
    have hadd1 : (repL [32] (((i : Nat) : Int) % 3)).length + (Txt.replace (S (ls.getD i [])) " " "   ").length ≤ sizeLine := by rw [hrep, S_len, sizeLine_eq]; omega
    have hadd2 : (S (repL [32] (((i : Nat) : Int) % 3)) ++ Txt.replace (S (ls.getD i [])) " " "   ").length + (" " : Str).length ≤ sizeLine := by rw [str_app_len, hrep, h1, S_len, S_len, sizeLine_eq]; omega
    have hz1 : ((wdG bl3 wl3 (ns.getD (Int.toNat 2) 0) ls i).map strS).length < sizeLine := by rw [sizeLine_eq, List.length_map]; omega
    have hz2 : ((wdG bl3 wl3 (ns.getD (Int.toNat 2) 0) ls i).map strS ++ (if ns.getD (Int.toNat 2) 0 / (((i : Nat) : Int) + 1) % 3 = 0 then [strS (bl3 i)] else [])).length < sizeLine := by
      rw [sizeLine_eq, List.length_append, List.length_map]
      split <;> simp only [List.length_cons, List.length_nil] <;> omega
    have hws2 : (wdG bl3 wl3 (ns.getD (Int.toNat 2) 0) ls (i + 1)).map strS = (wdG bl3 wl3 (ns.getD (Int.toNat 2) 0) ls i).map strS ++ (if ns.getD (Int.toNat 2) 0 / (((i : Nat) : Int) + 1) % 3 = 0 then [strS (bl3 i)] else []) ++ [strS (wl3 (ls.getD i []) i)] := by
      rw [hws, List.map_append, List.map_append, ← List.append_assoc]
      split <;> rfl
    have hmulS : (((i : Nat) : Int) % 3) < 2 ^ 63 ∧ -(2 ^ 63) ≤ (((i : Nat) : Int) % 3) ∧ ([32] : List Nat).length * (((i : Nat) : Int) % 3).toNat ≤ sizeLine := ⟨by omega, by omega, by rw [sizeLine_eq, List.length_singleton]; omega⟩
    refine ⟨_, _, by walk_at "tgt", ?_⟩
    refine bk_ifJ (fun r => r = [.dat (.list (ns.map .int)), .dat (.list ((draws c (Int.toNat 6)).map .int)), .dat (.int n), .dat (.int p), .dat (.tuple [.int p, .int q]), .dat (.int h), .dat (.list (ts.map dI)), .dat (.list (ls.map strS)), .dat (.str (S (TL.joinL [10] ls))), .own ((wdG bl3 wl3 (ns.getD (Int.toNat 2) 0) ls i).map strS ++ (if ns.getD (Int.toNat 2) 0 / (((i : Nat) : Int) + 1) % 3 = 0 then [strS (bl3 i)] else [])), .dat (.int ((i : Nat) : Int)), .un, .un, .un]) (p := decide (ns.getD (Int.toNat 2) 0 / (((i : Nat) : Int) + 1) % 3 = 0)) (by walk_at "go") (fun h => ?_) (fun h => ?_) ?_
    · have h := of_decide_eq_true h
      refine bk_append (x := "wide") (i := 9) (d := strS (bl3 i)) rfl (ev_ix (ev_list (evs_cons ev_str (evs_cons ev_str evs_nil)) (by show 2 ≤ sizeLine; decide)) (by walk_at "go") (ix_l hatB) (fun _ _ => rfl)) hz1 rfl (by walk_at "vis") rfl rfl rfl rfl rfl rfl (by decide) (by decide) ?_
      exact bk_endN1 (by rw [if_pos h]; rfl)
    · have h := of_decide_eq_false h
      exact bk_endN1 (by rw [if_neg h, List.append_nil]; rfl)
    rintro r rfl
    refine bk_append (x := "wide") (i := 9) (d := .str (S (repL [32] (((i : Nat) : Int) % 3)) ++ Txt.replace (S (ls.getD i [])) " " "   " ++ (" " : Str))) rfl (ev_bin (ev_mulRepl (c := [32]) (by walk_at "go") (by walk_at "go") hmulS hsz1 hadd1 rfl rfl rfl rfl) ev_str (bin_addS hadd2)) hz2 rfl (by walk_at "vis") rfl rfl rfl rfl rfl rfl (by decide) (by decide) ?_
    rw [wl3_eq]
    exact bk_nil (bk_end ⟨_, by rw [hws2]; rfl⟩)
  · rintro r (⟨a3, rfl⟩ | h)
    · rw [show ((List.range (((ls.map strS).length : Nat) : Int).toNat).map fun (k : Nat) => PyData.int ((k : Nat) : Int)).length = ls.length by rw [List.length_map, List.length_range, List.length_map, Int.toNat_natCast]]
      refine bk_freeze (i := 9) rfl ?_
      have hwl := wdG_len (b := bl3) (g := wl3) (ns.getD (Int.toNat 2) 0) ls ls.length
      have hwe := wdG_each (c := ns.getD (Int.toNat 2) 0) (k := ls.length) ln_bl3 ln_wl3 hls
      generalize wdG bl3 wl3 (ns.getD (Int.toNat 2) 0) ls ls.length = wd at hwl hwe hwr ⊢
      have hjw : ((wd.map S).map (·.length)).sum + (wd.map S).length * ("\n" : Str).length ≤ 16777216 := by
        have h1 := sum_le100 hwe
        rw [hn1, List.length_map]
        omega
      have hL1 : (TL.joinL [10] ls).length ≤ 90000 := by
        have h1 := join_len hls
        omega
      have hL2 : (TL.joinL [10] wd).length ≤ 90000 := by
        have h1 := join_len hwe
        omega
      have evw : ∀ {X : Cx} {ρ : Envi} {e : Expr}, Ev X ρ e (.list (wd.map strS)) → Ev X ρ e (.list ((wd.map S).map .str)) := fun h => h.to (by rw [List.map_map]; rfl)
      refine bk_for (P := fun i r => ∃ (a b e : SV), r = [.dat (.list (ns.map .int)), .dat (.list ((draws c (Int.toNat 6)).map .int)), .dat (.int n), .dat (.int p), .dat (.tuple [.int p, .int q]), .dat (.int h), .dat (.list (ts.map dI)), .dat (.list (ls.map strS)), .dat (.str (S (TL.joinL [10] ls))), .dat (.list (wd.map strS)), a, b, e, .un]) (B := fun _ => False)
        (iter_tup (ds := [.str (S (TL.joinL [10] ls)), .str (S (TL.joinL [10] wd))]) (ev_tup (evs_cons (by walk_at "go") (evs_cons (Ev.to (ev_mF (x := "join") (ev_str (x := "\n")) (evs_cons (evw (by walk_at "go")) evs_nil) (mth_join hjw) rfl rfl rfl rfl rfl) (by rw [join_lines])) evs_nil)) (by show 2 ≤ sizeLine; decide))) ⟨_, _, _, rfl⟩ ?_ ?_ rfl PassesOwn.never
      · rintro i r d hd ⟨a, b, e, rfl⟩
        obtain ⟨l, rfl, hL, hR⟩ : ∃ l, d = .str (S l) ∧ l.length ≤ 90000 ∧ (rowsQ l).map (fun q => wds q.1) = traW n p q h ts := by
          have hm := List.mem_of_getElem? hd
          simp only [List.mem_cons, List.not_mem_nil, or_false] at hm
          rcases hm with rfl | rfl
          · exact ⟨_, rfl, hL1, hpr⟩
          · exact ⟨_, rfl, hL2, hwr⟩
        refine ⟨_, _, by walk_at "tgt", ?_⟩
        refine bk_set (i := 12) (d := .tuple [.int n, .tuple [.int p, .int q], .int h, .list (ts.map dI)]) (ev_callF (x := "read_trace") (ps := ["text"]) (j := 4) (by walk_at "go") (ok_read_trace T hn2 hp2 hq2 hh2 hasc hle hfew hL hR) hr (by decide) rfl (by decide) rfl rfl) sc_law.nd rfl (by walk_at "loc") rfl (by walk_at "loc") ?_
        have hat3 : L2.atI [PyData.int n, .tuple [.int p, .int q], .int h, .list (ts.map dI)] 3 = some (.list (ts.map dI)) := at_nat (by decide) rfl
        refine bk_if (p := false) (Tst.to (d := (!true || (!decide ((([PyData.int n, .tuple [.int p, .int q], .int h, .list (ts.map dI)].length : Nat) : Int) = 4) || (false || !true)))) (by walk_at "go") rfl) (fun h => nomatch h) fun _ => ?_
        refine bk_nil ?_
        refine bk_if (p := false) (Tst.to (d := !true) (tst_not (tst_valF (ev_callF (x := "_law_same") (ps := ["actual", "expected"]) (j := 3) (evs_consF (ev_slice (by walk_at "go") pt_none (pt_some ev_int) sl_t) (evs_consF (by walk_at "go") evs_nil rfl) rfl) (same_head T) hr (by decide) rfl (by decide) rfl rfl) fun _ => rfl)) rfl) (fun h => nomatch h) fun _ => ?_
        exact bk_nil (bk_nil (bk_end ⟨_, _, _, rfl⟩))
      · rintro r (⟨a, b, e, rfl⟩ | h)
        · walk_at "ret"
          rfl
        · exact h.elim
    · exact h.elim
end


/-! what the top has written; the law itself -/
def spLaw (K : PySem.W.Frag) : Sp := fun vs H Q _ => ∃ (a : Addr) (ns : List Int), vs = [.ref a] ∧ SqL K H a (ns.map V.int) ∧ ns.length ≤ 63 ∧ ∀ H', Q (.bl true) H'
theorem all_mk {l : PySem.W.OpenLaw} {w : World} {K : PySem.W.Frag} {h : Heap} {mg : Str → Option Value} {fa f0 f1 f2 f3 f4 f5 f6 f7 f8 f9 f10 f11 f12 f13 : Addr} (X : K.In h) (G : h.Ns mainGlobals mg) (hfa : mg "law" = some (.ref fa))
    {od0 an0 od1 an1 od2 an2 od3 an3 od4 an4 od5 an5 od6 an6 od7 an7 od8 an8 od9 an9 od10 an10 od11 an11 od12 an12 od13 an13 : Option Addr} {sl0 sl1 sl2 sl3 sl4 sl5 sl6 sl7 sl8 sl9 sl10 sl11 sl12 sl13 : Array (Option Value)} {oc0 kV0 dc0 pm0 cd0 ct0 oc1 kV1 dc1 pm1 cd1 ct1 oc2 kV2 dc2 pm2 cd2 ct2 oc3 kV3 dc3 pm3 cd3 ct3 oc4 kV4 dc4 pm4 cd4 ct4 oc5 kV5 dc5 pm5 cd5 ct5 oc6 kV6 dc6 pm6 cd6 ct6 oc7 kV7 dc7 pm7 cd7 ct7 oc8 kV8 dc8 pm8 cd8 ct8 oc9 kV9 dc9 pm9 cd9 ct9 oc10 kV10 dc10 pm10 cd10 ct10 oc11 kV11 dc11 pm11 cd11 ct11 oc12 kV12 dc12 pm12 cd12 ct12 oc13 kV13 dc13 pm13 cd13 ct13 : Value}
    (a0 : PySem.W.nsIn K mainGlobals "read_trace" = some (some (.ref f0))) (l0 : K.lookup f0 = some ⟨oc0, od0, .func (PySem.W.fnOf "read_trace" "read_trace" (defArgs s_read_trace) (defBody s_read_trace) (defScope s_read_trace) .none kV0 dc0 pm0 an0 cd0 ct0), sl0⟩) (c0 : PySem.W.codeIn K cd0 "read_trace" = true) (k0 : PySem.W.keepIn K (.ref f0) = true)
    (a1 : PySem.W.nsIn K mainGlobals "rows_of" = some (some (.ref f1))) (l1 : K.lookup f1 = some ⟨oc1, od1, .func (PySem.W.fnOf "rows_of" "rows_of" (defArgs s_rows_of) (defBody s_rows_of) (defScope s_rows_of) .none kV1 dc1 pm1 an1 cd1 ct1), sl1⟩) (c1 : PySem.W.codeIn K cd1 "rows_of" = true) (k1 : PySem.W.keepIn K (.ref f1) = true)
    (a2 : PySem.W.nsIn K mainGlobals "last_line" = some (some (.ref f2))) (l2 : K.lookup f2 = some ⟨oc2, od2, .func (PySem.W.fnOf "last_line" "last_line" (defArgs s_last_line) (defBody s_last_line) (defScope s_last_line) .none kV2 dc2 pm2 an2 cd2 ct2), sl2⟩) (c2 : PySem.W.codeIn K cd2 "last_line" = true) (k2 : PySem.W.keepIn K (.ref f2) = true)
    (a3 : PySem.W.nsIn K mainGlobals "words_of" = some (some (.ref f3))) (l3 : K.lookup f3 = some ⟨oc3, od3, .func (PySem.W.fnOf "words_of" "words_of" (defArgs s_words_of) (defBody s_words_of) (defScope s_words_of) .none kV3 dc3 pm3 an3 cd3 ct3), sl3⟩) (c3 : PySem.W.codeIn K cd3 "words_of" = true) (k3 : PySem.W.keepIn K (.ref f3) = true)
    (a4 : PySem.W.nsIn K mainGlobals "read_head" = some (some (.ref f4))) (l4 : K.lookup f4 = some ⟨oc4, od4, .func (PySem.W.fnOf "read_head" "read_head" (defArgs s_read_head) (defBody s_read_head) (defScope s_read_head) .none kV4 dc4 pm4 an4 cd4 ct4), sl4⟩) (c4 : PySem.W.codeIn K cd4 "read_head" = true) (k4 : PySem.W.keepIn K (.ref f4) = true)
    (a5 : PySem.W.nsIn K mainGlobals "read_edge" = some (some (.ref f5))) (l5 : K.lookup f5 = some ⟨oc5, od5, .func (PySem.W.fnOf "read_edge" "read_edge" (defArgs s_read_edge) (defBody s_read_edge) (defScope s_read_edge) .none kV5 dc5 pm5 an5 cd5 ct5), sl5⟩) (c5 : PySem.W.codeIn K cd5 "read_edge" = true) (k5 : PySem.W.keepIn K (.ref f5) = true)
    (a6 : PySem.W.nsIn K mainGlobals "read_number" = some (some (.ref f6))) (l6 : K.lookup f6 = some ⟨oc6, od6, .func (PySem.W.fnOf "read_number" "read_number" (defArgs s_read_number) (defBody s_read_number) (defScope s_read_number) .none kV6 dc6 pm6 an6 cd6 ct6), sl6⟩) (c6 : PySem.W.codeIn K cd6 "read_number" = true) (k6 : PySem.W.keepIn K (.ref f6) = true)
    (a7 : PySem.W.nsIn K mainGlobals "is_number" = some (some (.ref f7))) (l7 : K.lookup f7 = some ⟨oc7, od7, .func (PySem.W.fnOf "is_number" "is_number" (defArgs s_is_number) (defBody s_is_number) (defScope s_is_number) .none kV7 dc7 pm7 an7 cd7 ct7), sl7⟩) (c7 : PySem.W.codeIn K cd7 "is_number" = true) (k7 : PySem.W.keepIn K (.ref f7) = true)
    (a8 : PySem.W.nsIn K mainGlobals "write_trace" = some (some (.ref f8))) (l8 : K.lookup f8 = some ⟨oc8, od8, .func (PySem.W.fnOf "write_trace" "write_trace" (defArgs s_write_trace) (defBody s_write_trace) (defScope s_write_trace) .none kV8 dc8 pm8 an8 cd8 ct8), sl8⟩) (c8 : PySem.W.codeIn K cd8 "write_trace" = true) (k8 : PySem.W.keepIn K (.ref f8) = true)
    (a9 : PySem.W.nsIn K mainGlobals "_law_cell" = some (some (.ref f9))) (l9 : K.lookup f9 = some ⟨oc9, od9, .func (PySem.W.fnOf "_law_cell" "_law_cell" (defArgs s_u_law_cell) (defBody s_u_law_cell) (defScope s_u_law_cell) .none kV9 dc9 pm9 an9 cd9 ct9), sl9⟩) (c9 : PySem.W.codeIn K cd9 "_law_cell" = true) (k9 : PySem.W.keepIn K (.ref f9) = true)
    (a10 : PySem.W.nsIn K mainGlobals "_law_draws" = some (some (.ref f10))) (l10 : K.lookup f10 = some ⟨oc10, od10, .func (PySem.W.fnOf "_law_draws" "_law_draws" (defArgs s_u_law_draws) (defBody s_u_law_draws) (defScope s_u_law_draws) .none kV10 dc10 pm10 an10 cd10 ct10), sl10⟩) (c10 : PySem.W.codeIn K cd10 "_law_draws" = true) (k10 : PySem.W.keepIn K (.ref f10) = true)
    (a11 : PySem.W.nsIn K mainGlobals "_law_same" = some (some (.ref f11))) (l11 : K.lookup f11 = some ⟨oc11, od11, .func (PySem.W.fnOf "_law_same" "_law_same" (defArgs s_u_law_same) (defBody s_u_law_same) (defScope s_u_law_same) .none kV11 dc11 pm11 an11 cd11 ct11), sl11⟩) (c11 : PySem.W.codeIn K cd11 "_law_same" = true) (k11 : PySem.W.keepIn K (.ref f11) = true)
    (a12 : PySem.W.nsIn K mainGlobals "_law_signal" = some (some (.ref f12))) (l12 : K.lookup f12 = some ⟨oc12, od12, .func (PySem.W.fnOf "_law_signal" "_law_signal" (defArgs s_u_law_signal) (defBody s_u_law_signal) (defScope s_u_law_signal) .none kV12 dc12 pm12 an12 cd12 ct12), sl12⟩) (c12 : PySem.W.codeIn K cd12 "_law_signal" = true) (k12 : PySem.W.keepIn K (.ref f12) = true)
    (a13 : PySem.W.nsIn K mainGlobals "law" = some (some (.ref f13))) (l13 : K.lookup f13 = some ⟨oc13, od13, .func (PySem.W.fnOf "law" "law" (defArgs s_law) (defBody s_law) (defScope s_law) .none kV13 dc13 pm13 an13 cd13 ct13), sl13⟩) (c13 : PySem.W.codeIn K cd13 "law" = true) (k13 : PySem.W.keepIn K (.ref f13) = true)
    (z0 : PySem.W.nsIn K mainGlobals "bool" = some none)
    (z1 : PySem.W.nsIn K mainGlobals "enumerate" = some none)
    (z2 : PySem.W.nsIn K mainGlobals "int" = some none)
    (z3 : PySem.W.nsIn K mainGlobals "isinstance" = some none)
    (z4 : PySem.W.nsIn K mainGlobals "len" = some none)
    (z5 : PySem.W.nsIn K mainGlobals "list" = some none)
    (z6 : PySem.W.nsIn K mainGlobals "range" = some none)
    (z7 : PySem.W.nsIn K mainGlobals "str" = some none)
    (z8 : PySem.W.nsIn K mainGlobals "tuple" = some none)
    {t0 : Tok} (m0 : PySem.W.nsIn K mainGlobals "LONGEST_NUMBER" = some (some (.int 7 t0)))
    {t1 : Tok} (m1 : PySem.W.nsIn K mainGlobals "LAST_TIME" = some (some (.int 1000000 t1)))
    {t2 : Tok} (m2 : PySem.W.nsIn K mainGlobals "MOST_EDGES" = some (some (.int 256 t2)))
    : ∃ fd : FuncData, (∀ (s : Shared) (v : Value), BindsTo s fd ⟨[v], []⟩ [("script", v)]) ∧ ∀ base : Heap, K.In base → base.Ns mainGlobals mg → FnOk l.prog w K mg base CX0 9 fa fd ["script"] (spLaw K) := by
  have e := hfa.symm.trans (PySem.W.mg_of X G a13)
  cases e
  have F0 := fun_mk (st := s_read_trace) l0 c0 k0
  have B0 := F0.binds (ps := ["text"]) fun _ _ _ _ _ _ us hl => match us, hl with | [_], _ => rfl
  have F1 := fun_mk (st := s_rows_of) l1 c1 k1
  have B1 := F1.binds (ps := ["text"]) fun _ _ _ _ _ _ us hl => match us, hl with | [_], _ => rfl
  have F2 := fun_mk (st := s_last_line) l2 c2 k2
  have B2 := F2.binds (ps := ["text"]) fun _ _ _ _ _ _ us hl => match us, hl with | [_], _ => rfl
  have F3 := fun_mk (st := s_words_of) l3 c3 k3
  have B3 := F3.binds (ps := ["told"]) fun _ _ _ _ _ _ us hl => match us, hl with | [_], _ => rfl
  have F4 := fun_mk (st := s_read_head) l4 c4 k4
  have B4 := F4.binds (ps := ["line", "words"]) fun _ _ _ _ _ _ us hl => match us, hl with | [_, _], _ => rfl
  have F5 := fun_mk (st := s_read_edge) l5 c5 k5
  have B5 := F5.binds (ps := ["line", "words", "signal"]) fun _ _ _ _ _ _ us hl => match us, hl with | [_, _, _], _ => rfl
  have F6 := fun_mk (st := s_read_number) l6 c6 k6
  have B6 := F6.binds (ps := ["line", "word", "least", "greatest"]) fun _ _ _ _ _ _ us hl => match us, hl with | [_, _, _, _], _ => rfl
  have F7 := fun_mk (st := s_is_number) l7 c7 k7
  have B7 := F7.binds (ps := ["word"]) fun _ _ _ _ _ _ us hl => match us, hl with | [_], _ => rfl
  have F8 := fun_mk (st := s_write_trace) l8 c8 k8
  have B8 := F8.binds (ps := ["limit", "receiver", "phase", "signal"]) fun _ _ _ _ _ _ us hl => match us, hl with | [_, _, _, _], _ => rfl
  have F9 := fun_mk (st := s_u_law_cell) l9 c9 k9
  have B9 := F9.binds (ps := ["script", "k"]) fun _ _ _ _ _ _ us hl => match us, hl with | [_, _], _ => rfl
  have F10 := fun_mk (st := s_u_law_draws) l10 c10 k10
  have B10 := F10.binds (ps := ["cell", "count"]) fun _ _ _ _ _ _ us hl => match us, hl with | [_, _], _ => rfl
  have F11 := fun_mk (st := s_u_law_same) l11 c11 k11
  have B11 := F11.binds (ps := ["actual", "expected"]) fun _ _ _ _ _ _ us hl => match us, hl with | [_, _], _ => rfl
  have F12 := fun_mk (st := s_u_law_signal) l12 c12 k12
  have B12 := F12.binds (ps := ["cell", "many", "size"]) fun _ _ _ _ _ _ us hl => match us, hl with | [_, _, _], _ => rfl
  have F13 := fun_mk (st := s_law) l13 c13 k13
  have T : Top K mg := ⟨⟨_, _, PySem.W.mg_of X G a0, F0, B0⟩, ⟨_, _, PySem.W.mg_of X G a1, F1, B1⟩, ⟨_, _, PySem.W.mg_of X G a2, F2, B2⟩, ⟨_, _, PySem.W.mg_of X G a3, F3, B3⟩, ⟨_, _, PySem.W.mg_of X G a4, F4, B4⟩, ⟨_, _, PySem.W.mg_of X G a5, F5, B5⟩, ⟨_, _, PySem.W.mg_of X G a6, F6, B6⟩, ⟨_, _, PySem.W.mg_of X G a7, F7, B7⟩, ⟨_, _, PySem.W.mg_of X G a8, F8, B8⟩, ⟨_, _, PySem.W.mg_of X G a9, F9, B9⟩, ⟨_, _, PySem.W.mg_of X G a10, F10, B10⟩, ⟨_, _, PySem.W.mg_of X G a11, F11, B11⟩, ⟨_, _, PySem.W.mg_of X G a12, F12, B12⟩, ⟨_, _, PySem.W.mg_of X G a13, F13, F13.binds (ps := ["script"]) fun _ _ _ _ _ _ us hl => match us, hl with | [_], _ => rfl⟩, PySem.W.mg_none_of X G z0, PySem.W.mg_none_of X G z1, PySem.W.mg_none_of X G z2, PySem.W.mg_none_of X G z3, PySem.W.mg_none_of X G z4, PySem.W.mg_none_of X G z5, PySem.W.mg_none_of X G z6, PySem.W.mg_none_of X G z7, PySem.W.mg_none_of X G z8, ⟨_, PySem.W.mg_of X G m0⟩, ⟨_, PySem.W.mg_of X G m1⟩, ⟨_, PySem.W.mg_of X G m2⟩⟩
  refine ⟨PySem.W.fnOf "law" "law" (defArgs s_law) (defBody s_law) (defScope s_law) .none kV13 dc13 pm13 an13 cd13 ct13, fun s v => .of_eq rfl, fun base _ _ => ⟨fun vs H Q E h => ?_, fun A outer s H args us vs Q E hr he hb hv h => ?_⟩⟩
  · obtain ⟨a, ns, rfl, _⟩ := h
    rfl
  · obtain ⟨a, ns, rfl, hS, hl, q⟩ := h
    exact (law_ok (P := l.prog) (w := w) (base := base) T F13 ns hl).run A outer s H args us _ Q E hr he hb hv ⟨H, Same.refl _, .cons (.lst hS (DpAll.ofInts ns)) .nil, fun v G1 H1 f1 hv1 => by cases hv1; exact q H1⟩
end DL
open PySem PySem.W PyProof.Rows
set_option maxHeartbeats 0 in
theorem PySem.Challenge.cw_edgelink_k11_traces_holds : PySem.Challenge.rw_edgelink_k11_traces.Holds := by
  w_on; o_law; k_head; (case hw => w_witness2)
  k_fill
  refine L2.walk_of (l := PySem.Challenge.rw_edgelink_k11_traces) (n := 63) (k := 9) (x := "script") (CX := fun _ => L2.CX0) (sp := fun w => DL.spLaw _) rfl (by decide) rfl ⟨rfl, by decide, by decide⟩ (fun w h Y => PySem.W.kIn_of Y) ?F (fun _ _ a ns hl _ hS => ⟨a, ns, rfl, hS, hl, fun _ => rfl⟩) (fun _ _ _ _ _ h => h)
  case F =>
    intro w mg fa h KX G hmg
    refine' DL.all_mk KX G hmg ?a0 ?l0 ?c0 ?k0 ?a1 ?l1 ?c1 ?k1 ?a2 ?l2 ?c2 ?k2 ?a3 ?l3 ?c3 ?k3 ?a4 ?l4 ?c4 ?k4 ?a5 ?l5 ?c5 ?k5 ?a6 ?l6 ?c6 ?k6 ?a7 ?l7 ?c7 ?k7 ?a8 ?l8 ?c8 ?k8 ?a9 ?l9 ?c9 ?k9 ?a10 ?l10 ?c10 ?k10 ?a11 ?l11 ?c11 ?k11 ?a12 ?l12 ?c12 ?k12 ?a13 ?l13 ?c13 ?k13 ?z0 ?z1 ?z2 ?z3 ?z4 ?z5 ?z6 ?z7 ?z8 ?m0 ?m1 ?m2
    (case a0 => k_is); (case l0 => k_is); (case c0 => k_is); (case k0 => k_is); (case a1 => k_is); (case l1 => k_is); (case c1 => k_is); (case k1 => k_is); (case a2 => k_is); (case l2 => k_is); (case c2 => k_is); (case k2 => k_is); (case a3 => k_is); (case l3 => k_is); (case c3 => k_is); (case k3 => k_is); (case a4 => k_is); (case l4 => k_is); (case c4 => k_is); (case k4 => k_is); (case a5 => k_is); (case l5 => k_is); (case c5 => k_is); (case k5 => k_is); (case a6 => k_is); (case l6 => k_is); (case c6 => k_is); (case k6 => k_is); (case a7 => k_is); (case l7 => k_is); (case c7 => k_is); (case k7 => k_is); (case a8 => k_is); (case l8 => k_is); (case c8 => k_is); (case k8 => k_is); (case a9 => k_is); (case l9 => k_is); (case c9 => k_is); (case k9 => k_is); (case a10 => k_is); (case l10 => k_is); (case c10 => k_is); (case k10 => k_is); (case a11 => k_is); (case l11 => k_is); (case c11 => k_is); (case k11 => k_is); (case a12 => k_is); (case l12 => k_is); (case c12 => k_is); (case k12 => k_is); (case a13 => k_is); (case l13 => k_is); (case c13 => k_is); (case k13 => k_is); (case z0 => k_is); (case z1 => k_is); (case z2 => k_is); (case z3 => k_is); (case z4 => k_is); (case z5 => k_is); (case z6 => k_is); (case z7 => k_is); (case z8 => k_is); (case m0 => k_is); (case m1 => k_is); (case m2 => k_is)

