import PyProof.Rows.All
import Wide.All
import OpenK.AllK
import Wide.FinOn
import HandS.ForMost
import HandS.ForExc
import HandS.TryMany
import HandS.TryElse
import HandS.ExcOwn
import HandS.IsInst
import HandS.Defaults
import HandS.Conv
import HandS.Codes
import HandS.Deep
import HandS.Flow
import HandS.DictTup
import HandS.Wide
import HandS.Lambda
import KE.GoesMore
import HandS.TupAny
import HandS.Style
import HandS.SortInts
import HandS.Head0
import HandS.Head1
import HandS.Head2
import HandS.HeadEnd
import HandS.HeadHook1
import HandS.HeadHook2
import HandS.HeadHook4
import HandS.HeadWalk
import HandS.NestedK
import HandS.MakeKwOnly
import HandS.SlotsOwn
import PyProof.InstNe
import HandS.DictComp
import HandS.TupMul
import HandS.SortRule
import KE.KDictZip
import HandS.Zip
import HandS.Steps
import PyProof.ReprRoads
import PyProof.FitsInt
import PyProof.StrLawsRepr
import PySem.Challenge.RW_nobodymeets_k57_whole_lanes_and_goings_o
set_option Elab.async false
set_option linter.all false
set_option maxRecDepth 100000
set_option maxHeartbeats 2000000
/-! Own exception classes over a base that is itself a bare class over Exception; __init__ stores its one argument. -/
namespace PySem
namespace TErr
open PySem.W PySem.Calls PyProof.Rows PySem.HandSPX
open Builtin Builtin.ObjectAttr
/-- the built-in end of the chain of bases -/
abbrev endE : List Value := [.type "Exception", .type "BaseException", .type "object"]
def ownE : List Value → Bool
  | .ref _ :: r => ownE r
  | l => l == endE
theorem ownE_cases : ∀ l : List Value, ownE l = true → (∃ c r, l = .ref c :: r ∧ ownE r = true) ∨ l = endE := by
  intro l e
  cases l with
  | nil => exact .inr (beq_iff_eq.mp e)
  | cons a r =>
    cases a <;> first | exact .inl ⟨_, _, rfl, e⟩ | exact .inr (beq_iff_eq.mp e)
theorem ownE_pass (self : Value) : ∀ l : List Value, ownE l = true → refuseLoop self "__setattr__" l = pure () := by
  intro l
  induction l with
  | nil => intro e; exact absurd e (by decide)
  | cons a r ih =>
    intro e
    rcases ownE_cases (a :: r) e with ⟨c, r', q, h⟩ | q
    · injection q with q1 q2
      subst q1 q2
      rw [refuseLoop_ref]; exact ih h
    · rw [q]; exact F.store_Exception.passes self
theorem ownE_has (X : String) : ∀ l : List Value, ownE l = true → l.contains (.type X) = endE.contains (.type X) := by
  intro l
  induction l with
  | nil => intro e; exact absurd e (by decide)
  | cons a r ih =>
    intro e
    rcases ownE_cases (a :: r) e with ⟨c, r', q, h⟩ | q
    · injection q with q1 q2
      subst q1 q2
      rw [List.contains_cons, ih h]; rfl
    · rw [q]
theorem ownE_ne {l : List Value} (e : ownE l = true) : l.isEmpty = false := by
  cases l with
  | nil => exact absurd e (by decide)
  | cons _ _ => rfl

section
variable {prog : Program} {w : World} {A : Around} {E : Value → Shared → Prop} {R : Result → Shared → Prop} {hp : Heap} {g : Array GenState} {d : Drawn} {t : Nat} {os : OsState}
/-- the first store of an attribute on such an exception -/
theorem storeE {K : W.Frag} {name : Str} {tk : Tok} {v : Value} {x C : Addr} {fv : Array Value} {cd : ClassData}
    (X : K.In hp) (hx : hp.get? x = some { cls := .ref C, data := .fields fv }) (hcd : W.clsIn K C = some cd) (hm : ownE cd.mro = true) (hh : cd.hasDict = true) (ha : W.findIn K (.ref C) name = some none)
    (hq : ∀ h' tk' dx, (∀ b o, b ≠ x → hp.get? b = some o → h'.get? b = some o) → hp.objs.size ≤ dx → dx ≠ x → h'.get? x = some { cls := .ref C, dict := some dx, data := .fields fv } →
      h'.Ns1 dx (fun y => if y = name then some v else none) → R (.ok (.ret .none)) ⟨h', g, d, tk', os⟩) :
    codeAny (model prog w) A (.call (.builtin "object.__setattr__") ⟨[.ref x, .str name tk, v], []⟩) R ⟨hp, g, d, t, os⟩ := by
  have I : W.InstAt hp x { cls := .ref C, data := .fields fv } C none := ⟨hx, rfl, rfl, trivial⟩
  have SF := F.store_object
  have ne := ownE_ne hm
  have hob : cd.mro.contains (.type "object") = true := (ownE_has "object" _ hm).trans (by decide +kernel)
  have hxs : x ≠ hp.objs.size := Nat.ne_of_lt (Heap.lt_size hx)
  have sub : W.Looks (model prog w) hp (isInstance (.ref x) (.type "object")) true := I.type.andThen (W.looks_mroIn X (by unfold W.mroIn; rw [hcd, Option.bind_some, if_neg (by rw [ne]; decide), hob]))
  refine codeAny_call_builtin SF.slot.plain SF.entry (@W.check_slot (model prog w) _ _ ⟨hp, g, d, t, os⟩ "object.__setattr__" "object" "__setattr__" (.ref x) [.str name tk, v] [] _ SF.kind SF.split sub (SF.args (.ref x) (.str name tk) v) ?_)
  have hmr : W.Looks (model prog w) hp (mroOf (.ref C)) cd.mro := (W.looks_clsIn X hcd).andThen .now
  have L3 : W.Looks (model prog w) hp (storeTaker? none) none := .now
  have hcls : W.Looks (model prog w) hp (classData C) cd := W.looks_clsIn X hcd
  rw [W.osa_eq, refuse_eq]
  refine wpAny_bind (wpAny_bind (I.type.at (wpAny_bind (hmr.at ?_))))
  rw [ownE_pass _ _ hm]
  refine wpAny_pure (wpAny_bind (I.type.at (wpAny_bind ((W.looks_findIn X ha).at (wpAny_bind (L3.at ?_))))))
  show wpAny _ _ (storeInOwnDict (.ref x) (.ref C) (.str name tk) name v false) _ _ _
  obtain ⟨nm, bs, mro, ns, qn, hd, sn, sb, ab, col, del⟩ := cd
  dsimp only at hh
  subst hh
  unfold storeInOwnDict ownDictForStores
  repeat (first | with_reducible refine HandSPX.store_in_new ?_ ?_ | with_reducible refine wpAny_loadPart_at hx ?_ | with_reducible refine hcls.at ?_ | wp_step)
  · exact ⟨_, #[], _, (Heap.get?_update_ne _ _ _ _ hxs.symm).trans (Heap.get?_push_at rfl rfl), rfl, fun e he => absurd he (by simp), fun _ => rfl⟩
  · intro h' tk' hn' hs
    have hx₁ : (hp.push { cls := .type "dict", data := .dict #[] }).get? x = some { cls := .ref C, data := .fields fv } := Heap.get?_push_of_some _ hx
    refine hq h' tk' hp.objs.size (fun b o hb ho => ?_) (Nat.le_refl _) hxs.symm ?_ hn'
    · exact (hs.2 b (Nat.ne_of_lt (Heap.lt_size ho))).trans ((Heap.get?_update_ne _ _ _ _ hb).trans (Heap.get?_push_of_some _ ho))
    · exact (hs.2 x hxs).trans (Heap.get?_update_self _ hx₁ rfl)
end

/-! ### the text of __init__ (self.f = f), f one of three names -/
def iA (f : String) (p1 p2 : Pos) : Arguments := { posonlyargs := [], args := [{ arg := "self", annotation := none, pos := p1 }, { arg := PySem.Str.ofString f, annotation := none, pos := p2 }], vararg := none, kwonlyargs := [], kw_defaults := [], kwarg := none, defaults := [] }
def iB (f : String) (q1 q2 q3 q4 : Pos) : List Stmt := [.Assign [.Attribute (.Name "self" q1) (PySem.Str.ofString f) q2] (.Name (PySem.Str.ofString f) q3) q4]
def iS (f : String) : Scope := { kind := .function, names := [(PySem.Str.ofString "self", .local), (PySem.Str.ofString f, .local)], isGenerator := false, isCoroutine := false, more := [] }
def Fld (f : String) : Prop := f = "at" ∨ f = "word" ∨ f = "robot"
/-- what the written part says of such a class, at C, its __init__ at fI -/
structure ETxt (K : Frag) (mg : Str → Option Value) (nm f : String) (C fI : Addr) : Prop where
  fld : Fld f
  gC : mg (PySem.Str.ofString nm) = some (.ref C)
  cls : ∃ nm q N bs bm sn sub ab col dd k0 k1 k2 k3 k5, K.lookup C = some (excClassObj nm q C N bs bm true sn sub ab col dd k0 k1 k2 k3 k5 "Exception.__new__") ∧ ownE bm = true
  sa : findIn K (.ref C) "__setattr__" = some (some (.builtin "object.__setattr__"))
  ga : findIn K (.ref C) "__getattribute__" = some (some (.builtin "BaseException.__getattribute__"))
  gg : findIn K (.ref C) "__getattr__" = some none
  noN : findIn K (.ref C) (PySem.Str.ofString f) = some none
  iC : findIn K (.ref C) "__init__" = some (some (.ref fI))
  tC : typeIn K (.ref fI) = some (.type "function")
  kC : keepIn K (.ref C) = true
  exC : subIn K (.ref C) (.type "BaseException") = some true
  tyC : typeIn K (.ref C) = some (.type "type")
  hdC : hasDictIn K C = true
  fn : ∃ (qn : Str) (oc : Value) (od : Option Addr) (kV doc pm : Value) (an : Option Addr) (cdv ct : Value) (osl : Array (Option Value)) (p1 p2 q1 q2 q3 q4 : Pos),
    K.lookup fI = some ⟨oc, od, .func (fnOf "__init__" qn (iA f p1 p2) (iB f q1 q2 q3 q4) (iS f) .none kV doc pm an cdv ct), osl⟩ ∧ codeIn K cdv qn = true
theorem one_le (v : Value) : [v].length ≤ sizeLine := by
  rw [sizeLine_eq]
  exact (by decide : 1 ≤ 16777216)
theorem ldE {M : Model} {s : Shared} {name : Str} {scope : Scope} {L a : Addr} {cd : Value} {m : Str → Option Value} {x : Str} {pos : Pos} {v : Value} {Q : Value → Shared → Prop} {A : Around} {E : Value → Shared → Prop} (hn : s.heap.Ns L m) (hv : m x = some v) (h : Q v s)
    (hk : scope.kind = .function := by rfl) (hl : (envOfC name scope L a cd).kindOf x = some .local := by rfl) (hd : (x == ("__debug__" : Str)) = false := by decide) :
    wpAny M A (eval (.Name x pos) (envOfC name scope L a cd)) Q E s := wpAny_Name (wpAny_loadName_local hk hl hn hv h) hd
/-- behind __init__ of a fresh exception at x -/
structure InitE (f : String) (h h' : Heap) (x C dx t1 : Addr) (v : Value) : Prop where
  keep : ∀ b o, b ≠ x → h.get? b = some o → h'.get? b = some o
  obj : h'.get? x = some { cls := .ref C, dict := some dx, data := .fields #[.ref t1, .none, .none, .none, .bool false, .none] }
  dbig : h.objs.size ≤ dx
  dne : dx ≠ x
  ns : h'.Ns1 dx (fun y => if y = PySem.Str.ofString f then some v else none)
/-- a made one -/
structure MadeE (f : String) (h h' : Heap) (e C d : Addr) (v : Value) : Prop where
  keep : ∀ b o, h.get? b = some o → h'.get? b = some o
  new : h.objs.size ≤ e
  obj : ∃ oe vs, h'.get? e = some oe ∧ oe.cls = .ref C ∧ oe.dict = some d ∧ oe.data = .fields vs ∧ vs[1]? = some .none
  dbig : h.objs.size ≤ d
  dne : d ≠ e
  ns : h'.Ns1 d (fun y => if y = PySem.Str.ofString f then some v else none)
section
variable {prog : Program} {w : World} {A : Around} {E : Value → Shared → Prop} {R : Result → Shared → Prop} {s : Shared} {K : Frag} {mg : Str → Option Value} {C fI : Addr} {nm f : String}
theorem initE (T : ETxt K mg nm f C fI) {x t0 : Addr} {v : Value} (X : K.In s.heap) (hlim : s.heap.NoLimit) (hx : s.heap.get? x = some (excO C t0)) (hnx : K.lookup x = none) (hroom : A.depth < recursionLimit)
    (hq : ∀ h' tk dx, InitE f s.heap h' x C dx t0 v → R (.ok (.ret .none)) { s with heap := h', toks := tk }) :
    codeAny (model prog w) A (.call (.ref fI) ⟨[.ref x, v], []⟩) R s := by
  obtain ⟨qn, oc, od, kV, doc, pm, an, cdv, ct, osl, p1, p2, q1, q2, q3, q4, ho, hcd⟩ := T.fn
  obtain ⟨nm', q, N, bs, bm, sn, sub, ab, col, dd, k0, k1, k2, k3, k5, hC, hbm⟩ := T.cls
  have hcl : clsIn K C = some { name := nm', bases := bs, mro := .ref C :: bm, ns := N, qualname := q, hasDict := true, slotNames := sn, subclasses := sub, abstract := ab, collection := col, hasDel := false } := by unfold clsIn; rw [hC] <;> rfl
  have sa := T.sa
  have noN := T.noN
  rcases T.fld with rfl | rfl | rfl
  all_goals
    refine Att.call_fn (binds := [("self", .ref x), (_, v)]) X hlim ho hcd hroom (BindsTo.of_eq (by first | rfl | with_unfolding_all rfl)) (by first | rfl | decide | with_unfolding_all rfl) (fun s₁ IC => ?_) rfl rfl rfl
    obtain ⟨h₁, tk₁, rfl⟩ := IC.toInCall.same
    have k : ∀ b o, s.heap.get? b = some o → h₁.get? b = some o := IC.toInCall.keep
    have hn := IC.toInCall.ns
    have X₁ : K.In h₁ := X.keeps k
    have hx₁ := k _ _ hx
    show wpAny _ _ (execs _ _) _ _ _
    refine wpAny_execs_cons (plainObj_wpAny_Assign_Attribute ?_)
    refine ldE (v := v) hn (by first | rfl | with_unfolding_all rfl | kernel_rfl) (ldE (v := .ref x) hn (by first | rfl | with_unfolding_all rfl | kernel_rfl) ?_)
    refine set_plain X₁ (ox := excO C t0) (od := none) ⟨hx₁, rfl, rfl, trivial⟩ sa ?_
    refine storeE X₁ hx₁ hcl (show ownE (.ref C :: bm) = true from hbm) rfl noN (fun h₃ tk₃ dx k₃ dn dne hx₃ hn₃ => ?_)
    show wpAny _ _ (execs _ _) _ _ _
    have z : s.heap.objs.size < h₁.objs.size := hn.lt
    exact wpAny_execs_nil (hq h₃ tk₃ dx ⟨fun b o hb e => k₃ b o hb (k b o e), hx₃, Nat.le_of_lt (Nat.lt_of_lt_of_le z dn), dne, hn₃⟩)
theorem madeE (T : ETxt K mg nm f C fI) {v : Value} (X : K.In s.heap) (hlim : s.heap.NoLimit) (hroom : A.depth + 1 < recursionLimit)
    (hq : ∀ h' tk e d, MadeE f s.heap h' e C d v → R (.ok (.ret (.ref e))) { s with heap := h', toks := tk }) :
    codeAny (model prog w) A (.call (.ref C) ⟨[v], []⟩) R s := by
  obtain ⟨nm', q, N, bs, bm, sn, sub, ab, col, dd, k0, k1, k2, k3, k5, hC, hbm⟩ := T.cls
  obtain ⟨hp, g, dr, tk, os⟩ := s
  have k : ∀ b o, hp.get? b = some o → ((hp.push (kdv_tup [v])).push (excO C hp.objs.size)).get? b = some o := fun b o e => Heap.get?_push_of_some _ (Heap.get?_push_of_some _ e)
  have hget : ((hp.push (kdv_tup [v])).push (excO C hp.objs.size)).get? (hp.objs.size + 1) = some (excO C hp.objs.size) := by heap_get
  have hnx : K.lookup (hp.objs.size + 1) = none := by
    cases e : K.lookup (hp.objs.size + 1) with
    | none => rfl
    | some o =>
      have z : hp.get? (hp.objs.size + 1) = some o := X _ _ e
      exact absurd (Nat.lt_of_succ_lt (Heap.lt_size z)) (Nat.lt_irrefl _)
  refine call_own F.excBase_Exception (fun Y => (ownE_has Y bm hbm)) (X _ _ hC) (looks_findIn X T.iC) (fun self => bind_fn X self T.tC) (one_le v) ?_
  refine initE (s := ⟨(hp.push (kdv_tup [v])).push (excO C hp.objs.size), g, dr, tk, os⟩) T (X.keeps k) (hlim.keeps k) hget hnx ?_ fun h' tk' dx ⟨k', hx, dn, dne, hns⟩ => ?_
  · show A.depth + 1 < recursionLimit
    exact hroom
  · have old : ∀ b o, hp.get? b = some o → h'.get? b = some o := fun b o e => k' b o (Nat.ne_of_lt (Nat.lt_succ_of_lt (Heap.lt_size e))) (k b o e)
    have z : hp.objs.size + 1 + 1 ≤ dx := by
      first
        | (simpa only [Heap.size_push] using dn)
        | exact dn
        | (have q := dn; rw [Heap.size_push, Heap.size_push] at q; exact q)
    exact ⟨rfl, hq h' tk' (hp.objs.size + 1) dx ⟨old, Nat.le_succ _, ⟨_, _, hx, rfl, rfl, rfl, rfl⟩, Nat.le_trans (Nat.le_trans (Nat.le_succ _) (Nat.le_succ _)) z, dne, hns⟩⟩
end
end TErr
end PySem

set_option Elab.async false
set_option linter.all false
set_option maxRecDepth 100000
set_option maxHeartbeats 2000000
namespace L2
open PySem PySem.Spec PyProof.Rows
open PySem.TErr (ETxt Fld madeE MadeE)
theorem relO_one {v : V} {v' : Value} (f : Str) (r : RelV v v') (y : Str) : RelO (List.lookup y [(f, v)]) (if y = f then some v' else none) := by
  by_cases hw : y = f
  · subst hw
    rw [if_pos rfl]
    have q : List.lookup y [(y, v)] = some v := by simp [List.lookup]
    rw [q]
    exact r
  · rw [if_neg hw]
    have qw : (y == f) = false := by simpa using hw
    have q2 : List.lookup y [(f, v)] = none := by simp [List.lookup, qw]
    rw [q2]
    trivial
section
variable {X : Cx} {C fI : Addr} {nm f : String}
/-- C(e) -/
def tMkE (f : String) (C : Addr) (ta : TA) : St → Hp → XK → Prop := fun σ H Q => ta σ H fun vs H1 => ∃ v, vs = [v] ∧ ∀ d, H1 d = none → Q (.ref C) (some d) (upd H1 d (.xd [(PySem.Str.ofString f, v)]))
theorem pmk_E {a : Expr} {ta : TA} {p pos : Pos} {k : Nat} {x : Str} (T : ETxt X.K X.mg nm f C fI) (hr : Room k X.A) (ha : PA X [a] ta) (hx : x = PySem.Str.ofString nm := by rfl) (hg : Gl X x := by rfl)
    (hdb : (x == ("__debug__" : Str)) = false := by decide)
    (he : starEach (a :: []) X.env = (false, eval a X.env) :: starEach [] X.env := by rfl) (hpl : (backTo pos (starEach [] X.env)).any (·.1) = false := by rfl) :
    PMk X (.Call (.Name x p) [a] [] pos) (tMkE f C ta) := by
  intro pins s σ H Q I h
  subst hx
  refine wpAny_Call_Name_kw (ld_glob I hg T.gC ?_ hdb)
  refine PySem.W.callWith_K (h₀ := X.base) I.ok.mod.kin T.kC (thn (ha.run pos pins s σ H _ I h) fun us s1 hh => ?_) he hpl
  obtain ⟨vs, H1, I1, r1, v, ev, q1⟩ := hh
  subst ev
  refine ⟨I1.kIn, ?_⟩
  cases r1 with
  | cons rv rn =>
    rename_i v' us'
    cases rn
    show wpAny _ _ (call (.ref C) [v']) _ _ _
    have hlim := I1.nolimit
    obtain ⟨hp, g, dr, tk, os⟩ := s1
    refine wpAny_call (madeE T I1.kIn hlim (by have := hr.dp; omega) fun h' tk' e d M => ?_)
    show MkP X pins σ Q (.ref e) ⟨h', g, dr, tk', os⟩
    obtain ⟨oe, fv, hoe, hc, hd, hdat, h1⟩ := M.obj
    have hns := M.ns
    obtain ⟨G', g1, g2⟩ := restrict h' fun b => decide (b ≠ e)
    have gk : ∀ b, b ≠ e → G'.get? b = h'.get? b := fun b hb => g1 b (decide_eq_true hb)
    have ge : G'.get? e = none := g2 e (by simp)
    have old : ∀ b o, hp.get? b = some o → G'.get? b = some o := fun b o q => (gk b (Nat.ne_of_lt (Nat.lt_of_lt_of_le (Heap.lt_size q) M.new))).trans (M.keep b o q)
    have ob : ObjOk X.prog X.w (upd H1 d (.xd [(PySem.Str.ofString f, v)])) G' d (.xd [(PySem.Str.ofString f, v)]) :=
      ⟨_, hns.at (fun o q => (gk d M.dne).trans q), fun y => relO_one _ rv y⟩
    have J : Inv X pins σ (upd H1 d (.xd [(PySem.Str.ofString f, v)])) ⟨G', g, dr, tk', os⟩ := I1.laid (t' := tk') old M.dbig ob
    refine ⟨e, oe, fv, ⟨G', g, dr, tk', os⟩, _, .ref C, some d, rfl, J, fun b o q => ?_, ge, hoe, ⟨hc, hd⟩, hdat, h1, ?_, rfl, I1.bare, raises_own T.exC T.tyC, q1 d (I1.hok.fresh M.dbig)⟩
    · by_cases hb : b = e
      · have q' : G'.get? b = some o := q
        rw [hb, ge] at q'; cases q'
      · exact (gk b hb).symm.trans q
    · rw [upd_ne (Ne.symm M.dne)]
      exact I1.hok.fresh M.new
/-- raise C(e) -/
def tRaiseE (f : String) (C : Addr) (W : WX) (ta : TA) : TS := fun _ σ H => tMkE f C ta σ H fun cls d H' => W cls d σ H'
theorem ps_raiseE {a : Expr} {ta : TA} {W : WX} {p pos pos2 : Pos} {k : Nat} {x : Str} (hc : X.calm = true) (T : ETxt X.K X.mg nm f C fI) (hr : Room k X.A) (tk : Takes X W) (ha : PA X [a] ta) (hx : x = PySem.Str.ofString nm := by rfl) (hg : Gl X x := by rfl)
    (hdb : (x == ("__debug__" : Str)) = false := by decide)
    (he : starEach (a :: []) X.env = (false, eval a X.env) :: starEach [] X.env := by rfl) (hpl : (backTo pos (starEach [] X.env)).any (·.1) = false := by rfl) :
    PS X (.Raise (some (.Call (.Name x p) [a] [] pos)) none pos2) (tRaiseE f C W ta) := ps_raise hc tk (pmk_E T hr ha hx hg hdb he hpl)
/-- e.f, e the exception that the suite holds (at a; its class cls, its dict d) -/
def tGetE (f : String) (a : Addr) (cls : Value) (d : Option Addr) (te : TE) : TE := fun σ H Q => te σ H fun x H1 => x = .ref a ∧ ∃ (C dd : Addr) (v : V), cls = .ref C ∧ d = some dd ∧ H1 dd = some (.xd [(PySem.Str.ofString f, v)]) ∧ Q v H1
theorem pe_getE {a : Addr} {oe : Obj} {cls : Value} {d : Option Addr} {pn : List (Addr × Obj)} {e : Expr} {te : TE} {pos : Pos} {x : Str}
    (hT : ∀ C, cls = .ref C → ∃ nm fI, ETxt X.K X.mg nm f C fI) (hz : Zc cls d oe) (hf : ∃ vs, oe.data = .fields vs) (he : PE (X.suite a ((a, oe) :: pn)) e te) (hx : x = PySem.Str.ofString f := by rfl)
    (hb : attributeBase e x X.env (eval e X.env) = eval e X.env := by rfl) :
    PE (X.suite a ((a, oe) :: pn)) (.Attribute e x pos) (tGetE f a cls d te) := by
  refine ⟨fun pins s σ H Q I h => ?_⟩
  subst hx
  refine attr_of hb (thn (he.run pins s σ H _ I h) fun u s1 hh => ?_)
  obtain ⟨y, H1, I1, rx, ex, C, dd, v, ec, ed, ea, q⟩ := hh
  subst ex
  obtain rfl : u = Value.ref a := rx
  subst ec
  subst ed
  obtain ⟨nm, fI, T⟩ := hT C rfl
  obtain ⟨ha, _⟩ := I1.pin (a, oe) (List.mem_append_left _ List.mem_cons_self)
  obtain ⟨vs, hd⟩ := hf
  have hx : ObjOk X.prog X.w H1 s1.heap dd (.xd [(PySem.Str.ofString f, v)]) := I1.hok dd _ ea
  obtain ⟨mA, hns, hr⟩ := hx
  obtain ⟨od, ho, hl⟩ := lookIn_ns hns
  have l : List.lookup (PySem.Str.ofString f) [(PySem.Str.ofString f, v)] = some v := by simp [List.lookup]
  obtain ⟨u, hu, ru⟩ := RelO.some_of (v := v) (o := mA (PySem.Str.ofString f)) (by rw [← l]; exact hr _)
  have J : PySem.W.InstAt s1.heap a oe C (some od) := ⟨ha, hz.1, by unfold PySem.W.notCls; rw [hd] <;> rfl, by rw [hz.2]; exact ho⟩
  exact HandSPX.exc_get I1.kIn J T.ga T.gg T.exC (PySem.W.findObj_own T.hdC T.noN rfl (by rw [hl, hu])) (handed_of ru) ⟨v, H1, I1.tok _, ru, q⟩
end

/-! ### several clauses, with names or without -/
/-- a clause: the class, the slot of its name (none: no name), the suite -/
structure Cl where
  c : Value
  i : Option Nat
  ts : Addr → Value → Option Addr → TS
def clEnds (i : Option Nat) (D : Ends) : Ends := match i with
  | none => D
  | some i => { nx := fun σ' H' => D.nx (σ'.set i none) H', rt := D.rt, bk := fun σ' H' => D.bk (σ'.set i none) H', ct := fun σ' H' => D.ct (σ'.set i none) H' }
def clSt (i : Option Nat) (a : Addr) (σ : St) : St := match i with
  | none => σ
  | some i => σ.set i (some (.ref a))
def wCl (K : PySem.W.Frag) (Wout : WX) (D : Ends) : List Cl → WX
  | [] => Wout
  | l :: r => fun cls d σ H => ∃ b, PySem.W.exmOne K cls l.c = some b ∧ (b = true → ∀ a, H a = none → l.ts a cls d (clEnds l.i D) (clSt l.i a σ) H) ∧ (b = false → wCl K Wout D r cls d σ H)
def ClName (X : Cx) : Option Str → Option Nat → Prop
  | none, none => True
  | some n, some i => X.N[i]? = some n ∧ X.env.kindOf n = some .local
  | _, _ => False
inductive ClsOk (X : Cx) : List ExceptHandler → List Cl → Prop
  | nil : ClsOk X [] []
  | cons {x : Str} {n : Option Str} {l : Cl} {b₀ : Stmt} {suite : List Stmt} {np pos' : Pos} {hds : List ExceptHandler} {ls : List Cl} (hc : Names X x l.c) (hn : ClName X n l.i)
      (hsu : ∀ (a : Addr) (oe : Obj) (cls : Value) (d : Option Addr) (pn : List (Addr × Obj)), Zc cls d oe → (∃ vs, oe.data = .fields vs) → PSs (X.suite a ((a, oe) :: pn)) (b₀ :: suite) (l.ts a cls d)) (r : ClsOk X hds ls) :
      ClsOk X (.ExceptHandler (some (.Name x np)) n (b₀ :: suite) pos' :: hds) (l :: ls)
section
variable {X : Cx} {body : List Stmt} {h₀ : ExceptHandler} {hds : List ExceptHandler} {l : List Cl} {pos : Pos} {tb : WX → TS} {Wout : WX}
theorem ps_try_cls (hs : X.stack = X.env :: X.outer) (hf : X.env.frame = some X.env.locals) (hN : X.N.Nodup) (tk : Takes X Wout)
    (hb : ∀ (W : WX) (pn : List (Addr × Obj)) (xe : Value → Shared → Prop), Takes (X.tr pn xe) W → PassesOwn (model X.prog X.w) X.A X.env xe → PSs (X.tr pn xe) body (tb W))
    (hh : ClsOk X (h₀ :: hds) l) : PS X (.Try body (h₀ :: hds) [] [] pos) (fun D σ H => tb (wCl X.K Wout D l) D σ H) := by
  refine ⟨fun pins s σ H D I h => ?_⟩
  have ok := I.ok
  have hfr : X.A.frames = some (X.env :: X.outer) := by rw [ok.frames, hs]
  refine wpAny_Try_except ?_
  refine wpAny_mono ((hb (wCl X.K Wout D l) (X.pn ++ pins) (fun e s₁ => wpAny (model X.prog X.w) X.A (noteFrame e X.env) (fun _ s₂ => wpAny (model X.prog X.w) X.A (setFlight e none) (fun _ s₃ =>
    wpAny (model X.prog X.w) X.A (handleBy e X.env (h₀ :: hds)) (SP X pins D) X.xe s₃) X.xe s₂) X.xe s₁) (fun u s' xx => ?_) PassesOwn.looking).run [] s σ H D (I.toTry _) h) (fun f s1 hsp => ?_) (fun e s1 he => he)
  · obtain ⟨a, B, sI, pins', σ', H', cls, d, rfl, J', nb, up, sky, na, os, ag, w⟩ := xx
    have J : Inv X pins σ' H' sI := J'.ofTry ok
    have sky' : Sky B (X.env :: X.outer) a (Zc cls d) X.env.locals s'.heap := by rw [← hs]; exact sky
    show wpAny (model X.prog X.w) X.A (noteFrame (.ref a) X.env) _ _ _
    refine Sky.land Zc.steady hfr hf sky' fun h3 fl3 up3 => ?_
    have J3 : Inv X pins σ' H' { s' with heap := h3 } := J.landed nb fl3.1 (up.trans up3) os ag
    obtain ⟨oe3, vs3, he3, hz3, hd3⟩ := fl3.there
    have notFr : ∀ {h : Heap} {o : Obj} {vs : Array Value}, h.FunFrames B (X.env :: X.outer) → h.get? a = some o → o.data = .fields vs → a ∉ frs (X.env :: X.outer) := fun {h o vs} ff e dd hm => by
      obtain ⟨_, o', e', hnf⟩ := ff.mem hm
      rw [e] at e'; cases e'
      exact hnf _ dd
    have nfr := notFr fl3.2.2.1 he3 hd3
    have nL : a ≠ X.env.locals := fun z => nfr (List.mem_filterMap.mpr ⟨X.env, List.mem_cons_self, by rw [hf, z]⟩)
    have nF : a ∉ X.fs := fun hm => by
      obtain ⟨e, he, q⟩ := List.mem_filterMap.mp hm
      exact nfr (List.mem_filterMap.mpr ⟨e, List.mem_cons_of_mem _ he, q⟩)
    have S3 := J3.suite he3 hd3 na nL nF
    have go : ∀ {hds' : List ExceptHandler} {l' : List Cl}, ClsOk X hds' l' → wCl X.K Wout D l' cls d σ' H' →
        wpAny (model X.prog X.w) X.A (handleBy (.ref a) X.env hds') (SP X pins D) X.xe { s' with heap := h3 } := by
      intro hds' l' hk
      induction hk with
      | nil =>
        intro w
        refine wpAny_handleBy_nil ?_
        obtain ⟨k1, k2, k3, oe, vs, T, oT, ts', he, hz, hd, h1, hr⟩ := id fl3
        unfold PySem.passOn
        refine wpAny_bind (wpAny_field he hd h1 ?_)
        rw [if_neg (show ¬ ((Value.ref T == Value.none) = true) from by simp)]
        have fin : wpAny (model X.prog X.w) X.A (setFlight (.ref a) X.env.frame) (fun _ s4 => wpAny (model X.prog X.w) X.A (throw (.ref a) : Sem Flow) (SP X pins D) X.xe s4) X.xe { s' with heap := h3 } := by
          rw [hf]
          refine HandSPX.setFlight_upZ fl3 fun h4 hh4 up4 => wpAny_throw (tk _ _ ?_)
          exact ⟨a, B, sI, pins, σ', H', cls, d, rfl, J, nb, (up.trans up3).trans up4, .inr (.inr (by rw [hs]; exact hh4)), na, os, ag, w⟩
        first
          | exact wpAny_bind (wpAny_pure (wpAny_bind fin))
          | exact wpAny_bind fin
      | @cons x n lc b₀ suite np pos' hds2 l2 hc hn hsu r ih =>
        intro w
        obtain ⟨b, hb1, hyes, hno⟩ := w
        refine wpAny_handleBy_cons (codeAny_handlers_test ?_) (by intro q; cases q)
        have LT : PySem.W.Looks (model X.prog X.w) h3 (typeOf (.ref a)) cls := fun A Q E s k q => wpAny_typeOf_ref (k _ _ he3) (by rw [hz3.1]; exact q)
        have LM := PySem.W.exm_one (M := model X.prog X.w) (J3.kIn) LT hb1
        have test : ∀ {Q : Value → Shared → Prop} {E : Value → Shared → Prop}, Q lc.c { s' with heap := h3 } → wpAny (model X.prog X.w) (X.A.mark (some (.ref a))) (eval (.Name x np) X.env) Q E { s' with heap := h3 } := fun {Q E} q => by
          obtain ⟨hg, hdbg, hm | ⟨hm, hv, hnn⟩⟩ := hc
          · exact ld_glob (X := X.suite a ((a, oe3) :: (X.pn ++ pins))) S3 hg hm q hdbg
          · exact ld_blt (X := X.suite a ((a, oe3) :: (X.pn ++ pins))) S3 hg hm hv q hnn hdbg
        refine test (LM.here ?_)
        cases b with
        | true =>
          have hy := hyes rfl a na
          obtain ⟨lcc, lci, lts⟩ := lc
          cases n with
          | none =>
            cases lci with
            | some i => exact (show False from hn).elim
            | none =>
              refine codeAny_handlers_suite ?_
              refine HandSPX.lands_againZ fl3 fun h4 fl4 up4 => ?_
              have J4 : Inv X pins σ' H' { s' with heap := h4 } := J.landed nb fl4.1 ((up.trans up3).trans up4) os ag
              obtain ⟨oe4, vs4, he4, hz4, hd4⟩ := fl4.there
              have S4 := J4.suite he4 hd4 na nL nF
              refine wpAny_mono ((hsu a oe4 cls d (X.pn ++ pins) hz4 ⟨_, hd4⟩).run [] _ _ H' _ S4 hy) (fun f s6 hsp => ?_) (fun _ _ z => False.elim z)
              cases f with
              | next =>
                obtain ⟨σ6, H6, S6, q6⟩ := hsp
                exact ⟨_, _, S6.unsuite ok, q6⟩
              | brk =>
                obtain ⟨σ6, H6, S6, q6⟩ := hsp
                exact ⟨_, _, S6.unsuite ok, q6⟩
              | cont =>
                obtain ⟨σ6, H6, S6, q6⟩ := hsp
                exact ⟨_, _, S6.unsuite ok, q6⟩
              | ret u =>
                obtain ⟨v6, σ6, H6, S6, r6, q6⟩ := hsp
                exact ⟨_, _, _, S6.unsuite ok, r6, q6⟩
          | some nn =>
            cases lci with
            | none => exact (show False from hn).elim
            | some i =>
              obtain ⟨hi, hln⟩ := hn
              have hloc : Loc X.env.scope nn := .inl hln
              refine codeAny_handlers_suite_as ?_
              refine HandSPX.lands_againZ fl3 fun h4 fl4 up4 => ?_
              have J4 : Inv X pins σ' H' { s' with heap := h4 } := J.landed nb fl4.1 ((up.trans up3).trans up4) os ag
              obtain ⟨oe4, vs4, he4, hz4, hd4⟩ := fl4.there
              have S4 := J4.suite he4 hd4 na nL nF
              refine store_ok (X := X.suite a ((a, oe4) :: (X.pn ++ pins))) (v := .ref a) S4 hN hi hloc rfl (fun s5 S5 => ?_) (.inr hln)
              refine wpAny_mono ((hsu a oe4 cls d (X.pn ++ pins) hz4 ⟨_, hd4⟩).run [] s5 _ H' _ S5 hy) (fun f s6 hsp => ?_) (fun _ _ z => False.elim z)
              have end_ : ∀ {σ6 : St} {H6 : Hp} {Q : Shared → Prop}, Inv (X.suite a ((a, oe4) :: (X.pn ++ pins))) [] σ6 H6 s6 → (∀ s7, Inv X pins (σ6.set i none) H6 s7 → Q s7) →
                  wpAny (model X.prog X.w) X.A (do bindName X.env nn .none; unbindBehindTheSuite X.env nn pos') (fun _ s7 => Q s7) X.xe s6 := fun {σ6 H6 Q} S6 hq => gone_ok (S6.unsuite ok) hN hi hln hq
              cases f with
              | next =>
                obtain ⟨σ6, H6, S6, q6⟩ := hsp
                exact end_ S6 fun s7 J7 => ⟨_, _, J7, q6⟩
              | brk =>
                obtain ⟨σ6, H6, S6, q6⟩ := hsp
                exact end_ S6 fun s7 J7 => ⟨_, _, J7, q6⟩
              | cont =>
                obtain ⟨σ6, H6, S6, q6⟩ := hsp
                exact end_ S6 fun s7 J7 => ⟨_, _, J7, q6⟩
              | ret u =>
                obtain ⟨v6, σ6, H6, S6, r6, q6⟩ := hsp
                exact end_ S6 fun s7 J7 => ⟨_, _, _, J7, r6, q6⟩
        | false =>
          show wpAny _ X.A (handleBy (.ref a) X.env hds2) _ _ _
          exact ih (hno rfl)
    exact go hh w
  · cases f with
    | next =>
      obtain ⟨σ', H', J', q⟩ := hsp
      exact wpAny_execs_nil ⟨σ', H', J'.ofTry ok, q⟩
    | brk =>
      obtain ⟨σ', H', J', q⟩ := hsp
      exact ⟨σ', H', J'.ofTry ok, q⟩
    | cont =>
      obtain ⟨σ', H', J', q⟩ := hsp
      exact ⟨σ', H', J'.ofTry ok, q⟩
    | ret u =>
      obtain ⟨v, σ', H', J', r, q⟩ := hsp
      exact ⟨v, σ', H', J'.ofTry ok, r, q⟩
end
end L2

set_option Elab.async false
set_option linter.all false
set_option maxRecDepth 100000
set_option maxHeartbeats 2000000
/-! The same classes called with their one argument by its name; bare ones called without. -/
namespace PySem
namespace TErr
open PySem.W PySem.Calls PyProof.Rows PySem.HandSPX
open Builtin Builtin.ObjectAttr
section
variable {M : Model} {A : Around} {E : Value → Shared → Prop} {h : Heap} {g : Array GenState} {d : Drawn} {t : Nat} {os : OsState}
variable {nm q : Str} {C N : Addr} {bs bm bmB : List Value} {hdct : Bool} {sn : List Str} {sub : List Value} {ab : Bool} {col : Option Bool} {dd : Option Addr} {k0 k1 k2 k3 k5 : Option Value} {B newId initId : String}
theorem check_newK (F : ExcBaseFacts B newId initId bmB) (hT : ∀ X : String, bm.contains (.type X) = bmB.contains (.type X)) {kw : List (Str × Value)} {Q : Unit → Shared → Prop}
    (hC : h.get? C = some (excClassObj nm q C N bs bm hdct sn sub ab col dd k0 k1 k2 k3 k5 newId)) (hq : Q () ⟨h, g, d, t, os⟩) : wpAny M A (checkBuiltinCall newId ⟨[.ref C], kw⟩) Q E ⟨h, g, d, t, os⟩ := by
  have hcont : (Value.ref C :: bm).contains (.type B) = true := by rw [List.contains_cons, hT, F.hasB, Bool.or_true]
  have hstar := F.noStar
  simp only [checkBuiltinCall, F.newKind, F.newSplit, F.newRow]
  repeat (first | refine wpAny_loadPart_at hC ?_ | (refine wpAny_isSubtype_exc hC ?_; rw [hcont]) | refine wpAny_staticBase_exc hC ?_ | refine wpAny_madeBy_exc hC ?_ | simp only [bne_self_eq_false, Bool.false_eq_true, if_false] | wp_step)
  exact hq
end
section
variable {prog : Program} {w : World} {A : Around} {E : Value → Shared → Prop} {R : Result → Shared → Prop} {h : Heap} {g : Array GenState} {d : Drawn} {t : Nat} {os : OsState}
variable {nm q : Str} {C N : Addr} {bs bm bmB : List Value} {hdct : Bool} {sn : List Str} {sub : List Value} {ab : Bool} {col : Option Bool} {dd : Option Addr} {k0 k1 k2 k3 k5 : Option Value} {B newId initId : String}
theorem newK (F : ExcBaseFacts B newId initId bmB) (hT : ∀ X : String, bm.contains (.type X) = bmB.contains (.type X)) {kw : List (Str × Value)}
    (hC : h.get? C = some (excClassObj nm q C N bs bm hdct sn sub ab col dd k0 k1 k2 k3 k5 newId))
    (hq : R (.ok (.ret (.ref (h.objs.size + 1)))) ⟨(h.push { cls := .type "tuple", data := .seq #[] }).push
      { cls := .ref C, data := .fields #[.ref h.objs.size, .none, .none, .none, .bool false, .none] }, g, d, t, os⟩) :
    codeAny (model prog w) A (.builtin newId ⟨[.ref C], kw⟩) R ⟨h, g, d, t, os⟩ := by
  have hends := F.ends
  have hcB : (Value.ref C :: bm).contains (.type B) = true := by rw [List.contains_cons, hT, F.hasB, Bool.or_true]
  have hcA : (Value.ref C :: bm).contains (.type "AttributeError") = false := by rw [List.contains_cons, hT, F.noAttr]; rfl
  have hcN : (Value.ref C :: bm).contains (.type "NameError") = false := by rw [List.contains_cons, hT, F.noName]; rfl
  refine codeAny_builtinAt F.entry ?_
  unfold Builtin.«BaseException.__new__»
  refine wpAt_bind ?_
  show wpAt _ _ _ (stack >>= _) _ _ _
  refine wpAt_bind (wpAt_stack fun p below => wpAt_of_wpAny ?_)
  wp_walk
  refine wpAt_of_wpAny ?_
  rw [F.owner]
  repeat (first | with_reducible refine wpAny_madeHere_exc F.canon hC ?_ | with_reducible refine wpAny_loadPart_at hC ?_ | (with_reducible refine wpAny_isSubtype_exc hC ?_; first | rw [hcB] | rw [hcA] | rw [hcN]) | wp_step)
  show R _ _
  rw [Heap.size_push]
  exact hq
theorem type_callK (F : ExcBaseFacts B newId initId bmB) (hT : ∀ X : String, bm.contains (.type X) = bmB.contains (.type X)) {kw : List (Str × Value)} {fI : Addr} {Q : Fin → Shared → Prop}
    (hC : h.get? C = some (excClassObj nm q C N bs bm hdct sn sub ab col dd k0 k1 k2 k3 k5 newId))
    (hi : W.Looks (model prog w) h (typeLookup (.ref C) "__init__") (some (.ref fI))) (hb : ∀ self, W.Looks (model prog w) h (bindSpecial (.ref fI) self) (.ref fI, [self]))
    (hq : codeAny (model prog w) A (.call (.ref fI) ⟨[.ref (h.objs.size + 1)], kw⟩)
      (fun r s' => match r with | .ok (.ret v) => v = .none ∧ Q (.done (.ret (.ref (h.objs.size + 1)))) s' | .ok _ => False | .error e => E e s')
      ⟨(h.push (W.kdv_tup [])).push (excO C h.objs.size), g, d, t, os⟩) :
    wpAny (model prog w) A (Builtin.«type.__call__» ⟨[.ref C], kw⟩) Q E ⟨h, g, d, t, os⟩ := by
  repeat (first | with_reducible refine wpAny_loadPart_at hC ?_ | with_reducible refine wpAny_madeBy_exc hC ?_ | wp_step)
  refine codeAny_call_builtin_code (Code.quiet_builtin _ F.quiet) (check_newK F hT hC ?_)
  refine newK F hT hC ?_
  show wpAny _ _ _ _ _ _
  have k : ∀ b o, h.get? b = some o → ((h.push (W.kdv_tup [])).push (excO C h.objs.size)).get? b = some o := fun b o e => Heap.get?_push_of_some _ (Heap.get?_push_of_some _ e)
  have hC₁ := k _ _ hC
  have hget : ((h.push (W.kdv_tup [])).push (excO C h.objs.size)).get? (h.objs.size + 1) = some (excO C h.objs.size) := by heap_get
  have hcC : (Value.ref C :: bm).contains (.ref C) = true := by simp
  have i1 := hi.keeps k
  have b1 := (hb (.ref (h.objs.size + 1))).keeps k
  unfold isInstance
  repeat (first | with_reducible refine wpAny_loadPart_at hget ?_ | (with_reducible refine wpAny_isSubtype_exc hC₁ ?_; rw [hcC]) | wp_step)
  show wpAny _ _ (typeLookup (.ref C) _) _ _ _
  refine i1.at ?_
  refine wpAny_holding (wpAny_bind (b1.at ?_))
  refine wpAny_bind (wpAny_call (codeAny_mono hq fun r s' z => ?_))
  rcases r with e | (v | _ | _ | _) <;> first | exact z | exact z.elim | skip
  obtain ⟨rfl, z⟩ := z
  first
    | exact wpAny_pure (wpAny_pure z)
    | (wp_walk; exact z)
theorem call_K (F : ExcBaseFacts B newId initId bmB) (hT : ∀ X : String, bm.contains (.type X) = bmB.contains (.type X)) {kw : List (Str × Value)} {fI : Addr}
    (hC : h.get? C = some (excClassObj nm q C N bs bm hdct sn sub ab col dd k0 k1 k2 k3 k5 newId))
    (hi : W.Looks (model prog w) h (typeLookup (.ref C) "__init__") (some (.ref fI))) (hb : ∀ self, W.Looks (model prog w) h (bindSpecial (.ref fI) self) (.ref fI, [self]))
    (hq : codeAny (model prog w) (A.under (.builtin "type.__call__" ⟨[.ref C], kw⟩)) (.call (.ref fI) ⟨[.ref (h.objs.size + 1)], kw⟩) (W.InitBack (h.objs.size + 1) R)
      ⟨(h.push (W.kdv_tup [])).push (excO C h.objs.size), g, d, t, os⟩) :
    codeAny (model prog w) A (.call (.ref C) ⟨[], kw⟩) R ⟨h, g, d, t, os⟩ := by
  have f1 := tc_lookup
  have f2 := tc_bind (.ref C)
  have hTy : (⟨h, g, d, t, os⟩ : Shared).TypeIs (.ref C) "type" := ⟨_, hC, rfl⟩
  refine codeAny_of_tree ?_
  show wpAny _ _ (callAny (.ref C) _) _ _ _
  repeat (any_goals (first | assumption | with_reducible refine wpAny_loadPart_at hC ?_ | wp_step))
  refine ⟨rfl, ?_⟩
  refine codeAny_call_builtin_at (Code.quiet_builtin _ (by decide +kernel)) entry_typeCall (wpAny_check_type_call_sub hC (type_callK F hT hC hi hb ?_))
  refine codeAny_mono hq fun r s' z => ?_
  rcases r with e | (v | _ | _ | _) <;> exact z
end
section
variable {prog : Program} {w : World} {A : Around} {E : Value → Shared → Prop} {R : Result → Shared → Prop} {s : Shared} {K : Frag} {mg : Str → Option Value} {C fI : Addr} {nm f : String}
theorem initK (T : ETxt K mg nm f C fI) {x t0 : Addr} {v : Value} (X : K.In s.heap) (hlim : s.heap.NoLimit) (hx : s.heap.get? x = some (excO C t0)) (hnx : K.lookup x = none) (hroom : A.depth < recursionLimit)
    (hq : ∀ h' tk dx, InitE f s.heap h' x C dx t0 v → R (.ok (.ret .none)) { s with heap := h', toks := tk }) :
    codeAny (model prog w) A (.call (.ref fI) ⟨[.ref x], [(PySem.Str.ofString f, v)]⟩) R s := by
  obtain ⟨qn, oc, od, kV, doc, pm, an, cdv, ct, osl, p1, p2, q1, q2, q3, q4, ho, hcd⟩ := T.fn
  obtain ⟨nm', q, N, bs, bm, sn, sub, ab, col, dd, k0, k1, k2, k3, k5, hC, hbm⟩ := T.cls
  have hcl : clsIn K C = some { name := nm', bases := bs, mro := .ref C :: bm, ns := N, qualname := q, hasDict := true, slotNames := sn, subclasses := sub, abstract := ab, collection := col, hasDel := false } := by unfold clsIn; rw [hC] <;> rfl
  have sa := T.sa
  have noN := T.noN
  rcases T.fld with rfl | rfl | rfl
  all_goals
    refine Att.call_fn (binds := [("self", .ref x), (_, v)]) X hlim ho hcd hroom (BindsTo.of_eq (by first | rfl | with_unfolding_all rfl)) (by first | rfl | decide | with_unfolding_all rfl) (fun s₁ IC => ?_) rfl rfl rfl
    obtain ⟨h₁, tk₁, rfl⟩ := IC.toInCall.same
    have k : ∀ b o, s.heap.get? b = some o → h₁.get? b = some o := IC.toInCall.keep
    have hn := IC.toInCall.ns
    have X₁ : K.In h₁ := X.keeps k
    have hx₁ := k _ _ hx
    show wpAny _ _ (execs _ _) _ _ _
    refine wpAny_execs_cons (plainObj_wpAny_Assign_Attribute ?_)
    refine ldE (v := v) hn (by first | rfl | with_unfolding_all rfl | kernel_rfl) (ldE (v := .ref x) hn (by first | rfl | with_unfolding_all rfl | kernel_rfl) ?_)
    refine set_plain X₁ (ox := excO C t0) (od := none) ⟨hx₁, rfl, rfl, trivial⟩ sa ?_
    refine storeE X₁ hx₁ hcl (show ownE (.ref C :: bm) = true from hbm) rfl noN (fun h₃ tk₃ dx k₃ dn dne hx₃ hn₃ => ?_)
    show wpAny _ _ (execs _ _) _ _ _
    have z : s.heap.objs.size < h₁.objs.size := hn.lt
    exact wpAny_execs_nil (hq h₃ tk₃ dx ⟨fun b o hb e => k₃ b o hb (k b o e), hx₃, Nat.le_of_lt (Nat.lt_of_lt_of_le z dn), dne, hn₃⟩)
theorem madeK (T : ETxt K mg nm f C fI) {v : Value} (X : K.In s.heap) (hlim : s.heap.NoLimit) (hroom : A.depth + 1 < recursionLimit)
    (hq : ∀ h' tk e d, MadeE f s.heap h' e C d v → R (.ok (.ret (.ref e))) { s with heap := h', toks := tk }) :
    codeAny (model prog w) A (.call (.ref C) ⟨[], [(PySem.Str.ofString f, v)]⟩) R s := by
  obtain ⟨nm', q, N, bs, bm, sn, sub, ab, col, dd, k0, k1, k2, k3, k5, hC, hbm⟩ := T.cls
  obtain ⟨hp, g, dr, tk, os⟩ := s
  have k : ∀ b o, hp.get? b = some o → ((hp.push (kdv_tup [])).push (excO C hp.objs.size)).get? b = some o := fun b o e => Heap.get?_push_of_some _ (Heap.get?_push_of_some _ e)
  have hget : ((hp.push (kdv_tup [])).push (excO C hp.objs.size)).get? (hp.objs.size + 1) = some (excO C hp.objs.size) := by heap_get
  have hnx : K.lookup (hp.objs.size + 1) = none := by
    cases e : K.lookup (hp.objs.size + 1) with
    | none => rfl
    | some o =>
      have z : hp.get? (hp.objs.size + 1) = some o := X _ _ e
      exact absurd (Nat.lt_of_succ_lt (Heap.lt_size z)) (Nat.lt_irrefl _)
  refine call_K F.excBase_Exception (fun Y => (ownE_has Y bm hbm)) (X _ _ hC) (looks_findIn X T.iC) (fun self => bind_fn X self T.tC) ?_
  refine initK (s := ⟨(hp.push (kdv_tup [])).push (excO C hp.objs.size), g, dr, tk, os⟩) T (X.keeps k) (hlim.keeps k) hget hnx ?_ fun h' tk' dx ⟨k', hx, dn, dne, hns⟩ => ?_
  · show A.depth + 1 < recursionLimit
    exact hroom
  · have old : ∀ b o, hp.get? b = some o → h'.get? b = some o := fun b o e => k' b o (Nat.ne_of_lt (Nat.lt_succ_of_lt (Heap.lt_size e))) (k b o e)
    have z : hp.objs.size + 1 + 1 ≤ dx := by
      first
        | (simpa only [Heap.size_push] using dn)
        | exact dn
        | (have q := dn; rw [Heap.size_push, Heap.size_push] at q; exact q)
    exact ⟨rfl, hq h' tk' (hp.objs.size + 1) dx ⟨old, Nat.le_succ _, ⟨_, _, hx, rfl, rfl, rfl, rfl⟩, Nat.le_trans (Nat.le_trans (Nat.le_succ _) (Nat.le_succ _)) z, dne, hns⟩⟩
end
end TErr
end PySem

namespace L2
open PySem PySem.Spec PyProof.Rows
open PySem.TErr (ETxt Fld madeK MadeE)
section
variable {X : Cx} {C fI : Addr} {nm f : String}
/-- C(f = e).f -/
theorem pe_mkget {tk : TA} {kws : List Keyword} {p pos pos2 : Pos} {k : Nat} {x y : Str} (T : ETxt X.K X.mg nm f C fI) (hr : Room k X.A) (hkw : PK X kws tk) (hx : x = PySem.Str.ofString nm := by rfl) (hy : y = PySem.Str.ofString f := by rfl) (hg : Gl X x := by rfl)
    (hdb : (x == ("__debug__" : Str)) = false := by decide) (hall : (backToKw pos (keywordEach kws X.env)).all (·.1.isSome) = true := by rfl) (hks : (backToKw pos (keywordEach kws X.env)).filterMap (·.1) = [y] := by rfl)
    (hpl : ((backTo pos (starEach [] X.env)).any (·.1) || (backToKw pos (keywordEach kws X.env)).any (·.1.isNone)) = false := by rfl)
    (hb : attributeBase (.Call (.Name x p) [] kws pos) y X.env (eval (.Call (.Name x p) [] kws pos) X.env) = eval (.Call (.Name x p) [] kws pos) X.env := by rfl) :
    PE X (.Attribute (.Call (.Name x p) [] kws pos) y pos2) (fun σ H Q => tk σ H fun vs H1 => ∃ v, vs = [v] ∧ Q v H1) := by
  refine ⟨fun pins s σ H Q I h => ?_⟩
  subst hx
  refine attr_of hb (wpAny_Call_Name_kw (ld_glob I hg T.gC ?_ hdb))
  refine PySem.W.callWith_KW0 (h₀ := X.base) I.ok.mod.kin T.kC hall (thn (hkw.run pos pins s σ H _ I h) fun ws s1 ⟨zs, H1, I1, r, v, ev, q1⟩ => ⟨I1.kIn, ?_⟩) hpl
  subst ev
  rw [hks, hy]
  cases r with
  | cons rv rn =>
    rename_i v' us'
    cases rn
    have hlim := I1.nolimit
    obtain ⟨hp, g, dr, tk, os⟩ := s1
    refine wpAny_call (madeK T I1.kIn hlim (by have := hr.dp; omega) fun h' tk' e d M => ?_)
    obtain ⟨oe, fv, hoe, hc, hd, hdat, h1⟩ := M.obj
    have J : Inv X pins σ H1 ⟨h', g, dr, tk', os⟩ := I1.kept (t' := tk') M.keep
    obtain ⟨od, ho, hl⟩ := lookIn_ns M.ns
    have ii : PySem.W.InstAt h' e oe C (some od) := ⟨hoe, hc, by unfold PySem.W.notCls; rw [hdat] <;> rfl, by rw [hd]; exact ho⟩
    exact HandSPX.exc_get J.kIn ii T.ga T.gg T.exC (PySem.W.findObj_own T.hdC T.noN rfl (by rw [hl, if_pos rfl])) (handed_of rv) ⟨v, H1, J.tok _, rv, q1⟩
/-- C(), C a bare class -/
theorem pmk_bare {bmB : List Value} {B newId initId : String} {x : Str} {p pos : Pos} (F : ExcBaseFacts B newId initId bmB) (q : PySem.W.excIn X.K C bmB newId = true) (gC : X.mg x = some (.ref C)) (kC : PySem.W.keepIn X.K (.ref C) = true) (r : Raises X (.ref C)) (hg : Gl X x := by rfl)
    (hdb : (x == ("__debug__" : Str)) = false := by decide) : PMk X (.Call (.Name x p) [] [] pos) (fun _ H Q => Q (.ref C) none H) := by
  intro pins s σ H Q I h
  refine wpAny_Call_Name_kw (ld_glob I hg gC ?_ hdb)
  refine PySem.W.callWith_KW0 (h₀ := X.base) I.ok.mod.kin kC (by rfl) (thn (pk_nil.run pos pins s σ H (fun vs H1 => vs = [] ∧ H = H1) I ⟨rfl, rfl⟩) fun ws s1 hh => ?_) (by rfl)
  obtain ⟨vs, H1, I1, r1, ev, eH⟩ := hh
  subst ev
  rw [← eH] at I1
  refine ⟨I1.kIn, ?_⟩
  cases r1
  show wpAny _ _ (call (.ref C) []) _ _ _
  obtain ⟨bm, N, nm, qn, bs, hdct, sn, sub, ab, col, dd, k0, k1, k2, k3, k5, mN, hC, hN, hni, T⟩ := exc_obj I1.kIn q
  refine wpAny_call_exc_subT F T hC hN hni (fun h' e hm => ?_) (Nat.zero_le _)
  exact mk_of I1 hm r h (I1.hok.gone hm.new)
theorem ps_raise0 {bmB : List Value} {B newId initId : String} {x : Str} {W : WX} {p pos pos2 : Pos} (hc : X.calm = true) (tk : Takes X W) (F : ExcBaseFacts B newId initId bmB) (q : PySem.W.excIn X.K C bmB newId = true) (gC : X.mg x = some (.ref C)) (kC : PySem.W.keepIn X.K (.ref C) = true) (r : Raises X (.ref C)) (hg : Gl X x := by rfl)
    (hdb : (x == ("__debug__" : Str)) = false := by decide) : PS X (.Raise (some (.Call (.Name x p) [] [] pos)) none pos2) (fun _ σ H => W (.ref C) none σ H) := ps_raise hc tk (pmk_bare F q gC kC r hg hdb)
end
end L2

set_option Elab.async false
set_option linter.all false
set_option maxRecDepth 100000
set_option maxHeartbeats 2000000
/-! A layer over HandS: plain data D, computations N that may raise or draw, objects known by what holds of them (Ty), the readings by data. -/
namespace M
open PySem L2

/-- plain data -/
inductive D where
  | non | bl (b : Bool) | int (i : Int) | str (s : Str) | tup (xs : List D) | ktup (xs : List D) | lst (xs : List D)
  | obj (c : Nat) (fs : List D)
  | dl (k : Nat)
  | dkk (ks : List Key) (vs : List D) | dtt (ks : List (List Key)) (vs : List D)

/-- a computation by its weakest preconditions: k wants of the value, e of the error (its class's number, what it keeps) -/
structure N (α : Type) where
  wp : (α → Prop) → (Nat → D → Prop) → Prop
  mono : ∀ {k k' : α → Prop} {e e' : Nat → D → Prop}, (∀ a, k a → k' a) → (∀ c x, e c x → e' c x) → wp k e → wp k' e'
namespace N
def ok {α : Type} (a : α) : N α := ⟨fun k _ => k a, fun h _ q => h a q⟩
def err {α : Type} (c : Nat) (x : D) : N α := ⟨fun _ e => e c x, fun _ h q => h c x q⟩
def stuck {α : Type} : N α := ⟨fun _ _ => False, fun _ _ q => q⟩
def any {α : Type} (P : α → Prop) : N α := ⟨fun k _ => ∀ a, P a → k a, fun h _ q a p => h a (q a p)⟩
def bind {α β : Type} (n : N α) (f : α → N β) : N β := ⟨fun k e => n.wp (fun a => (f a).wp k e) e, fun h1 h2 q => n.mono (fun a z => (f a).mono h1 h2 z) h2 q⟩
def asrt (p : Prop) : N Unit := ⟨fun k _ => p ∧ k (), fun h _ q => ⟨q.1, h _ q.2⟩⟩
/-- what is raised is handed to h -/
def tryC {α : Type} (n : N α) (h : Nat → D → N α) : N α := ⟨fun k e => n.wp k (fun c x => (h c x).wp k e), fun h1 h2 q => n.mono h1 (fun c x z => (h c x).mono h1 h2 z) q⟩
@[simp] theorem ok_bind {α β : Type} (a : α) (f : α → N β) : (ok a).bind f = f a := rfl
@[simp] theorem err_bind {α β : Type} (c : Nat) (x : D) (f : α → N β) : (err c x : N α).bind f = err c x := rfl
theorem stuck_bind {α β : Type} (f : α → N β) : (stuck : N α).bind f = stuck := rfl
theorem bind_assoc {α β γ : Type} (n : N α) (f : α → N β) (g : β → N γ) : (n.bind f).bind g = n.bind fun a => (f a).bind g := rfl
theorem bind_ok {α : Type} (n : N α) : n.bind ok = n := rfl
def fail : N D → Prop := fun _ => True
end N

abbrev Ty := Addr → Option (HO → Prop)
/-- just this object -/
def is (o : HO) : HO → Prop := fun o' => o' = o
def updT (F : Ty) (a : Addr) (p : HO → Prop) : Ty := fun b => if b = a then some p else F b
theorem updT_same {F : Ty} {a : Addr} {p : HO → Prop} : updT F a p a = some p := by unfold updT; rw [if_pos rfl]
theorem updT_ne {F : Ty} {a b : Addr} {p : HO → Prop} (h : b ≠ a) : updT F a p b = F b := by unfold updT; rw [if_neg h]
def Ex (F F' : Ty) : Prop := ∀ a p, F a = some p → F' a = some p
theorem Ex.refl (F : Ty) : Ex F F := fun _ _ h => h
theorem Ex.trans {F F1 F2 : Ty} (a : Ex F F1) (b : Ex F1 F2) : Ex F F2 := fun x p h => b x p (a x p h)
/-- a table of code objects that bear the name q (the other way that it may hold: so it tells q) -/
def pTab (q : Str) (o : HO) : Prop := (∃ ps, o = .tbl ps) ∨ o = .lst [.str q]
theorem pTab_inj {q q' : Str} (h : pTab q = pTab q') : q = q' := by
  have z : pTab q' (.lst [.str q]) := by rw [← h]; exact .inr rfl
  rcases z with ⟨ps, z⟩ | z
  · cases z
  · cases z; rfl
theorem ne_tab {p : HO → Prop} (h : ¬ p (.tbl #[])) (q : Str) : p ≠ pTab q := fun z => h (by rw [z]; exact .inl ⟨_, rfl⟩)
theorem is_ne_tab {o : HO} (q : Str) : is o ≠ pTab q := fun z => by
  have h1 : is o (.tbl #[]) := by rw [z]; exact .inl ⟨_, rfl⟩
  have h2 : is o (.lst [.str q]) := by rw [z]; exact .inr rfl
  have h3 : (HO.tbl #[]) = .lst [.str q] := Eq.trans h1 (Eq.symm h2)
  cases h3
/-- the heap keeps to what is known -/
structure Okk (F : Ty) (H : Hp) : Prop where
  at_ : ∀ a p, F a = some p → ∃ o, H a = some o ∧ p o ∧ ((∃ xs, o = .tup xs) → p = is o) ∧ ((∃ ps, o = .tbl ps) → ∃ q, p = pTab q) ∧ ∀ c q, o ≠ LamX.CodeO c q
  tb : ∀ P q, F P = some (pTab q) → LamX.TabS H P q
  fin : ∃ T : List (Addr × Str), ∀ P q, F P = some (pTab q) ↔ (P, q) ∈ T
theorem tab_put {H : Hp} {l P : Addr} {u : HO} {q : Str} (t : LamX.TabS H P q) (hP : P ≠ l) (hc : ∀ c, H l ≠ some (LamX.CodeO c q)) : LamX.TabS (upd H l u) P q := by
  obtain ⟨ps, h1, h2, h3⟩ := t
  refine ⟨ps, by rw [upd_ne hP]; exact h1, h2, fun pos cv h => ?_⟩
  obtain ⟨c, e1, e2⟩ := h3 pos cv h
  refine ⟨c, e1, ?_⟩
  rw [upd_ne (fun z => by subst z; exact hc _ e2)]
  exact e2
theorem fin_upd {F : Ty} {a : Addr} {p : HO → Prop} (n : F a = none) (hn : ∀ q, p ≠ pTab q) (h : ∃ T : List (Addr × Str), ∀ P q, F P = some (pTab q) ↔ (P, q) ∈ T) : ∃ T : List (Addr × Str), ∀ P q, updT F a p P = some (pTab q) ↔ (P, q) ∈ T := by
  obtain ⟨T, hT⟩ := h
  refine ⟨T, fun P q => ?_⟩
  rw [← hT]
  by_cases z : P = a
  · subst z
    rw [updT_same, n]
    exact ⟨fun e => (hn q (Option.some.inj e)).elim, fun e => by cases e⟩
  · rw [updT_ne z]
section
variable {F : Ty} {H : Hp}
theorem Okk.none {F : Ty} {H : Hp} (k : Okk F H) {a : Addr} (h : H a = none) : F a = none := by
  cases e : F a with
  | none => rfl
  | some p => obtain ⟨o, q, _⟩ := k.at_ a p e; rw [h] at q; cases q
/-- a new object, known -/
theorem Okk.new (k : Okk F H) {a : Addr} {o : HO} {p : HO → Prop} (h : H a = Option.none) (hp : p o) (ht : (∃ xs, o = .tup xs) → p = is o) (hn : ∀ q, p ≠ pTab q) (hb : (∀ ps, o ≠ .tbl ps) ∧ ∀ c q, o ≠ LamX.CodeO c q) : Okk (updT F a p) (upd H a o) := by
  have n := k.none h
  have nw : ∀ b u, H b = some u → upd H a o b = some u := fun b u e => by
    have z : b ≠ a := fun z => by subst z; rw [h] at e; cases e
    rw [upd_ne z]; exact e
  refine ⟨fun b q e => ?_, fun P q e => ?_, fin_upd n hn k.fin⟩
  · by_cases z : b = a
    · subst z; rw [updT_same] at e; cases e; exact ⟨o, upd_same, hp, ht, fun ⟨ps, z⟩ => (hb.1 ps z).elim, hb.2⟩
    · rw [updT_ne z] at e; rw [upd_ne z]; exact k.at_ b q e
  · by_cases z : P = a
    · subst z; rw [updT_same] at e; exact (hn q (Option.some.inj e)).elim
    · rw [updT_ne z] at e; exact (k.tb P q e).ext nw
/-- a new object, not known -/
theorem Okk.own (k : Okk F H) {a : Addr} {o : HO} (h : H a = Option.none) : Okk F (upd H a o) := by
  have n := k.none h
  have nw : ∀ b u, H b = some u → upd H a o b = some u := fun b u e => by
    have z : b ≠ a := fun z => by subst z; rw [h] at e; cases e
    rw [upd_ne z]; exact e
  refine ⟨fun b q e => ?_, fun P q e => (k.tb P q e).ext nw, k.fin⟩
  have z : b ≠ a := fun z => by subst z; rw [n] at e; cases e
  rw [upd_ne z]; exact k.at_ b q e
/-- what is not known is changed -/
theorem Okk.put (k : Okk F H) {l : Addr} {u u' : HO} (n : F l = Option.none) (h : H l = some u') (hc : ∀ c q, u' ≠ LamX.CodeO c q) : Okk F (upd H l u) := by
  refine ⟨fun b q e => ?_, fun P q e => tab_put (k.tb P q e) (fun z => by subst z; rw [n] at e; cases e) (fun c z => ?_), k.fin⟩
  · have z : b ≠ l := fun z => by subst z; rw [n] at e; cases e
    rw [upd_ne z]; exact k.at_ b q e
  · rw [h] at z
    cases z
    exact hc c q rfl
/-- what stands becomes known -/
theorem Okk.learn (k : Okk F H) {l : Addr} {o : HO} (n : F l = Option.none) (h : H l = some o) (hb : (∀ ps, o ≠ .tbl ps) ∧ ∀ c q, o ≠ LamX.CodeO c q) : Okk (updT F l (is o)) H := by
  refine ⟨fun b q e => ?_, fun P q e => ?_, fin_upd n is_ne_tab k.fin⟩
  · by_cases z : b = l
    · subst z; rw [updT_same] at e; cases e; exact ⟨o, h, rfl, fun _ => rfl, fun ⟨ps, z⟩ => (hb.1 ps z).elim, hb.2⟩
    · rw [updT_ne z] at e; exact k.at_ b q e
  · by_cases z : P = l
    · subst z; rw [updT_same] at e; exact (is_ne_tab _ (Option.some.inj e)).elim
    · rw [updT_ne z] at e; exact k.tb P q e
/-- what is known to be some list is changed -/
theorem Okk.chg (k : Okk F H) {a : Addr} {o : HO} {p : HO → Prop} (hF : F a = some p) (hp : p o) (ht : (∃ xs, o = .tup xs) → p = is o) (hl : ∀ o, p o → ∃ xs, o = .lst xs) : Okk F (upd H a o) := by
  have hn : ∀ q, p ≠ pTab q := ne_tab (fun z => by obtain ⟨xs, e⟩ := hl _ z; cases e)
  obtain ⟨xs, ho⟩ := hl _ hp
  obtain ⟨o', ho', po, _⟩ := k.at_ _ _ hF
  obtain ⟨xs', ho''⟩ := hl _ po
  refine ⟨fun b q e => ?_, fun P q e => tab_put (k.tb P q e) (fun z => by subst z; rw [hF] at e; exact hn q (Option.some.inj e)) (fun c z => ?_), k.fin⟩
  · by_cases z : b = a
    · subst z; rw [hF] at e; cases e; exact ⟨o, upd_same, hp, ht, fun ⟨ps, z⟩ => (by rw [ho] at z; cases z), fun c q z => (by rw [ho] at z; unfold LamX.CodeO at z; cases z)⟩
    · rw [upd_ne z]; exact k.at_ b q e
  · rw [ho', ho''] at z
    cases z
end
structure Ext (F : Ty) (H : Hp) (F' : Ty) (H' : Hp) : Prop where
  ex : Ex F F'
  ok : Okk F' H'
  kp : ∀ a o, H a = some o → F a = none → (∀ ps, o ≠ .tbl ps) → H' a = some o ∧ (F' a = none ∨ (F' a = some (is o) ∧ ∃ xs, o = .tup xs))
theorem Ext.refl {F : Ty} {H : Hp} (h : Okk F H) : Ext F H F H := ⟨Ex.refl F, h, fun _ _ a b _ => ⟨a, .inl b⟩⟩
theorem Ext.trans {F F1 F2 : Ty} {H H1 H2 : Hp} (a : Ext F H F1 H1) (b : Ext F1 H1 F2 H2) : Ext F H F2 H2 :=
  ⟨a.ex.trans b.ex, b.ok, fun x o h n pl => by
    obtain ⟨h1, n1⟩ := a.kp x o h n pl
    rcases n1 with n1 | ⟨n1, t⟩
    · exact b.kp x o h1 n1 pl
    · have k := b.ex _ _ n1
      obtain ⟨o', h2, e, _⟩ := b.ok.at_ _ _ k
      rw [show o' = o from e] at h2
      exact ⟨h2, .inr ⟨k, t⟩⟩⟩
/-- a new object is known -/
theorem Ext.new {F : Ty} {H : Hp} (k : Okk F H) {a : Addr} {o : HO} {p : HO → Prop} (h : H a = none) (hp : p o) (ht : (∃ xs, o = .tup xs) → p = is o := by exact fun _ => rfl) (hn : ∀ q, p ≠ pTab q := by exact is_ne_tab) (hb : (∀ ps, o ≠ .tbl ps) ∧ ∀ c q, o ≠ LamX.CodeO c q := by exact ⟨fun _ z => (by cases z), fun _ _ z => (by unfold LamX.CodeO at z; cases z)⟩) : Ext F H (updT F a p) (upd H a o) := by
  have n := k.none h
  refine ⟨fun b q e => ?_, k.new h hp ht hn hb, fun b u e nb _ => ?_⟩
  · by_cases z : b = a
    · subst z; rw [n] at e; cases e
    · rw [updT_ne z]; exact e
  · have z : b ≠ a := fun z => by subst z; rw [h] at e; cases e
    rw [updT_ne z, upd_ne z]; exact ⟨e, .inl nb⟩
/-- a new object that stays unknown -/
theorem Ext.own {F : Ty} {H : Hp} (k : Okk F H) {a : Addr} {o : HO} (h : H a = none) : Ext F H F (upd H a o) := by
  refine ⟨Ex.refl F, k.own h, fun b u e nb _ => ?_⟩
  have z : b ≠ a := fun z => by subst z; rw [h] at e; cases e
  rw [upd_ne z]; exact ⟨e, .inl nb⟩

/-- the text's facts that the relation of data needs -/
structure Zt where
  K : PySem.W.Frag
  cs : Nat → Addr
  fs : Nat → String
  at_ : Nat → List Str
  dl : Nat → Ty → Addr → Prop
  dlm : ∀ k F F' a, Ex F F' → dl k F a → dl k F' a
  tl : List (Addr × Str) := []

/-- known as u, or locked as u -/
def RdF (F : Ty) (a : Addr) (u : HO) : Prop := F a = some (is u) ∨ ∃ ob, F a = some (is (.frz ob u))
theorem RdF.ex {F F' : Ty} {a : Addr} {u : HO} (e : Ex F F') (r : RdF F a u) : RdF F' a u := by
  rcases r with r | ⟨ob, r⟩
  · exact .inl (e _ _ r)
  · exact .inr ⟨ob, e _ _ r⟩
theorem RdF.rd {F : Ty} {H : Hp} {a : Addr} {u : HO} (k : Okk F H) (r : RdF F a u) : Rd H a u := by
  rcases r with r | ⟨ob, r⟩
  · obtain ⟨o, h, q, _⟩ := k.at_ _ _ r
    rw [show o = u from q] at h
    exact .inl h
  · obtain ⟨o, h, q, _⟩ := k.at_ _ _ r
    rw [show o = .frz ob u from q] at h
    exact .inr ⟨ob, h⟩
def KT (K : PySem.W.Frag) (a : Addr) (xs : List V) : Prop := ∃ (o : Obj) (its : Array Value) (n : Nat), K.lookup a = some o ∧ o.cls = .type "tuple" ∧ o.data = .seq its n ∧ its.size ≤ sizeLine ∧ Vals xs its.toList
def KL (K : PySem.W.Frag) (a : Addr) (xs : List V) : Prop := ∃ (o : Obj) (its : Array Value) (n : Nat), K.lookup a = some o ∧ o.cls = .type "list" ∧ o.dict = none ∧ o.data = .seq its n ∧ its.size ≤ sizeLine ∧ Vals xs its.toList
def RL (K : PySem.W.Frag) (F : Ty) (a : Addr) (xs : List V) : Prop := RdF F a (.lst xs) ∨ KL K a xs
theorem RL.ex {K : PySem.W.Frag} {F F' : Ty} {a : Addr} {xs : List V} (e : Ex F F') (r : RL K F a xs) : RL K F' a xs := r.imp (RdF.ex e) id
theorem sqT_of {K : PySem.W.Frag} {F : Ty} {H : Hp} {a : Addr} {xs : List V} (k : Okk F H) (r : F a = some (is (.tup xs))) : SqT K H a xs := .inl (RdF.rd k (.inl r))
theorem tup_of {F : Ty} {H : Hp} {a : Addr} {o : HO} (k : Okk F H) (r : F a = some (is o)) : H a = some o := by
  obtain ⟨o', h, e, _⟩ := k.at_ _ _ r
  rw [show o' = o from e] at h
  exact h
theorem RL.sq {K : PySem.W.Frag} {F : Ty} {H : Hp} {a : Addr} {xs : List V} (k : Okk F H) (r : RL K F a xs) : SqL K H a xs := r.imp (RdF.rd k) id

mutual
/-- v, by what is known, is the datum d -/
inductive Rp (Z : Zt) (F : Ty) : V → D → Prop
  | non : Rp Z F .non .non
  | bl (b : Bool) : Rp Z F (.bl b) (.bl b)
  | int (i : Int) : Rp Z F (.int i) (.int i)
  | str (x : Str) : Rp Z F (.str x) (.str x)
  | tup {a : Addr} {xs : List V} {ds : List D} : F a = some (is (.tup xs)) → RpL Z F xs ds → Rp Z F (.ref a) (.tup ds)
  | ktup {a : Addr} {xs : List V} {ds : List D} : KT Z.K a xs → RpL Z F xs ds → Rp Z F (.ref a) (.ktup ds)
  | lst {a : Addr} {xs : List V} {ds : List D} : RL Z.K F a xs → RpL Z F xs ds → Rp Z F (.ref a) (.lst ds)
  | obj {a dx : Addr} {c : Nat} {xs : List V} {ds : List D} : F a = some (is (.ins (Z.cs c) dx ((Z.at_ c).zip xs))) → xs.length = (Z.at_ c).length → RpL Z F xs ds → Rp Z F (.ref a) (.obj c ds)
  | dl {a : Addr} {k : Nat} : Z.dl k F a → Rp Z F (.ref a) (.dl k)
  | dkk {a : Addr} {ks : List Key} {xs : List V} {ds : List D} : F a = some (is (.dK (ks.zip xs))) → xs.length = ks.length → RpL Z F xs ds → Rp Z F (.ref a) (.dkk ks ds)
  | dtt {a : Addr} {ks : List (List Key)} {xs : List V} {ds : List D} : F a = some (is (.dT (ks.zip xs))) → xs.length = ks.length → RpL Z F xs ds → Rp Z F (.ref a) (.dtt ks ds)
inductive RpL (Z : Zt) (F : Ty) : List V → List D → Prop
  | nil : RpL Z F [] []
  | cons {v : V} {vs : List V} {d : D} {ds : List D} : Rp Z F v d → RpL Z F vs ds → RpL Z F (v :: vs) (d :: ds)
end
section
variable {Z : Zt} {F F' : Ty}
mutual
theorem Rp.ex (e : Ex F F') : ∀ {v : V} {d : D}, Rp Z F v d → Rp Z F' v d
  | _, _, .non => .non
  | _, _, .bl b => .bl b
  | _, _, .int i => .int i
  | _, _, .str x => .str x
  | _, _, .tup r l => .tup (e _ _ r) (RpL.ex e l)
  | _, _, .ktup r l => .ktup r (RpL.ex e l)
  | _, _, .lst r l => .lst (r.ex e) (RpL.ex e l)
  | _, _, .obj r n l => .obj (e _ _ r) n (RpL.ex e l)
  | _, _, .dl r => .dl (Z.dlm _ _ _ _ e r)
  | _, _, .dkk r n l => .dkk (e _ _ r) n (RpL.ex e l)
  | _, _, .dtt r n l => .dtt (e _ _ r) n (RpL.ex e l)
theorem RpL.ex (e : Ex F F') : ∀ {vs : List V} {ds : List D}, RpL Z F vs ds → RpL Z F' vs ds
  | _, _, .nil => .nil
  | _, _, .cons r l => .cons (Rp.ex e r) (RpL.ex e l)
end
theorem RpL.length : ∀ {vs : List V} {ds : List D}, RpL Z F vs ds → vs.length = ds.length
  | _, _, .nil => rfl
  | _, _, .cons _ l => by rw [List.length_cons, List.length_cons, RpL.length l]
theorem RpL.get : ∀ {vs : List V} {ds : List D} {i : Nat} {d : D}, RpL Z F vs ds → ds[i]? = some d → ∃ v, vs[i]? = some v ∧ Rp Z F v d
  | _, _, 0, _, .cons r _, e => by simp at e; subst e; exact ⟨_, rfl, r⟩
  | _, _, i + 1, _, .cons _ l, e => by
    obtain ⟨v, h1, h2⟩ := RpL.get (i := i) l (by simpa using e)
    exact ⟨v, by simpa using h1, h2⟩
theorem RpL.getV : ∀ {vs : List V} {ds : List D} {i : Nat} {v : V}, RpL Z F vs ds → vs[i]? = some v → ∃ d, ds[i]? = some d ∧ Rp Z F v d
  | _, _, 0, _, .cons r _, e => by simp at e; subst e; exact ⟨_, rfl, r⟩
  | _, _, i + 1, _, .cons _ l, e => by
    obtain ⟨v, h1, h2⟩ := RpL.getV (i := i) l (by simpa using e)
    exact ⟨v, by simpa using h1, h2⟩
theorem RpL.append : ∀ {vs ws : List V} {ds es : List D}, RpL Z F vs ds → RpL Z F ws es → RpL Z F (vs ++ ws) (ds ++ es)
  | _, _, _, _, .nil, q => q
  | _, _, _, _, .cons r l, q => .cons r (RpL.append l q)
theorem RpL.take : ∀ {vs : List V} {ds : List D} (n : Nat), RpL Z F vs ds → RpL Z F (vs.take n) (ds.take n)
  | _, _, 0, _ => .nil
  | _, _, _ + 1, .nil => .nil
  | _, _, n + 1, .cons r l => .cons r (RpL.take n l)
theorem RpL.drop : ∀ {vs : List V} {ds : List D} (n : Nat), RpL Z F vs ds → RpL Z F (vs.drop n) (ds.drop n)
  | _, _, 0, q => q
  | _, _, _ + 1, .nil => .nil
  | _, _, n + 1, .cons _ l => RpL.drop n l
theorem RpL.reverse : ∀ {vs : List V} {ds : List D}, RpL Z F vs ds → RpL Z F vs.reverse ds.reverse
  | _, _, .nil => .nil
  | _, _, .cons r l => by rw [List.reverse_cons, List.reverse_cons]; exact RpL.append (RpL.reverse l) (.cons r .nil)
theorem RpL.set : ∀ {vs : List V} {ds : List D} (n : Nat) {v : V} {d : D}, RpL Z F vs ds → Rp Z F v d → RpL Z F (vs.set n v) (ds.set n d)
  | _, _, _, _, _, .nil, _ => .nil
  | _, _, 0, _, _, .cons _ l, q => .cons q l
  | _, _, n + 1, _, _, .cons r l, q => .cons r (RpL.set n l q)
end

/-- an error in the air: its class's number, what it keeps -/
def Keeps (Z : Zt) (F : Ty) (f : String) (x : D) (dd : Option Addr) : Prop := (f = "" ∧ x = .non) ∨ (f ≠ "" ∧ ∃ d v, dd = some d ∧ F d = some (is (.xd [(PySem.Str.ofString f, v)])) ∧ Rp Z F v x)
theorem Keeps.ex {Z : Zt} {F F' : Ty} (e : Ex F F') {f : String} {x : D} {dd : Option Addr} (h : Keeps Z F f x dd) : Keeps Z F' f x dd := by
  rcases h with h | ⟨n, d, v, h1, h2, r⟩
  · exact .inl h
  · exact .inr ⟨n, d, v, h1, e _ _ h2, r.ex e⟩
theorem fld_ne {f : String} (h : PySem.TErr.Fld f) : f ≠ "" := by
  rcases h with rfl | rfl | rfl <;> decide
def ErrIs (Z : Zt) (F : Ty) (c : Nat) (x : D) (cls : Value) (dd : Option Addr) : Prop := cls = .ref (Z.cs c) ∧ Keeps Z F (Z.fs c) x dd

/-- what a local holds that is changed in place -/
inductive Ce where
  | lst (ds : List D)
  | dK (kvs : List (Key × D))
  | dT (kvs : List (List Key × D))
  | rows (dss : List (List D))
  | ins (x : Addr) (c : Nat) (kvs : List (Str × D))
def RpKV {κ : Type} (Z : Zt) (F : Ty) (vs : List (κ × V)) (ds : List (κ × D)) : Prop := vs.map (·.1) = ds.map (·.1) ∧ RpL Z F (vs.map (·.2)) (ds.map (·.2))
theorem RpKV.ex {κ : Type} {Z : Zt} {F F' : Ty} {vs : List (κ × V)} {ds : List (κ × D)} (e : Ex F F') (h : RpKV Z F vs ds) : RpKV Z F' vs ds := ⟨h.1, h.2.ex e⟩
/-- the addresses of a thing that is changed in place -/
def fpU (l : Addr) : HO → Ce → List Addr
  | .lst vs, .rows _ => l :: vs.filterMap fun v => match v with | .ref a => some a | _ => none
  | .ins _ dx _, .ins _ _ _ => [l, dx]
  | _, _ => [l]
structure Bs where
  F : Ty
  H : Hp
  Fe : Ty
/-- new since the entry -/
def Frsh (B : Hp) (l : Addr) : Prop := ∀ o, B l = some o → ∃ ps, o = .tbl ps
/-- a row of a list of lists -/
def Row (Z : Zt) (B : Hp) (F : Ty) (H : Hp) (v : V) (ds : List D) : Prop := ∃ a vs, v = .ref a ∧ H a = some (.lst vs) ∧ F a = none ∧ Frsh B a ∧ RpL Z F vs ds
inductive Rows (Z : Zt) (B : Hp) (F : Ty) (H : Hp) : List V → List (List D) → Prop
  | nil : Rows Z B F H [] []
  | cons {v : V} {vs : List V} {ds : List D} {dss : List (List D)} : Row Z B F H v ds → Rows Z B F H vs dss → Rows Z B F H (v :: vs) (ds :: dss)
def Cell (Z : Zt) (B : Hp) (F : Ty) (H : Hp) (l : Addr) : Ce → HO → Prop
  | .lst ds, o => ∃ vs, o = .lst vs ∧ RpL Z F vs ds
  | .dK kvs, o => ∃ vs, o = .dK vs ∧ RpKV Z F vs kvs
  | .dT kvs, o => ∃ vs, o = .dT vs ∧ RpKV Z F vs kvs
  | .rows dss, o => ∃ vs, o = .lst vs ∧ Rows Z B F H vs dss ∧ (fpU l (.lst vs) (.rows dss)).Nodup
  | .ins x c kvs, o => l = x ∧ ∃ dx vs, o = .ins (Z.cs c) dx vs ∧ RpKV Z F vs kvs ∧ H dx = some (.own l) ∧ F dx = none ∧ Frsh B dx ∧ dx ≠ l
section
variable {Z : Zt} {B : Hp} {F F' : Ty} {H H' : Hp} {l : Addr} {c : Ce} {o u : HO}
theorem Row.keep {v : V} {ds : List D} (e : Ex F F') (hH : ∀ a, v = .ref a → H' a = H a ∧ F' a = F a) (h : Row Z B F H v ds) : Row Z B F' H' v ds := by
  obtain ⟨a, vs, rfl, h1, h2, h3, r⟩ := h
  obtain ⟨k1, k2⟩ := hH a rfl
  exact ⟨a, vs, rfl, by rw [k1]; exact h1, by rw [k2]; exact h2, h3, r.ex e⟩
theorem Rows.keep (e : Ex F F') : ∀ {vs : List V} {dss : List (List D)}, (∀ a, V.ref a ∈ vs → H' a = H a ∧ F' a = F a) → Rows Z B F H vs dss → Rows Z B F' H' vs dss
  | _, _, _, .nil => .nil
  | _, _, hH, .cons r l => .cons (r.keep e fun a z => hH a (by rw [z]; exact List.mem_cons_self)) (Rows.keep e (fun a z => hH a (List.mem_cons_of_mem _ z)) l)
theorem Rows.mem : ∀ {vs : List V} {dss : List (List D)} {v : V}, Rows Z B F H vs dss → v ∈ vs → ∃ ds, Row Z B F H v ds
  | _, _, _, .nil, h => by cases h
  | _, _, v, .cons r l, h => by
    rcases List.mem_cons.mp h with z | z
    · subst z; exact ⟨_, r⟩
    · exact Rows.mem l z
theorem Rows.length : ∀ {vs : List V} {dss : List (List D)}, Rows Z B F H vs dss → vs.length = dss.length
  | _, _, .nil => rfl
  | _, _, .cons _ l => by rw [List.length_cons, List.length_cons, Rows.length l]
theorem Rows.get : ∀ {vs : List V} {dss : List (List D)} {i : Nat} {ds : List D}, Rows Z B F H vs dss → dss[i]? = some ds → ∃ v, vs[i]? = some v ∧ Row Z B F H v ds
  | _, _, 0, _, .cons r _, e => by simp at e; subst e; exact ⟨_, rfl, r⟩
  | _, _, i + 1, _, .cons _ l, e => by
    obtain ⟨v, h1, h2⟩ := Rows.get (i := i) l (by simpa using e)
    exact ⟨v, by simpa using h1, h2⟩
theorem fp_self : l ∈ fpU l u c := by
  cases u <;> cases c <;> (unfold fpU; simp)
theorem mem_refs {vs : List V} {a : Addr} : a ∈ (vs.filterMap fun v => match v with | .ref a => some a | _ => none) ↔ V.ref a ∈ vs := by
  rw [List.mem_filterMap]
  constructor
  · rintro ⟨v, hv, e⟩
    cases v <;> first | (cases e; exact hv) | cases e
  · exact fun h => ⟨_, h, rfl⟩
/-- what is known of the addresses -/
theorem Cell.fp (h : Cell Z B F H l c u) (hu : H l = some u) (nF : F l = none) (nB : Frsh B l) {a : Addr} (ha : a ∈ fpU l u c) : F a = none ∧ Frsh B a ∧ ∃ w, H a = some w ∧ (∀ b q, w ≠ LamX.CodeO b q) ∧ (∀ ps, w ≠ .tbl ps) ∧ ∀ xs, w ≠ .tup xs := by
  cases c with
  | lst ds =>
    obtain ⟨vs, rfl, r⟩ := h
    obtain rfl : a = l := by simpa [fpU] using ha
    exact ⟨nF, nB, _, hu, fun _ _ z => (by unfold LamX.CodeO at z; cases z), fun _ z => (by cases z), fun _ z => (by cases z)⟩
  | dK ds =>
    obtain ⟨vs, rfl, r⟩ := h
    obtain rfl : a = l := by simpa [fpU] using ha
    exact ⟨nF, nB, _, hu, fun _ _ z => (by unfold LamX.CodeO at z; cases z), fun _ z => (by cases z), fun _ z => (by cases z)⟩
  | dT ds =>
    obtain ⟨vs, rfl, r⟩ := h
    obtain rfl : a = l := by simpa [fpU] using ha
    exact ⟨nF, nB, _, hu, fun _ _ z => (by unfold LamX.CodeO at z; cases z), fun _ z => (by cases z), fun _ z => (by cases z)⟩
  | rows dss =>
    obtain ⟨vs, rfl, r, nd⟩ := h
    rcases List.mem_cons.mp ha with z | z
    · subst z
      exact ⟨nF, nB, _, hu, fun _ _ z => (by unfold LamX.CodeO at z; cases z), fun _ z => (by cases z), fun _ z => (by cases z)⟩
    · obtain ⟨ds, a', ws, e, h1, h2, h3, _⟩ := r.mem (mem_refs.mp z)
      cases e
      exact ⟨h2, h3, _, h1, fun _ _ z => (by unfold LamX.CodeO at z; cases z), fun _ z => (by cases z), fun _ z => (by cases z)⟩
  | ins x c kvs =>
    obtain ⟨_, dx, vs, rfl, r, h1, h2, h3, _⟩ := h
    have ha' : a = l ∨ a = dx := by simpa [fpU] using ha
    rcases ha' with z | z
    · subst z
      exact ⟨nF, nB, _, hu, fun _ _ z => (by unfold LamX.CodeO at z; cases z), fun _ z => (by cases z), fun _ z => (by cases z)⟩
    · subst z
      exact ⟨h2, h3, _, h1, fun _ _ z => (by unfold LamX.CodeO at z; cases z), fun _ z => (by cases z), fun _ z => (by cases z)⟩
/-- it stays where its addresses do -/
theorem Cell.keep (e : Ex F F') (hH : ∀ a ∈ fpU l u c, H' a = H a ∧ F' a = F a) (h : Cell Z B F H l c u) : Cell Z B F' H' l c u := by
  cases c with
  | lst ds => obtain ⟨vs, q, r⟩ := h; exact ⟨vs, q, r.ex e⟩
  | dK ds => obtain ⟨vs, q, r⟩ := h; exact ⟨vs, q, r.ex e⟩
  | dT ds => obtain ⟨vs, q, r⟩ := h; exact ⟨vs, q, r.ex e⟩
  | rows dss =>
    obtain ⟨vs, rfl, r, nd⟩ := h
    exact ⟨vs, rfl, r.keep e fun a z => hH a (List.mem_cons_of_mem _ (mem_refs.mpr z)), nd⟩
  | ins x c kvs =>
    obtain ⟨ex, dx, vs, rfl, r, h1, h2, h3, n⟩ := h
    obtain ⟨k1, k2⟩ := hH dx (by simp [fpU])
    exact ⟨ex, dx, vs, rfl, r.ex e, by rw [k1]; exact h1, by rw [k2]; exact h2, h3, n⟩
end
/-- what is said of a slot -/
inductive Sl where
  | un
  | lam (f c : Addr) (q : Str)
  | dat (d : D)
  | own (c : Ce)
  | exc (a : Addr) (d : Option Addr) (f : String) (x : D)
/-- the code objects' tables are known -/
def TL (Z : Zt) (F : Ty) : Prop := ∀ p ∈ Z.tl, F p.1 = some (pTab p.2)
theorem TL.ex {Z : Zt} {F F' : Ty} (e : Ex F F') (h : TL Z F) : TL Z F' := fun p hp => e _ _ (h p hp)
def SlOk (Z : Zt) (B : Hp) (F : Ty) (H : Hp) : Sl → Option (Option V) → Prop
  | .un, _ => True
  | .dat d, o => ∃ v, o = some (some v) ∧ Rp Z F v d
  | .lam f c q, o => o = some (some (.ref f)) ∧ H c = some (LamX.CodeO c q) ∧ F c = none
  | .exc a d f x, o => o = some (some (.ref a)) ∧ Keeps Z F f x d
  | .own c, o => ∃ l u, o = some (some (.ref l)) ∧ H l = some u ∧ F l = none ∧ Frsh B l ∧ Cell Z B F H l c u
structure At (Z : Zt) (B : Bs) (S : List Sl) (F : Ty) (σ : St) (H : Hp) : Prop where
  ext : Ext B.F B.H F H
  fe : Ex B.Fe F
  len : σ.length = S.length
  sl : ∀ (i : Nat) (s : Sl), S[i]? = some s → SlOk Z B.H F H s σ[i]?
  dis : ∀ (i j : Nat) (a l l' : Addr) (u u' : HO) (c c' : Ce), S[i]? = some (.own c) → S[j]? = some (.own c') → σ[i]? = some (some (.ref l)) → σ[j]? = some (some (.ref l')) → H l = some u → H l' = some u' → a ∈ fpU l u c → a ∈ fpU l' u' c' → i = j
  tl : TL Z B.F
section
variable {Z : Zt} {B : Bs} {S : List Sl} {F F' : Ty} {σ : St} {H H' : Hp}
theorem At.ok (h : At Z B S F σ H) : Okk F H := h.ext.ok
theorem At.tl' (h : At Z B S F σ H) : TL Z F := h.tl.ex h.ext.ex
theorem ext_fp (e : Ext F H F' H') {l : Addr} {u : HO} {c : Ce} (hu : H l = some u) (nF : F l = none) (nB : Frsh B.H l) (r : Cell Z B.H F H l c u) {a : Addr} (ha : a ∈ fpU l u c) : H' a = H a ∧ F' a = F a := by
  obtain ⟨h1, h2, w, h3, h4, h5, h6⟩ := r.fp hu nF nB ha
  obtain ⟨k1, k2⟩ := e.kp a w h3 h1 h5
  refine ⟨by rw [k1, h3], ?_⟩
  rcases k2 with k2 | ⟨_, xs, z⟩
  · rw [k2, h1]
  · exact (h6 xs z).elim
theorem SlOk.ext (e : Ext F H F' H') {s : Sl} {o : Option (Option V)} (h : SlOk Z B.H F H s o) : SlOk Z B.H F' H' s o := by
  cases s with
  | un => trivial
  | dat d => obtain ⟨v, q, r⟩ := h; exact ⟨v, q, r.ex e.ex⟩
  | lam f c q =>
    obtain ⟨h1, h2, n⟩ := h
    obtain ⟨h3, n2⟩ := e.kp c _ h2 n (fun _ z => by unfold LamX.CodeO at z; cases z)
    rcases n2 with n2 | ⟨_, xs, hx⟩
    · exact ⟨h1, h3, n2⟩
    · unfold LamX.CodeO at hx; cases hx
  | exc a d f x => exact ⟨h.1, h.2.ex e.ex⟩
  | own c =>
    obtain ⟨l, u, q, h1, n, b, r⟩ := h
    obtain ⟨k1, k2⟩ := ext_fp e h1 n b r fp_self
    exact ⟨l, u, q, by rw [k1]; exact h1, by rw [k2]; exact n, b, r.keep e.ex fun a ha => ext_fp e h1 n b r ha⟩
theorem At.own (h : At Z B S F σ H) {i : Nat} {c : Ce} (hi : S[i]? = some (.own c)) : ∃ l u, σ[i]? = some (some (.ref l)) ∧ H l = some u ∧ F l = none ∧ Frsh B.H l ∧ Cell Z B.H F H l c u := h.sl i _ hi
theorem At.dis_ext (h : At Z B S F σ H) (e : Ext F H F' H') (i j : Nat) (a l l' : Addr) (u u' : HO) (c c' : Ce) (hi : S[i]? = some (.own c)) (hj : S[j]? = some (.own c')) (ei : σ[i]? = some (some (.ref l))) (ej : σ[j]? = some (some (.ref l'))) (hu : H' l = some u) (hu' : H' l' = some u') (ha : a ∈ fpU l u c) (ha' : a ∈ fpU l' u' c') : i = j := by
  obtain ⟨l1, u1, e1, h1, n1, b1, r1⟩ := h.own hi
  rw [ei] at e1; cases e1
  obtain ⟨l2, u2, e2, h2, n2, b2, r2⟩ := h.own hj
  rw [ej] at e2; cases e2
  rw [(ext_fp e h1 n1 b1 r1 fp_self).1] at hu
  rw [(ext_fp e h2 n2 b2 r2 fp_self).1] at hu'
  exact h.dis i j a l l' u u' c c' hi hj ei ej hu hu' ha ha'
theorem At.go (h : At Z B S F σ H) (e : Ext F H F' H') : At Z B S F' σ H' := ⟨h.ext.trans e, h.fe.trans e.ex, h.len, fun i s q => (h.sl i s q).ext e, h.dis_ext e, h.tl⟩
theorem At.dat (h : At Z B S F σ H) {i : Nat} {d : D} (hi : S[i]? = some (.dat d)) : ∃ v, σ[i]? = some (some v) ∧ Rp Z F v d := h.sl i _ hi
theorem At.lt (h : At Z B S F σ H) {i : Nat} {s : Sl} (hi : S[i]? = some s) : i < σ.length := by
  rw [h.len]; exact (List.getElem?_eq_some_iff.mp hi).1
/-- a slot gets what is not changed in place -/
theorem At.setNo (h : At Z B S F σ H) {i : Nat} {s : Sl} {o : Option V} (hs : i < S.length → SlOk Z B.H F H s (some o)) (hn : ∀ c, s ≠ .own c) : At Z B (S.set i s) F (σ.set i o) H := by
  refine ⟨h.ext, h.fe, by rw [List.length_set, List.length_set]; exact h.len, fun j t q => ?_, fun j k a l l' u u' c c' q1 q2 e1 e2 => ?_, h.tl⟩
  · by_cases z : i = j
    · subst z
      have hj : i < S.length := by
        have := (List.getElem?_eq_some_iff.mp q).1
        rwa [List.length_set] at this
      rw [List.getElem?_set_self hj] at q
      cases q
      rw [List.getElem?_set_self (by rw [h.len]; exact hj)]
      exact hs hj
    · rw [List.getElem?_set_ne z] at q
      rw [List.getElem?_set_ne z]
      exact h.sl j t q
  · have ne : ∀ (j : Nat) (c : Ce), (S.set i s)[j]? = some (.own c) → i ≠ j := fun j c q z => by
      subst z
      have hj : i < S.length := by
        have := (List.getElem?_eq_some_iff.mp q).1
        rwa [List.length_set] at this
      rw [List.getElem?_set_self hj] at q
      exact hn c (Option.some.inj q)
    have nj := ne _ _ q1
    have nk := ne _ _ q2
    rw [List.getElem?_set_ne nj] at q1 e1
    rw [List.getElem?_set_ne nk] at q2 e2
    exact h.dis j k a l l' u u' c c' q1 q2 e1 e2
/-- a slot is filled with data -/
theorem At.set (h : At Z B S F σ H) {i : Nat} {v : V} {d : D} (r : Rp Z F v d) : At Z B (S.set i (.dat d)) F (σ.set i (some v)) H := h.setNo (fun _ => ⟨v, rfl, r⟩) fun _ z => by cases z
theorem At.unset (h : At Z B S F σ H) {i : Nat} {o : Option V} : At Z B (S.set i .un) F (σ.set i o) H := h.setNo (fun _ => trivial) fun _ z => by cases z
theorem Ext.live {F F' : Ty} {H H' : Hp} (e : Ext F H F' H') {a : Addr} {o : HO} (h : H a = some o) (pl : ∀ ps, o ≠ .tbl ps) : ∃ o', H' a = some o' := by
  cases q : F a with
  | none => exact ⟨o, (e.kp a o h q pl).1⟩
  | some p =>
    obtain ⟨o', h2, _⟩ := e.ok.at_ _ _ (e.ex _ _ q)
    exact ⟨o', h2⟩
theorem At.fresh (h : At Z B S F σ H) {p : Addr} (n : H p = none) : Frsh B.H p := by
  intro o q
  cases o with
  | tbl ps => exact ⟨ps, rfl⟩
  | _ =>
    obtain ⟨o', h2⟩ := h.ext.live q (fun _ z => by cases z)
    rw [n] at h2; cases h2
theorem ex_none {F F' : Ty} {a : Addr} (e : Ex F F') (h : F' a = none) : F a = none := by
  cases z : F a with
  | none => rfl
  | some p => rw [e _ _ z] at h; cases h
theorem frsh_none {H : Hp} {a : Addr} (h : H a = none) : Frsh H a := fun o z => by rw [h] at z; cases z
theorem At.freshX (h : At Z B S F σ H) {p : Addr} (n : Frsh H p) (hF : F p = none) : Frsh B.H p := by
  intro o q
  cases o with
  | tbl ps => exact ⟨ps, rfl⟩
  | _ => exact n _ (h.ext.kp _ _ q (ex_none h.ext.ex hF) (fun _ z => by cases z)).1
/-- a slot gets a new thing that is to be changed in place -/
theorem At.newOwnX (h : At Z B S F σ H) {i : Nat} {p : Addr} {c : Ce} {u : HO} (e : Ext F H F' H') (hu : H' p = some u) (hn : ∀ a ∈ fpU p u c, Frsh H a) (hF : F' p = none) (hc : Cell Z B.H F' H' p c u) : At Z B (S.set i (.own c)) F' (σ.set i (some (.ref p))) H' := by
  have hg := h.go e
  refine ⟨hg.ext, hg.fe, by rw [List.length_set, List.length_set]; exact h.len, fun j s q => ?_, fun j k a l l' u1 u2 c1 c2 q1 q2 e1 e2 w1 w2 a1 a2 => ?_, h.tl⟩
  · by_cases z : i = j
    · subst z
      have hj : i < S.length := by
        have := (List.getElem?_eq_some_iff.mp q).1
        rwa [List.length_set] at this
      rw [List.getElem?_set_self hj] at q
      cases q
      rw [List.getElem?_set_self (by rw [h.len]; exact hj)]
      exact ⟨p, u, rfl, hu, hF, h.freshX (hn p fp_self) (ex_none e.ex hF), hc⟩
    · rw [List.getElem?_set_ne z] at q
      rw [List.getElem?_set_ne z]
      exact hg.sl j s q
  · have old : ∀ (m : Nat) (c' : Ce) (l : Addr) (w : HO), S[m]? = some (.own c') → σ[m]? = some (some (.ref l)) → H' l = some w → a ∈ fpU l w c' → a ∈ fpU p u c → False := fun m c' l w q1 q2 q3 q4 q5 => by
      obtain ⟨l', u', e', hu', n', b', r'⟩ := h.own q1
      rw [q2] at e'; cases e'
      rw [(ext_fp e hu' n' b' r' fp_self).1, hu'] at q3
      cases q3
      obtain ⟨_, _, w, hw, _, ht, _⟩ := r'.fp hu' n' b' q4
      obtain ⟨ps, e9⟩ := hn a q5 w hw
      exact ht ps e9
    have self : ∀ (m : Nat) (c' : Ce) (l : Addr) (w : HO), i = m → (S.set i (.own c))[m]? = some (.own c') → (σ.set i (some (.ref p)))[m]? = some (some (.ref l)) → H' l = some w → a ∈ fpU l w c' → a ∈ fpU p u c := fun m c' l w z q1 q2 q3 q4 => by
      subst z
      have hj : i < S.length := by
        have := (List.getElem?_eq_some_iff.mp q1).1
        rwa [List.length_set] at this
      rw [List.getElem?_set_self hj] at q1
      rw [List.getElem?_set_self (by rw [h.len]; exact hj)] at q2
      cases q1; cases q2
      rw [hu] at q3; cases q3
      exact q4
    by_cases zj : i = j
    · by_cases zk : i = k
      · exact zj.symm.trans zk
      · exfalso
        have s1 := self j c1 l u1 zj q1 e1 w1 a1
        rw [List.getElem?_set_ne zk] at q2 e2
        exact old k c2 l' u2 q2 e2 w2 a2 s1
    · by_cases zk : i = k
      · exfalso
        have s1 := self k c2 l' u2 zk q2 e2 w2 a2
        rw [List.getElem?_set_ne zj] at q1 e1
        exact old j c1 l u1 q1 e1 w1 a1 s1
      · rw [List.getElem?_set_ne zj] at q1 e1
        rw [List.getElem?_set_ne zk] at q2 e2
        exact hg.dis j k a l l' u1 u2 c1 c2 q1 q2 e1 e2 w1 w2 a1 a2
theorem At.newOwn (h : At Z B S F σ H) {i : Nat} {p : Addr} {c : Ce} {u : HO} (n : H p = none) (hc : Cell Z B.H F (upd H p u) p c u) (hf : fpU p u c = [p] := by rfl) : At Z B (S.set i (.own c)) F (σ.set i (some (.ref p))) (upd H p u) :=
  h.newOwnX (Ext.own h.ok n) upd_same (fun a ha => by rw [hf] at ha; rw [List.mem_singleton.mp ha]; exact frsh_none n) (h.ok.none n) hc
/-- it is changed, at one of its addresses -/
theorem At.chg (h : At Z B S F σ H) {i : Nat} {l a : Addr} {c c' : Ce} {u u' o : HO} (hi : S[i]? = some (.own c)) (hl : σ[i]? = some (some (.ref l))) (hu : H l = some u) (ha : a ∈ fpU l u c) (hu' : upd H a o l = some u') (hs : ∀ b ∈ fpU l u' c', b ∈ fpU l u c)
    (hc : Cell Z B.H F (upd H a o) l c' u') : At Z B (S.set i (.own c')) F σ (upd H a o) := by
  obtain ⟨l1, u1, e, hu1, nF, nB, hcu⟩ := h.own hi
  rw [hl] at e; cases e
  rw [hu] at hu1; cases hu1
  have hil := (List.getElem?_eq_some_iff.mp hi).1
  obtain ⟨fa, ba, w, hw, wc, wt, wtu⟩ := hcu.fp hu nF nB ha
  -- the others
  have oth : ∀ (j : Nat) (c2 : Ce) (m : Addr) (x : HO), i ≠ j → S[j]? = some (.own c2) → σ[j]? = some (some (.ref m)) → H m = some x → ∀ b ∈ fpU m x c2, upd H a o b = H b := fun j c2 m x z q e hx b hb => by
    rw [upd_ne (fun y => by subst y; exact z (h.dis i j b l m u x c c2 hi q hl e hu hx ha hb))]
  refine ⟨⟨h.ext.ex, h.ok.put fa hw wc, fun b x q n pl => ?_⟩, h.fe, by rw [List.length_set]; exact h.len, fun j s q => ?_, fun j k b m m' x x' c1 c2 q1 q2 e1 e2 w1 w2 a1 a2 => ?_, h.tl⟩
  · have z : b ≠ a := fun z => by
      subst z
      obtain ⟨ps, y⟩ := ba _ q
      exact pl ps y
    rw [upd_ne z]; exact h.ext.kp b x q n pl
  · by_cases z : i = j
    · subst z
      rw [List.getElem?_set_self hil] at q
      cases q
      exact ⟨l, u', hl, hu', nF, nB, hc⟩
    · rw [List.getElem?_set_ne z] at q
      have := h.sl j s q
      cases s with
      | un => trivial
      | dat d => exact this
      | exc a d f x => exact this
      | lam f c q =>
        refine ⟨this.1, ?_, this.2.2⟩
        rw [upd_ne (fun y => by subst y; have z := this.2.1; rw [hw] at z; cases z; exact wc _ _ rfl)]
        exact this.2.1
      | own c2 =>
        obtain ⟨m, x, e, hx, n1, n2, hcm⟩ := this
        have k := oth j c2 m x z q e hx
        exact ⟨m, x, e, by rw [k m fp_self]; exact hx, n1, n2, hcm.keep (Ex.refl F) fun b hb => ⟨k b hb, rfl⟩⟩
  · have back : ∀ (j : Nat) (c1 : Ce) (m : Addr) (x : HO), (S.set i (.own c'))[j]? = some (.own c1) → σ[j]? = some (some (.ref m)) → upd H a o m = some x → b ∈ fpU m x c1 → ∃ c0 x0, S[j]? = some (.own c0) ∧ H m = some x0 ∧ b ∈ fpU m x0 c0 := fun j c1 m x q e hx hb => by
      by_cases z : i = j
      · subst z
        rw [List.getElem?_set_self hil] at q
        cases q
        rw [hl] at e; cases e
        rw [hu'] at hx; cases hx
        exact ⟨c, u, hi, hu, hs b hb⟩
      · rw [List.getElem?_set_ne z] at q
        obtain ⟨m0, x0, e0, hx0, _⟩ := h.own q
        rw [e] at e0; cases e0
        rw [oth j c1 m x0 z q e hx0 m fp_self, hx0] at hx
        cases hx
        exact ⟨c1, _, q, hx0, hb⟩
    obtain ⟨_, _, g1, y1, z1⟩ := back j c1 m x q1 e1 w1 a1
    obtain ⟨_, _, g2, y2, z2⟩ := back k c2 m' x' q2 e2 w2 a2
    exact h.dis j k b m m' _ _ _ _ g1 g2 e1 e2 y1 y2 z1 z2
theorem At.put (h : At Z B S F σ H) {i : Nat} {l : Addr} {c c' : Ce} {u : HO} (hi : S[i]? = some (.own c)) (hl : σ[i]? = some (some (.ref l))) (hc : Cell Z B.H F (upd H l u) l c' u) (hf : fpU l u c' = [l] := by rfl) : At Z B (S.set i (.own c')) F σ (upd H l u) := by
  obtain ⟨l', u', e, hu, _⟩ := h.own hi
  rw [hl] at e; cases e
  exact h.chg hi hl hu fp_self upd_same (fun b hb => by rw [hf] at hb; rw [List.mem_singleton.mp hb]; exact fp_self) hc
/-- what is no more changed becomes data -/
theorem At.learn (h : At Z B S F σ H) {i : Nat} {l : Addr} {c : Ce} {u : HO} {d : D} (hi : S[i]? = some (.own c)) (hl : σ[i]? = some (some (.ref l))) (hu : H l = some u) (ex' : Ex F F') (ok' : Okk F' H) (hF : ∀ b, b ∉ fpU l u c → F' b = F b) (r : Rp Z F' (.ref l) d) : At Z B (S.set i (.dat d)) F' σ H := by
  obtain ⟨l1, u1, e, hu1, nF, nB, hcu⟩ := h.own hi
  rw [hl] at e; cases e
  rw [hu] at hu1; cases hu1
  have hil := (List.getElem?_eq_some_iff.mp hi).1
  refine ⟨⟨h.ext.ex.trans ex', ok', fun a o q n pl => ?_⟩, h.fe.trans ex', by rw [List.length_set]; exact h.len, fun j s q => ?_, fun j k a m m' x x' c1 c2 q1 q2 e1 e2 => ?_, h.tl⟩
  · have z : a ∉ fpU l u c := fun z => by
      obtain ⟨ps, y⟩ := (hcu.fp hu nF nB z).2.1 _ q
      exact pl ps y
    rw [hF a z]; exact h.ext.kp a o q n pl
  · by_cases z : i = j
    · subst z
      rw [List.getElem?_set_self hil] at q
      cases q
      exact ⟨.ref l, hl, r⟩
    · rw [List.getElem?_set_ne z] at q
      have := h.sl j s q
      cases s with
      | un => trivial
      | dat d => obtain ⟨v, h1, h2⟩ := this; exact ⟨v, h1, h2.ex ex'⟩
      | exc a d f x => exact ⟨this.1, this.2.ex ex'⟩
      | lam f c' q =>
        refine ⟨this.1, this.2.1, ?_⟩
        rw [hF _ (fun y => by
          obtain ⟨_, _, w, hw, wc, _⟩ := hcu.fp hu nF nB y
          have z := this.2.1
          rw [hw] at z; cases z; exact wc _ _ rfl)]
        exact this.2.2
      | own c' =>
        obtain ⟨m, w, em, hw, n1, n2, hcm⟩ := this
        have k : ∀ b ∈ fpU m w c', F' b = F b := fun b hb => hF b fun y => z (h.dis i j b l m u w c c' hi q hl em hu hw y hb)
        exact ⟨m, w, em, hw, by rw [k m fp_self]; exact n1, n2, hcm.keep ex' fun b hb => ⟨rfl, k b hb⟩⟩
  · have g : ∀ (k : Nat) (c : Ce), (S.set i (.dat d))[k]? = some (Sl.own c) → S[k]? = some (Sl.own c) := fun k c q => by
      by_cases z : i = k
      · subst z; rw [List.getElem?_set_self hil] at q; cases q
      · rw [List.getElem?_set_ne z] at q; exact q
    exact h.dis j k a m m' x x' c1 c2 (g _ _ q1) (g _ _ q2) e1 e2
theorem ex_upd {F : Ty} {l : Addr} {p : HO → Prop} (n : F l = none) : Ex F (updT F l p) := fun b q z => by
  by_cases hb : b = l
  · subst hb; rw [n] at z; cases z
  · rw [updT_ne hb]; exact z
/-- one address becomes known -/
theorem At.learn1 (h : At Z B S F σ H) {i : Nat} {l : Addr} {c : Ce} {u : HO} {d : D} (hi : S[i]? = some (.own c)) (hl : σ[i]? = some (some (.ref l))) (hu : H l = some u) (r : Rp Z (updT F l (is u)) (.ref l) d) : At Z B (S.set i (.dat d)) (updT F l (is u)) σ H := by
  obtain ⟨l1, u1, e, hu1, nF, nB, hcu⟩ := h.own hi
  rw [hl] at e; cases e
  rw [hu] at hu1; cases hu1
  obtain ⟨_, _, w, hw, wc, wt, _⟩ := hcu.fp hu nF nB fp_self
  rw [hu] at hw; cases hw
  exact h.learn hi hl hu (ex_upd nF) (h.ok.learn nF hu ⟨wt, wc⟩) (fun b hb => updT_ne (fun z => by subst z; exact hb fp_self)) r
theorem At.freeze (h : At Z B S F σ H) {i : Nat} {ds : List D} (hi : S[i]? = some (.own (.lst ds))) : ∃ F', Ex F F' ∧ At Z B (S.set i (.dat (.lst ds))) F' σ H := by
  obtain ⟨l, u, e, hu, nF, nB, vs, eu, r⟩ := h.own hi
  subst eu
  exact ⟨_, ex_upd nF, h.learn1 hi e hu (.lst (.inl (.inl updT_same)) (r.ex (ex_upd nF)))⟩
theorem zip_eq {κ : Type} : ∀ {vs : List (κ × V)} {ds : List (κ × D)}, vs.map (·.1) = ds.map (·.1) → vs = (ds.map (·.1)).zip (vs.map (·.2))
  | [], [], _ => rfl
  | [], _ :: _, h => by cases h
  | _ :: _, [], h => by cases h
  | p :: vs, q :: ds, h => by
    simp only [List.map_cons, List.cons.injEq] at h
    simp only [List.map_cons, List.zip_cons_cons, List.cons.injEq]
    exact ⟨by rw [← h.1], zip_eq h.2⟩
theorem At.freezeT (h : At Z B S F σ H) {i : Nat} {kvs : List (List Key × D)} (hi : S[i]? = some (.own (.dT kvs))) : ∃ F', Ex F F' ∧ At Z B (S.set i (.dat (.dtt (kvs.map (·.1)) (kvs.map (·.2))))) F' σ H := by
  obtain ⟨l, u, e, hu, nF, nB, vs, eu, r⟩ := h.own hi
  subst eu
  have z := zip_eq r.1
  refine ⟨_, ex_upd nF, h.learn1 hi e hu (.dtt (xs := vs.map (·.2)) (by rw [updT_same, ← z]) ?_ (r.2.ex (ex_upd nF)))⟩
  have := congrArg List.length r.1
  simpa using this
theorem At.freezeK (h : At Z B S F σ H) {i : Nat} {kvs : List (Key × D)} (hi : S[i]? = some (.own (.dK kvs))) : ∃ F', Ex F F' ∧ At Z B (S.set i (.dat (.dkk (kvs.map (·.1)) (kvs.map (·.2))))) F' σ H := by
  obtain ⟨l, u, e, hu, nF, nB, vs, eu, r⟩ := h.own hi
  subst eu
  have z := zip_eq r.1
  refine ⟨_, ex_upd nF, h.learn1 hi e hu (.dkk (xs := vs.map (·.2)) (by rw [updT_same, ← z]) ?_ (r.2.ex (ex_upd nF)))⟩
  have := congrArg List.length r.1
  simpa using this
/-- less is said -/
inductive Wk : List Sl → List Sl → Prop
  | nil : Wk [] []
  | un {s : Sl} {S S' : List Sl} : Wk S S' → Wk (s :: S) (.un :: S')
  | same {s : Sl} {S S' : List Sl} : Wk S S' → Wk (s :: S) (s :: S')
theorem Wk.refl : ∀ S : List Sl, Wk S S
  | [] => .nil
  | _ :: S => .same (Wk.refl S)
theorem Wk.len : ∀ {S S' : List Sl}, Wk S S' → S.length = S'.length
  | _, _, .nil => rfl
  | _, _, .un w => by rw [List.length_cons, List.length_cons, Wk.len w]
  | _, _, .same w => by rw [List.length_cons, List.length_cons, Wk.len w]
theorem Wk.get : ∀ {S S' : List Sl} {i : Nat} {s : Sl}, Wk S S' → S'[i]? = some s → s = .un ∨ S[i]? = some s
  | _, _, 0, _, .un _, e => by simp at e; exact .inl e.symm
  | _, _, 0, _, .same _, e => by simp at e; subst e; exact .inr rfl
  | _, _, i + 1, _, .un w, e => by
    rcases Wk.get (i := i) w (by simpa using e) with h | h
    · exact .inl h
    · exact .inr (by simpa using h)
  | _, _, i + 1, _, .same w, e => by
    rcases Wk.get (i := i) w (by simpa using e) with h | h
    · exact .inl h
    · exact .inr (by simpa using h)
theorem At.weak {S' : List Sl} (h : At Z B S F σ H) (w : Wk S S') : At Z B S' F σ H := by
  refine ⟨h.ext, h.fe, h.len.trans w.len, fun i s q => ?_, fun i j a l l' u u' c c' q1 q2 => ?_, h.tl⟩
  · rcases w.get q with e | e
    · subst e; trivial
    · exact h.sl i s e
  · rcases w.get q1 with e | e
    · cases e
    · rcases w.get q2 with e2 | e2
      · cases e2
      · exact h.dis i j a l l' u u' c c' e e2
end

/-- where a body stands: the text's facts, the entry, what is wished of errors, and of the slots then -/
structure Gx where
  Z : Zt
  B : Bs
  W : WX
  Se : List Sl
def Gx.Er (G : Gx) (c : Nat) (x : D) : Prop := ∀ cls dd F σ H, At G.Z G.B G.Se F σ H → ErrIs G.Z F c x cls dd → G.W cls dd σ H
section
variable (G : Gx) (S : List Sl)
def eV (n : N D) : TE := fun σ H Q => ∃ F, At G.Z G.B S F σ H ∧ n.wp (fun d => ∀ v F' H', Ext F H F' H' → Rp G.Z F' v d → Q v H') G.Er
def tV (n : N Bool) : TT := fun σ H Q => ∃ F, At G.Z G.B S F σ H ∧ n.wp (fun b => ∀ F' H', Ext F H F' H' → Q b H') G.Er
def aV (n : N (List D)) : TA := fun σ H Q => ∃ F, At G.Z G.B S F σ H ∧ n.wp (fun ds => ∀ vs F' H', Ext F H F' H' → RpL G.Z F' vs ds → Q vs H') G.Er
end
/-- how a block ends: on, handing back, out of the loop, on with the loop -/
inductive Fl (τ β : Type) where
  | nx (t : τ) | rt (d : D) | bk (b : β) | ct (b : β)
section
variable (G : Gx) (S : List Sl)
def flP {τ β : Type} (F0 : Ty) (sl : τ → List Sl) (sb : β → List Sl) (E : Ends) : Fl τ β → Prop
  | .nx t => ∀ F σ H, Ex F0 F → At G.Z G.B (sl t) F σ H → E.nx σ H
  | .bk t => ∀ F σ H, Ex F0 F → At G.Z G.B (sb t) F σ H → E.bk σ H
  | .ct t => ∀ F σ H, Ex F0 F → At G.Z G.B (sb t) F σ H → E.ct σ H
  | .rt d => ∀ v F H, Ext G.B.F G.B.H F H → Rp G.Z F v d → E.rt v H
def sV {τ β : Type} (sl : τ → List Sl) (sb : β → List Sl) (n : N (Fl τ β)) : TS := fun E σ H => ∃ F, At G.Z G.B S F σ H ∧ n.wp (flP G F sl sb E) G.Er
theorem flP.ex {τ β : Type} {F0 F1 : Ty} {sl : τ → List Sl} {sb : β → List Sl} {E : Ends} (e : Ex F0 F1) {f : Fl τ β} (h : flP G F0 sl sb E f) : flP G F1 sl sb E f := by
  cases f with
  | nx t => exact fun F σ H e1 A => h F σ H (e.trans e1) A
  | bk t => exact fun F σ H e1 A => h F σ H (e.trans e1) A
  | ct t => exact fun F σ H e1 A => h F σ H (e.trans e1) A
  | rt d => exact h
end

theorem PE.imp {X : Cx} {e : Expr} {t t' : TE} (h : PE X e t) (i : ∀ σ H Q, t' σ H Q → t σ H Q) : PE X e t' := ⟨fun pins s σ H Q I q => h.run pins s σ H Q I (i σ H Q q)⟩
theorem PT.imp {X : Cx} {e : Expr} {t t' : TT} (h : PT X e t) (i : ∀ σ H Q, t' σ H Q → t σ H Q) : PT X e t' := ⟨fun pins s σ H Q I q => h.run pins s σ H Q I (i σ H Q q)⟩
theorem PW.imp {X : Cx} {e : Expr} {t t' : TT} (h : PW X e t) (i : ∀ σ H Q, t' σ H Q → t σ H Q) : PW X e t' := ⟨fun w pins s σ H Q I q => h.run w pins s σ H Q I (i σ H Q q)⟩
theorem PA.imp {X : Cx} {e : List Expr} {t t' : TA} (h : PA X e t) (i : ∀ σ H Q, t' σ H Q → t σ H Q) : PA X e t' := ⟨fun pos pins s σ H Q I q => h.run pos pins s σ H Q I (i σ H Q q)⟩
theorem PK.imp {X : Cx} {e : List Keyword} {t t' : TA} (h : PK X e t) (i : ∀ σ H Q, t' σ H Q → t σ H Q) : PK X e t' := ⟨fun pos pins s σ H Q I q => h.run pos pins s σ H Q I (i σ H Q q)⟩
theorem PS.imp {X : Cx} {e : Stmt} {t t' : TS} (h : PS X e t) (i : ∀ E σ H, t' E σ H → t E σ H) : PS X e t' := ⟨fun pins s σ H E I q => h.run pins s σ H E I (i E σ H q)⟩
theorem PSs.imp {X : Cx} {e : List Stmt} {t t' : TS} (h : PSs X e t) (i : ∀ E σ H, t' E σ H → t E σ H) : PSs X e t' := ⟨fun pins s σ H E I q => h.run pins s σ H E I (i E σ H q)⟩

/-! ### expressions -/
section
variable {X : Cx} {G : Gx} {S : List Sl} {a b c : Expr} {na nb nc : N D} {pos : Pos}

theorem de_var {i : Nat} {x : Str} {d : D} (hi : S[i]? = some (.dat d) := by rfl) (hN : X.N[i]? = some x := by rfl) (hv : Vis X.env.scope x := by first | exact Or.inl rfl | exact Or.inr (Or.inl rfl) | exact Or.inr (Or.inr rfl))
    (hd : (x == ("__debug__" : Str)) = false := by decide) (hcd : (x == ("__classdict__" : Str)) = false := by decide) : PE X (.Name x pos) (eV G S (.ok d)) :=
  PE.imp (pe_var (i := i) hN hv hd hcd) fun σ H Q ⟨F, A, q⟩ => by
    obtain ⟨v, h, r⟩ := A.dat hi
    exact ⟨v, h, q v F H (Ext.refl A.ok) r⟩
theorem de_c {e : Expr} {v : V} {d : D} (h : PE X e (tC v)) (r : ∀ F, Rp G.Z F v d) : PE X e (eV G S (.ok d)) := PE.imp h fun σ H Q ⟨F, A, q⟩ => q v F H (Ext.refl A.ok) (r F)
theorem de_int {i j} : PE X (.Constant (.int i) j pos) (eV G S (.ok (.int i))) := de_c pe_int fun _ => .int _
theorem de_bl {i j} : PE X (.Constant (.bool i) j pos) (eV G S (.ok (.bl i))) := de_c pe_bl fun _ => .bl _
theorem de_str {i j} : PE X (.Constant (.str i) j pos) (eV G S (.ok (.str i))) := de_c pe_str fun _ => .str _
theorem de_non {j} : PE X (.Constant .none j pos) (eV G S (.ok .non)) := de_c pe_non fun _ => .non

/-- what a two-place operation on values does by data -/
def R2D (G : Gx) (r : R2) (op : D → D → N D) : Prop := ∀ (F : Ty) (H : Hp) (x y : D) (v u : V) (Q : VK), Okk F H → Rp G.Z F v x → Rp G.Z F u y →
  (op x y).wp (fun d => ∀ w F' H', Ext F H F' H' → Rp G.Z F' w d → Q w H') (fun _ _ => False) → r v u H Q
def R1D (G : Gx) (r : V → Hp → VK → Prop) (op : D → N D) : Prop := ∀ (F : Ty) (H : Hp) (x : D) (v : V) (Q : VK), Okk F H → Rp G.Z F v x →
  (op x).wp (fun d => ∀ w F' H', Ext F H F' H' → Rp G.Z F' w d → Q w H') (fun _ _ => False) → r v H Q
def RCD (G : Gx) (r : List V → Hp → VK → Prop) (op : List D → N D) : Prop := ∀ (F : Ty) (H : Hp) (xs : List D) (vs : List V) (Q : VK), Okk F H → RpL G.Z F vs xs →
  (op xs).wp (fun d => ∀ w F' H', Ext F H F' H' → Rp G.Z F' w d → Q w H') (fun _ _ => False) → r vs H Q
/-- no error of its own -/
def Tot {α : Type} (n : N α) : Prop := ∀ (k : α → Prop) (e : Nat → D → Prop), n.wp k e → n.wp k (fun _ _ => False)

theorem op_run {G : Gx} {S : List Sl} {ta tb : TE} {r : R2} {op : D → D → N D} (hr : R2D G r op) (ht : ∀ x y, Tot (op x y)) {σ : St} {H : Hp} {Q : VK}
    (h : eV G S (na.bind fun x => nb.bind fun y => op x y) σ H Q) : eV G S na σ H fun v H1 => eV G S nb σ H1 fun u H2 => r v u H2 Q := by
  obtain ⟨F, A, q⟩ := h
  refine ⟨F, A, na.mono (fun x q1 v F1 H1 e1 r1 => ?_) (fun _ _ z => z) q⟩
  have A1 := A.go e1
  refine ⟨F1, A1, nb.mono (fun y q2 u F2 H2 e2 r2 => ?_) (fun _ _ z => z) q1⟩
  refine hr F2 H2 x y v u Q (A1.go e2).ok (r1.ex e2.ex) r2 ((op x y).mono (fun d q3 w F3 H3 e3 r3 => q3 w F3 H3 ((e1.trans e2).trans e3) r3) (fun _ _ z => z) (ht x y _ _ q2))
theorem de_op {op : Operator} {r : R2} {o : D → D → N D} (ho : OpR X (binaryOp op) r) (hr : R2D G r o) (ht : ∀ x y, Tot (o x y)) (ha : PE X a (eV G S na)) (hb : PE X b (eV G S nb)) :
    PE X (.BinOp a op b pos) (eV G S (na.bind fun x => nb.bind fun y => o x y)) := PE.imp (pe_op ho ha hb) fun _ _ _ h => op_run (ta := eV G S na) (tb := eV G S nb) hr ht h
theorem de_cmp {op : CmpOp} {r : R2} {o : D → D → N D} (ho : OpR X (compareOp op) r) (hr : R2D G r o) (ht : ∀ x y, Tot (o x y)) (ha : PE X a (eV G S na)) (hb : PE X b (eV G S nb)) (hm : behindInMarks op b = false) :
    PE X (.Compare a [op] [b] pos) (eV G S (na.bind fun x => nb.bind fun y => o x y)) := PE.imp (pe_cmpR ho ha hb hm) fun _ _ _ h => op_run (ta := eV G S na) (tb := eV G S nb) hr ht h
theorem de_ix {r : R2} {o : D → D → N D} (ho : IxR X r) (hr : R2D G r o) (ht : ∀ x y, Tot (o x y)) (ha : PE X a (eV G S na)) (hb : PE X b (eV G S nb)) (hs : PlainIx b := by exact fun _ _ => rfl) :
    PE X (.Subscript a b pos) (eV G S (na.bind fun x => nb.bind fun y => o x y)) := PE.imp (pe_ix ho ha hb hs) fun _ _ _ h => op_run (ta := eV G S na) (tb := eV G S nb) hr ht h
theorem de_un {op : UnaryOp} {r : V → Hp → VK → Prop} {o : D → N D} (ho : UnR X (unaryOp op) r) (hr : R1D G r o) (ht : ∀ x, Tot (o x)) (ha : PE X a (eV G S na)) : PE X (.UnaryOp op a pos) (eV G S (na.bind o)) :=
  PE.imp (pe_un ho ha) fun σ H Q ⟨F, A, q⟩ => ⟨F, A, na.mono (fun x q1 v F1 H1 e1 r1 => hr F1 H1 x v Q (A.go e1).ok r1 ((o x).mono (fun d q2 w F2 H2 e2 r2 => q2 w F2 H2 (e1.trans e2) r2) (fun _ _ z => z) (ht x _ _ q1))) (fun _ _ z => z) q⟩

/-! arguments -/
theorem da_nil : PA X [] (aV G S (.ok [])) := PA.imp pa_nil fun σ H Q ⟨F, A, q⟩ => q [] F H (Ext.refl A.ok) .nil
theorem cons_run {na : N D} {nr : N (List D)} {σ : St} {H : Hp} {Q : List V → Hp → Prop} (h : aV G S (na.bind fun x => nr.bind fun xs => .ok (x :: xs)) σ H Q) :
    tCons (eV G S na) (aV G S nr) σ H Q := by
  obtain ⟨F, A, q⟩ := h
  refine ⟨F, A, na.mono (fun x q1 v F1 H1 e1 r1 => ?_) (fun _ _ z => z) q⟩
  refine ⟨F1, A.go e1, nr.mono (fun xs q2 vs F2 H2 e2 r2 => ?_) (fun _ _ z => z) q1⟩
  exact q2 (v :: vs) F2 H2 (e1.trans e2) (.cons (r1.ex e2.ex) r2)
theorem da_cons {es : List Expr} {nr : N (List D)} (ha : PE X a (eV G S na)) (hr : PA X es (aV G S nr)) (hs : starEach (a :: es) X.env = (false, eval a X.env) :: starEach es X.env := by rfl) :
    PA X (a :: es) (aV G S (na.bind fun x => nr.bind fun xs => .ok (x :: xs))) := PA.imp (pa_cons ha hr hs) fun _ _ _ h => cons_run h
theorem dk_nil : PK X [] (aV G S (.ok [])) := PK.imp pk_nil fun σ H Q ⟨F, A, q⟩ => q [] F H (Ext.refl A.ok) .nil
theorem dk_cons {es : List Keyword} {nr : N (List D)} {nm : Option Str} {kpos : Pos} (ha : PE X a (eV G S na)) (hr : PK X es (aV G S nr)) :
    PK X (⟨nm, a, kpos⟩ :: es) (aV G S (na.bind fun x => nr.bind fun xs => .ok (x :: xs))) := PK.imp (pk_cons ha hr) fun _ _ _ h => cons_run h
def N.le1 {α : Type} (xs : List α) : N Unit := N.asrt (xs.length ≤ sizeLine)
theorem de_tup {es : List Expr} {n : N (List D)} {x1} (h : PA X es (aV G S n)) : PE X (.Tuple es x1 pos) (eV G S (n.bind fun xs => (N.le1 xs).bind fun _ => .ok (.tup xs))) :=
  PE.imp (pe_tup h) fun σ H Q ⟨F, A, q⟩ => ⟨F, A, n.mono (fun xs q1 vs F1 H1 e1 r1 => by
    obtain ⟨hl, q2⟩ := q1
    refine ⟨by rw [r1.length]; exact hl, fun p hp => ?_⟩
    have ok1 := (A.go e1).ok
    have e2 : Ext F1 H1 (updT F1 p (is (.tup vs))) (upd H1 p (.tup vs)) := Ext.new ok1 hp rfl
    exact q2 _ _ _ (e1.trans e2) (.tup updT_same (r1.ex e2.ex))) (fun _ _ z => z) q⟩
theorem de_lst {es : List Expr} {n : N (List D)} (h : PA X es (aV G S n)) : PE X (.List es pos) (eV G S (n.bind fun xs => (N.le1 xs).bind fun _ => .ok (.lst xs))) :=
  PE.imp (pe_lst h) fun σ H Q ⟨F, A, q⟩ => ⟨F, A, n.mono (fun xs q1 vs F1 H1 e1 r1 => by
    obtain ⟨hl, q2⟩ := q1
    refine ⟨by rw [r1.length]; exact hl, fun p hp => ?_⟩
    have ok1 := (A.go e1).ok
    have e2 : Ext F1 H1 (updT F1 p (is (.lst vs))) (upd H1 p (.lst vs)) := Ext.new ok1 hp rfl
    exact q2 _ _ _ (e1.trans e2) (.lst (.inl (.inl updT_same)) (r1.ex e2.ex))) (fun _ _ z => z) q⟩

/-! tests -/
def N.tst (d : D) : N Bool := match d with
  | .bl b => .ok b
  | _ => .stuck
theorem rp_bl {Z : Zt} {F : Ty} {v : V} {b : Bool} (r : Rp Z F v (.bl b)) : v = .bl b := by cases r; rfl
theorem rp_int {Z : Zt} {F : Ty} {v : V} {b : Int} (r : Rp Z F v (.int b)) : v = .int b := by cases r; rfl
theorem rp_str {Z : Zt} {F : Ty} {v : V} {b : Str} (r : Rp Z F v (.str b)) : v = .str b := by cases r; rfl
theorem rp_non {Z : Zt} {F : Ty} {v : V} (r : Rp Z F v .non) : v = .non := by cases r; rfl
theorem tst_run {na : N D} {σ : St} {H : Hp} {Q : Bool → Hp → Prop} (h : tV G S (na.bind N.tst) σ H Q) : eV G S na σ H fun x H1 => ∃ c, x = .bl c ∧ Q c H1 := by
  obtain ⟨F, A, q⟩ := h
  refine ⟨F, A, na.mono (fun x q1 v F1 H1 e1 r1 => ?_) (fun _ _ z => z) q⟩
  cases x with
  | bl b => exact ⟨b, rp_bl r1, q1 F1 H1 e1⟩
  | _ => exact (show False from q1).elim
/-- an expression that gives True or False, as a test -/
theorem dt_val (ha : PE X a (eV G S na)) (he : ∀ whole, isTrue a X.env whole = (do let v ← whole; standAt a.pos; holding [v] (truthy v)) := by intro _; rfl) : PT X a (tV G S (na.bind N.tst)) :=
  PT.imp (pt_val ha he) fun _ _ _ h => tst_run h
theorem dt_cmp {op : CmpOp} {r : R2} {o : D → D → N D} (ho : OpR X (compareOp op) r) (hr : R2D G r o) (ht : ∀ x y, Tot (o x y)) (ha : PE X a (eV G S na)) (hb : PE X b (eV G S nb)) (hm : behindInMarks op b = false) :
    PT X (.Compare a [op] [b] pos) (tV G S ((na.bind fun x => nb.bind fun y => o x y).bind N.tst)) := PT.imp (pt_cmpR ho ha hb hm) fun _ _ _ h => op_run (ta := eV G S na) (tb := eV G S nb) hr ht (tst_run (na := na.bind fun x => nb.bind fun y => o x y) h)
theorem dt_not {n : N Bool} (h : PT X a (tV G S n)) : PT X (.UnaryOp .Not a pos) (tV G S (n.bind fun b => .ok (!b))) :=
  PT.imp (pt_not h) fun _ _ _ ⟨F, A, q⟩ => ⟨F, A, q⟩
theorem and_run {n m : N Bool} {σ : St} {H : Hp} {Q : Bool → Hp → Prop} (h : tV G S (n.bind fun b => if b = true then m else .ok false) σ H Q) : tAnd (tV G S n) (tV G S m) σ H Q := by
  obtain ⟨F, A, q⟩ := h
  refine ⟨F, A, n.mono (fun b q1 F1 H1 e1 => ?_) (fun _ _ z => z) q⟩
  cases b with
  | true => exact ⟨F1, A.go e1, m.mono (fun c q2 F2 H2 e2 => q2 F2 H2 (e1.trans e2)) (fun _ _ z => z) q1⟩
  | false => exact q1 F1 H1 e1
theorem or_run {n m : N Bool} {σ : St} {H : Hp} {Q : Bool → Hp → Prop} (h : tV G S (n.bind fun b => if b = true then .ok true else m) σ H Q) : tOr (tV G S n) (tV G S m) σ H Q := by
  obtain ⟨F, A, q⟩ := h
  refine ⟨F, A, n.mono (fun b q1 F1 H1 e1 => ?_) (fun _ _ z => z) q⟩
  cases b with
  | false => exact ⟨F1, A.go e1, m.mono (fun c q2 F2 H2 e2 => q2 F2 H2 (e1.trans e2)) (fun _ _ z => z) q1⟩
  | true => exact q1 F1 H1 e1
theorem dw_and1 {n : N Bool} (h : PT X a (tV G S n)) : PW X (.BoolOp .And [a] pos) (tV G S n) := pw_and1 h
theorem dw_or1 {n : N Bool} (h : PT X a (tV G S n)) : PW X (.BoolOp .Or [a] pos) (tV G S n) := pw_or1 h
theorem dw_and {rest : List Expr} {n m : N Bool} (ha : PT X a (tV G S n)) (hb : PW X (.BoolOp .And (b :: rest) pos) (tV G S m)) : PW X (.BoolOp .And (a :: b :: rest) pos) (tV G S (n.bind fun x => if x = true then m else .ok false)) :=
  PW.imp (pw_and ha hb) fun _ _ _ h => and_run h
theorem dw_or {rest : List Expr} {n m : N Bool} (ha : PT X a (tV G S n)) (hb : PW X (.BoolOp .Or (b :: rest) pos) (tV G S m)) : PW X (.BoolOp .Or (a :: b :: rest) pos) (tV G S (n.bind fun x => if x = true then .ok true else m)) :=
  PW.imp (pw_or ha hb) fun _ _ _ h => or_run h
/-- the same as values -/
def N.boo (d : D) : N Bool := N.tst d
theorem de_one {op} {n : N D} (h : PE X a (eV G S n)) : PE X (.BoolOp op [a] pos) (eV G S n) := pe_one h
theorem de_and {rest : List Expr} (ha : PE X a (eV G S na)) (hb : PE X (.BoolOp .And (b :: rest) pos) (eV G S nb)) : PE X (.BoolOp .And (a :: b :: rest) pos) (eV G S (na.bind fun x => (N.tst x).bind fun c => if c = true then nb else .ok (.bl false))) :=
  PE.imp (pe_and ha hb) fun σ H Q ⟨F, A, q⟩ => ⟨F, A, na.mono (fun x q1 v F1 H1 e1 r1 => by
    cases x with
    | bl c =>
      refine ⟨c, rp_bl r1, ?_⟩
      cases c with
      | true => exact ⟨F1, A.go e1, nb.mono (fun d q2 w F2 H2 e2 r2 => q2 w F2 H2 (e1.trans e2) r2) (fun _ _ z => z) q1⟩
      | false => exact q1 _ F1 H1 e1 (.bl false)
    | _ => exact (show False from q1).elim) (fun _ _ z => z) q⟩
theorem de_or {rest : List Expr} (ha : PE X a (eV G S na)) (hb : PE X (.BoolOp .Or (b :: rest) pos) (eV G S nb)) : PE X (.BoolOp .Or (a :: b :: rest) pos) (eV G S (na.bind fun x => (N.tst x).bind fun c => if c = true then .ok (.bl true) else nb)) :=
  PE.imp (pe_or ha hb) fun σ H Q ⟨F, A, q⟩ => ⟨F, A, na.mono (fun x q1 v F1 H1 e1 r1 => by
    cases x with
    | bl c =>
      refine ⟨c, rp_bl r1, ?_⟩
      cases c with
      | false => exact ⟨F1, A.go e1, nb.mono (fun d q2 w F2 H2 e2 r2 => q2 w F2 H2 (e1.trans e2) r2) (fun _ _ z => z) q1⟩
      | true => exact q1 _ F1 H1 e1 (.bl true)
    | _ => exact (show False from q1).elim) (fun _ _ z => z) q⟩
theorem de_not (ha : PE X a (eV G S na)) : PE X (.UnaryOp .Not a pos) (eV G S (na.bind fun x => (N.tst x).bind fun c => .ok (.bl (!c)))) :=
  PE.imp (pe_not ha) fun σ H Q ⟨F, A, q⟩ => ⟨F, A, na.mono (fun x q1 v F1 H1 e1 r1 => by
    cases x with
    | bl c => exact ⟨c, rp_bl r1, q1 _ F1 H1 e1 (.bl _)⟩
    | _ => exact (show False from q1).elim) (fun _ _ z => z) q⟩
theorem de_if {n : N Bool} (hc : PT X c (tV G S n)) (ha : PE X a (eV G S na)) (hb : PE X b (eV G S nb)) : PE X (.IfExp c a b pos) (eV G S (n.bind fun x => if x = true then na else nb)) :=
  PE.imp (pe_ifExp hc ha hb) fun σ H Q ⟨F, A, q⟩ => ⟨F, A, n.mono (fun x q1 F1 H1 e1 => by
    cases x with
    | true => exact ⟨F1, A.go e1, na.mono (fun d q2 w F2 H2 e2 r2 => q2 w F2 H2 (e1.trans e2) r2) (fun _ _ z => z) q1⟩
    | false => exact ⟨F1, A.go e1, nb.mono (fun d q2 w F2 H2 e2 r2 => q2 w F2 H2 (e1.trans e2) r2) (fun _ _ z => z) q1⟩) (fun _ _ z => z) q⟩

/-! calls -/
/-- a def's promise by its mirror -/
def spN (Z : Zt) (n : Nat) (m : List D → N D) : Sp := fun vs H Q E => vs.length = n ∧ ∃ F ds, Okk F H ∧ TL Z F ∧ RpL Z F vs ds ∧
  (m ds).wp (fun d => ∀ v F' H', Ext F H F' H' → Rp Z F' v d → Q v H') (fun c x => ∀ cls dd F' H', Ext F H F' H' → ErrIs Z F' c x cls dd → E cls dd H')
theorem spN.len {Z : Zt} {n : Nat} {m : List D → N D} (vs : List V) (H : Hp) (Q : VK) (E : XK) (h : spN Z n m vs H Q E) : vs.length = n := h.1
def Arity (n : Nat) (m : List D → N D) : Prop := ∀ ds k e, (m ds).wp k e → ds.length = n
def app0 (m : N D) : List D → N D | [] => m | _ => .stuck
def app1 (m : D → N D) : List D → N D | [a] => m a | _ => .stuck
def app2 (m : D → D → N D) : List D → N D | [a, b] => m a b | _ => .stuck
def app3 (m : D → D → D → N D) : List D → N D | [a, b, c] => m a b c | _ => .stuck
def app4 (m : D → D → D → D → N D) : List D → N D | [a, b, c, d] => m a b c d | _ => .stuck
def app5 (m : D → D → D → D → D → N D) : List D → N D | [a, b, c, d, e] => m a b c d e | _ => .stuck
theorem ar0 (m) : Arity 0 (app0 m) := fun ds k e h => match ds, h with | [], _ => rfl
theorem ar1 (m) : Arity 1 (app1 m) := fun ds k e h => match ds, h with | [_], _ => rfl
theorem ar2 (m) : Arity 2 (app2 m) := fun ds k e h => match ds, h with | [_, _], _ => rfl
theorem ar3 (m) : Arity 3 (app3 m) := fun ds k e h => match ds, h with | [_, _, _], _ => rfl
theorem ar4 (m) : Arity 4 (app4 m) := fun ds k e h => match ds, h with | [_, _, _, _], _ => rfl
theorem ar5 (m) : Arity 5 (app5 m) := fun ds k e h => match ds, h with | [_, _, _, _, _], _ => rfl
theorem call_post {n : Nat} {vs : List V} {F1 : Ty} {F : Ty} {H H1 : Hp} {σ : St} {ds : List D} {m : List D → N D} {Q : VK} (hz : Arity n m) (hw : Wk S G.Se) (A : At G.Z G.B S F σ H) (e1 : Ext F H F1 H1) (r1 : RpL G.Z F1 vs ds)
    (q : (m ds).wp (fun d => ∀ v F' H', Ext F H F' H' → Rp G.Z F' v d → Q v H') G.Er) : spN G.Z n m vs H1 Q (WE G.W σ) :=
  ⟨r1.length.trans (hz ds _ _ q), F1, ds, (A.go e1).ok, (A.go e1).tl', r1, (m ds).mono (fun d q2 v F2 H2 e2 r2 => q2 v F2 H2 (e1.trans e2) r2) (fun c x z cls dd F2 H2 e2 er => z cls dd F2 σ H2 (((A.go e1).go e2).weak hw) er) q⟩
/-- what a call of a def wants, once: it stands at f, keeps its mirror's promise, is in reach -/
structure Cal (X : Cx) (G : Gx) (x : Str) (n : Nat) (m : List D → N D) : Prop where
  ex : ∃ (k : Nat) (f : Addr) (fd : FuncData) (ps : List Str), FnOk X.prog X.w X.K X.mg X.base (L2.CX X.prog X.w) k f fd ps (spN G.Z n m) ∧ Room k X.A ∧ X.mg x = some (.ref f) ∧ PySem.W.keepIn X.K (.ref f) = true ∧ Binds X.K fd ps []
  ar : Arity n m
theorem de_callL {n : Nat} {m : List D → N D} {x : Str} {p : Pos} {e : Expr} {es : List Expr} {na : N (List D)} (C : Cal X G x n m) (tk : Takes X G.W) (hw : Wk S G.Se)
    (ha : PA X (e :: es) (aV G S na)) (hg : Gl X x := by rfl) (hdb : (x == ("__debug__" : Str)) = false := by decide) (he : starEach (e :: es) X.env = (false, eval e X.env) :: starEach es X.env := by rfl) (hpl : (backTo pos (starEach es X.env)).any (·.1) = false := by rfl) :
    PE X (.Call (.Name x p) (e :: es) [] pos) (eV G S (na.bind m)) := by
  obtain ⟨k, f, fd, ps, Fn, hr, hm, hk, hb⟩ := C.ex
  refine PE.imp (pe_callS Fn hr hg hm hk hb (fun σ => passAt tk σ) ha hdb he hpl) fun σ H Q ⟨F, A, q⟩ => ?_
  exact ⟨F, A, na.mono (fun ds q1 vs F1 H1 e1 r1 => call_post C.ar hw A e1 r1 q1) (fun _ _ z => z) q⟩
theorem de_call1 {m : D → N D} {x : Str} {p : Pos} (C : Cal X G x 1 (app1 m)) (tk : Takes X G.W) (hw : Wk S G.Se) (ha : PE X a (eV G S na)) (hg : Gl X x := by rfl) (hdb : (x == ("__debug__" : Str)) = false := by decide)
    (h1 : starEach [a] X.env = (false, eval a X.env) :: starEach [] X.env := by rfl) : PE X (.Call (.Name x p) [a] [] pos) (eV G S (na.bind m)) :=
  de_callL C tk hw (da_cons ha da_nil h1) hg hdb h1 rfl
theorem de_call2 {m : D → D → N D} {x : Str} {p : Pos} (C : Cal X G x 2 (app2 m)) (tk : Takes X G.W) (hw : Wk S G.Se) (ha : PE X a (eV G S na)) (hb : PE X b (eV G S nb)) (hg : Gl X x := by rfl) (hdb : (x == ("__debug__" : Str)) = false := by decide)
    (h1 : starEach [a, b] X.env = (false, eval a X.env) :: starEach [b] X.env := by rfl) (h2 : starEach [b] X.env = (false, eval b X.env) :: starEach [] X.env := by rfl) (hpl : (backTo pos (starEach [b] X.env)).any (·.1) = false := by rfl) :
    PE X (.Call (.Name x p) [a, b] [] pos) (eV G S (na.bind fun x => nb.bind fun y => m x y)) :=
  de_callL C tk hw (da_cons ha (da_cons hb da_nil h2) h1) hg hdb h1 hpl
theorem de_call3 {m : D → D → D → N D} {x : Str} {p : Pos} (C : Cal X G x 3 (app3 m)) (tk : Takes X G.W) (hw : Wk S G.Se) (ha : PE X a (eV G S na)) (hb : PE X b (eV G S nb)) (hc : PE X c (eV G S nc)) (hg : Gl X x := by rfl) (hdb : (x == ("__debug__" : Str)) = false := by decide)
    (h1 : starEach [a, b, c] X.env = (false, eval a X.env) :: starEach [b, c] X.env := by rfl) (h2 : starEach [b, c] X.env = (false, eval b X.env) :: starEach [c] X.env := by rfl) (h3 : starEach [c] X.env = (false, eval c X.env) :: starEach [] X.env := by rfl)
    (hpl : (backTo pos (starEach [b, c] X.env)).any (·.1) = false := by rfl) :
    PE X (.Call (.Name x p) [a, b, c] [] pos) (eV G S (na.bind fun x => nb.bind fun y => nc.bind fun z => m x y z)) :=
  de_callL C tk hw (da_cons ha (da_cons hb (da_cons hc da_nil h3) h2) h1) hg hdb h1 hpl
end
end M

set_option Elab.async false
set_option linter.all false
set_option maxRecDepth 100000
set_option maxHeartbeats 2000000
namespace M
open PySem L2
/-! ### statements -/
section
variable {X : Cx} {G : Gx} {S : List Sl} {τ τ1 β : Type} {sl : τ → List Sl} {sl1 : τ1 → List Sl} {sb : β → List Sl} {a b c e : Expr} {na nb : N D} {pos : Pos} {st : Stmt} {rest body : List Stmt}
theorem PSs.ex {ι : Type} {u : ι → TS} (h : ∀ t, PSs X rest (u t)) : PSs X rest (fun E σ H => ∃ t, u t E σ H) := ⟨fun pins s σ H E I ⟨t, q⟩ => (h t).run pins s σ H E I q⟩
def N.seq (n : N (Fl τ1 β)) (m : τ1 → N (Fl τ β)) : N (Fl τ β) := n.bind fun f => match f with
  | .nx t => m t
  | .rt d => .ok (.rt d)
  | .bk t => .ok (.bk t)
  | .ct t => .ok (.ct t)
theorem ds_cons {n : N (Fl τ1 β)} {m : τ1 → N (Fl τ β)} (h1 : PS X st (sV G S sl1 sb n)) (h2 : ∀ t, PSs X rest (sV G (sl1 t) sl sb (m t))) : PSs X (st :: rest) (sV G S sl sb (n.seq m)) :=
  PSs.imp (pss_cons h1 (PSs.ex h2)) fun E σ H ⟨F0, A, q⟩ => ⟨F0, A, n.mono (fun f q1 => by
    cases f with
    | nx t => exact fun F σ H e A => ⟨t, F, A, (m t).mono (fun f q2 => flP.ex G e q2) (fun _ _ z => z) q1⟩
    | rt d => exact q1
    | bk t => exact q1
    | ct t => exact q1) (fun _ _ z => z) q⟩
theorem ds_one {n : N (Fl τ β)} (h1 : PS X st (sV G S sl sb n)) : PSs X [st] (sV G S sl sb n) := pss_one h1
theorem ds_nil (t : τ) (h : sl t = S := by rfl) : PSs X [] (sV G S sl sb (.ok (.nx t))) := PSs.imp pss_nil fun E σ H ⟨F, A, q⟩ => q F σ H (Ex.refl F) (by rw [h]; exact A)
/-- weakened behind -/
theorem ds_nilW (t : τ) (h : Wk S (sl t)) : PSs X [] (sV G S sl sb (.ok (.nx t))) := PSs.imp pss_nil fun E σ H ⟨F, A, q⟩ => q F σ H (Ex.refl F) (A.weak h)
theorem ds_pass : PS X (.Pass pos) (sV G S (fun _ : Unit => S) sb (.ok (.nx ()))) := PS.imp ps_pass fun E σ H ⟨F, A, q⟩ => q F σ H (Ex.refl F) A
theorem ds_brk (t : β) (h : sb t = S := by rfl) : PS X (.Break pos) (sV G S sl sb (.ok (.bk t))) := PS.imp ps_break fun E σ H ⟨F, A, q⟩ => q F σ H (Ex.refl F) (by rw [h]; exact A)
theorem ds_cont (t : β) (h : sb t = S := by rfl) : PS X (.Continue pos) (sV G S sl sb (.ok (.ct t))) := PS.imp ps_continue fun E σ H ⟨F, A, q⟩ => q F σ H (Ex.refl F) (by rw [h]; exact A)
theorem ds_contW (t : β) (h : Wk S (sb t)) : PS X (.Continue pos) (sV G S sl sb (.ok (.ct t))) := PS.imp ps_continue fun E σ H ⟨F, A, q⟩ => q F σ H (Ex.refl F) (A.weak h)
theorem ds_ret (ha : PE X e (eV G S na)) : PS X (.Return (some e) pos) (sV G S sl sb (na.bind fun d => .ok (.rt d))) :=
  PS.imp (ps_ret ha) fun E σ H ⟨F, A, q⟩ => ⟨F, A, na.mono (fun d q1 v F1 H1 e1 r1 => q1 v F1 H1 (A.ext.trans e1) r1) (fun _ _ z => z) q⟩
theorem ds_retN : PS X (.Return none pos) (sV G S sl sb (.ok (.rt .non))) := PS.imp ps_retN fun E σ H ⟨F, A, q⟩ => q .non F H A.ext .non
theorem ds_expr (ha : PE X e (eV G S na)) (hs : swapsWith e none pos.line X.env = pure false := by rfl) : PS X (.Expr e pos) (sV G S (fun _ : Unit => S) sb (na.bind fun _ => .ok (.nx ()))) :=
  PS.imp (ps_expr ha hs) fun E σ H ⟨F, A, q⟩ => ⟨F, A, na.mono (fun d q1 v F1 H1 e1 r1 => q1 F1 σ H1 e1.ex (A.go e1)) (fun _ _ z => z) q⟩
theorem ds_set {i : Nat} {x : Str} {pos' : Pos} (hN : X.N.Nodup) (ha : PE X e (eV G S na)) (hi : X.N[i]? = some x := by rfl) (hx : Loc X.env.scope x := by first | exact Or.inl rfl | exact Or.inr rfl) (hs : swapsWith e (some (.Name x pos')) pos.line X.env = pure false := by rfl)
    (hf : X.fn x = true ∨ X.env.scope.names.lookup x = some .local := by first | exact .inl rfl | exact .inr rfl) :
    PS X (.Assign [.Name x pos'] e pos) (sV G S (fun d => S.set i (.dat d)) sb (na.bind fun d => .ok (.nx d))) :=
  PS.imp (ps_set (i := i) hN hi hx ha hs hf) fun E σ H ⟨F, A, q⟩ => ⟨F, A, na.mono (fun d q1 v F1 H1 e1 r1 => q1 F1 _ H1 e1.ex ((A.go e1).set r1)) (fun _ _ z => z) q⟩
theorem ds_if {n : N Bool} {n1 n2 : N (Fl τ β)} {s1 s2 : List Stmt} (hc : PT X c (tV G S n)) (h1 : PSs X s1 (sV G S sl sb n1)) (h2 : PSs X s2 (sV G S sl sb n2)) :
    PS X (.If c s1 s2 pos) (sV G S sl sb (n.bind fun x => if x = true then n1 else n2)) :=
  PS.imp (ps_if hc h1 h2) fun E σ H ⟨F, A, q⟩ => ⟨F, A, n.mono (fun x q1 F1 H1 e1 => by
    cases x with
    | true => exact ⟨F1, A.go e1, n1.mono (fun f q2 => flP.ex G e1.ex q2) (fun _ _ z => z) q1⟩
    | false => exact ⟨F1, A.go e1, n2.mono (fun f q2 => flP.ex G e1.ex q2) (fun _ _ z => z) q1⟩) (fun _ _ z => z) q⟩
/-- raise C(e) -/
theorem ds_raise {ci : Nat} {nm : String} {fI : Addr} {p pos2 : Pos} {k : Nat} {x : Str} (hc : X.calm = true) (T : PySem.TErr.ETxt X.K X.mg nm (G.Z.fs ci) (G.Z.cs ci) fI) (hr : Room k X.A) (tk : Takes X G.W) (hw : Wk S G.Se) (ha : PE X a (eV G S na))
    (hx : x = PySem.Str.ofString nm := by rfl) (hg : Gl X x := by rfl) (hdb : (x == ("__debug__" : Str)) = false := by decide) (he : starEach (a :: []) X.env = (false, eval a X.env) :: starEach [] X.env := by rfl) (hpl : (backTo pos (starEach [] X.env)).any (·.1) = false := by rfl) :
    PS X (.Raise (some (.Call (.Name x p) [a] [] pos)) none pos2) (sV G S sl sb (na.bind fun d => .err ci d)) :=
  PS.imp (ps_raiseE hc T hr tk (pa_cons ha pa_nil he) hx hg hdb he hpl) fun E σ H ⟨F, A, q⟩ => ⟨F, A, na.mono (fun d q1 v F1 H1 e1 r1 => ⟨v, rfl, fun p hp => by
    have A1 := A.go e1
    have e2 : Ext F1 H1 (updT F1 p (is (.xd [(PySem.Str.ofString (G.Z.fs ci), v)]))) (upd H1 p (.xd [(PySem.Str.ofString (G.Z.fs ci), v)])) := Ext.new A1.ok hp rfl
    exact q1 _ _ _ σ _ ((A1.go e2).weak hw) ⟨rfl, .inr ⟨fld_ne T.fld, p, v, rfl, updT_same, r1.ex e2.ex⟩⟩⟩) (fun _ _ z => z) q⟩
/-- raise C(), a bare class -/
theorem ds_raise0 {ci : Nat} {bmB : List Value} {B newId initId : String} {x : Str} {p pos2 : Pos} (hc : X.calm = true) (tk : Takes X G.W) (hw : Wk S G.Se) (F : PySem.ExcBaseFacts B newId initId bmB) (hf : G.Z.fs ci = "") (q : PySem.W.excIn X.K (G.Z.cs ci) bmB newId = true) (gC : X.mg x = some (.ref (G.Z.cs ci))) (kC : PySem.W.keepIn X.K (.ref (G.Z.cs ci)) = true) (r : Raises X (.ref (G.Z.cs ci))) (hg : Gl X x := by rfl)
    (hdb : (x == ("__debug__" : Str)) = false := by decide) : PS X (.Raise (some (.Call (.Name x p) [] [] pos)) none pos2) (sV G S sl sb (.err ci .non)) :=
  PS.imp (ps_raise0 hc tk F q gC kC r hg hdb) fun E σ H ⟨F, A, h⟩ => h _ none F σ H (A.weak hw) ⟨rfl, .inl ⟨hf, rfl⟩⟩
/-- C(f = e).f -/
theorem de_mkget {na : N (List D)} {nm f : String} {C fI : Addr} {kws : List Keyword} {p pos2 : Pos} {k : Nat} {x y : Str} (T : PySem.TErr.ETxt X.K X.mg nm f C fI) (hr : Room k X.A) (hkw : PK X kws (aV G S na)) (hx : x = PySem.Str.ofString nm := by rfl) (hy : y = PySem.Str.ofString f := by rfl) (hg : Gl X x := by rfl)
    (hdb : (x == ("__debug__" : Str)) = false := by decide) (hall : (backToKw pos (keywordEach kws X.env)).all (·.1.isSome) = true := by rfl) (hks : (backToKw pos (keywordEach kws X.env)).filterMap (·.1) = [y] := by rfl)
    (hpl : ((backTo pos (starEach [] X.env)).any (·.1) || (backToKw pos (keywordEach kws X.env)).any (·.1.isNone)) = false := by rfl)
    (hb : attributeBase (.Call (.Name x p) [] kws pos) y X.env (eval (.Call (.Name x p) [] kws pos) X.env) = eval (.Call (.Name x p) [] kws pos) X.env := by rfl) :
    PE X (.Attribute (.Call (.Name x p) [] kws pos) y pos2) (eV G S (na.bind fun ds => match ds with | [d] => .ok d | _ => .stuck)) :=
  PE.imp (pe_mkget T hr hkw hx hy hg hdb hall hks hpl hb) fun σ H Q ⟨F, A, q⟩ => ⟨F, A, na.mono (fun ds q1 vs F1 H1 e1 r1 => by
    match ds, r1, q1 with
    | [d], .cons (v := v) r .nil, q1 => exact ⟨v, rfl, q1 v F1 H1 e1 r⟩) (fun _ _ z => z) q⟩
end

/-! ### a def's body -/
def N.fin {τ β : Type} (n : N (Fl τ β)) : N D := n.bind fun f => match f with
  | .nx _ => .ok .non
  | .rt d => .ok d
  | _ => .stuck
def sls (ds : List D) (k : Nat) : List Sl := ds.map Sl.dat ++ List.replicate k .un
theorem at_start {Z : Zt} {F : Ty} {H : Hp} {vs : List V} {ds : List D} {Nn : List Str} (ok : Okk F H) (t : TL Z F) (r : RpL Z F vs ds) : At Z ⟨F, H, F⟩ (sls ds (Nn.length - vs.length)) F (L2.start Nn vs) H := by
  refine ⟨Ext.refl ok, Ex.refl F, ?_, fun i s q => ?_, fun i j a l l' u u' c c' q1 => ?_, t⟩
  · unfold L2.start sls
    rw [List.length_append, List.length_append, List.length_map, List.length_map, List.length_replicate, List.length_replicate, r.length]
  · unfold sls at q
    unfold L2.start
    by_cases hi : i < ds.length
    · rw [List.getElem?_append_left (by rw [List.length_map]; exact hi), List.getElem?_map] at q
      cases e : ds[i]? with
      | none => rw [e] at q; cases q
      | some d =>
        rw [e] at q
        cases q
        obtain ⟨v, hv, rv⟩ := r.get e
        refine ⟨v, ?_, rv⟩
        rw [List.getElem?_append_left (by rw [List.length_map, r.length]; exact hi), List.getElem?_map, hv]
        rfl
    · rw [List.getElem?_append_right (by rw [List.length_map]; omega), List.getElem?_replicate] at q
      split at q
      · cases q; trivial
      · cases q
  · exfalso
    unfold sls at q1
    by_cases hi : i < ds.length
    · rw [List.getElem?_append_left (by rw [List.length_map]; exact hi), List.getElem?_map] at q1
      cases e : ds[i]? with
      | none => rw [e] at q1; cases q1
      | some d => rw [e] at q1; cases q1
    · rw [List.getElem?_append_right (by rw [List.length_map]; omega), List.getElem?_replicate] at q1
      split at q1
      · cases q1
      · cases q1
theorem wk_un : ∀ (S : List Sl), Wk S (List.replicate S.length .un)
  | [] => .nil
  | _ :: S => .un (wk_un S)
section
variable {P : Program} {w : World} {K : PySem.W.Frag} {mg : Str → Option Value} {base : Heap}
/-- what stands around a def's body -/
structure Body (Z : Zt) (k : Nat) (X : Cx) (G : Gx) (n : Nat) : Prop where
  z : G.Z = Z
  tk : Takes X G.W
  hr : Room k X.A
  se : G.Se = List.replicate n .un
/-- a def, by its body's derivation -/
theorem fn_ok {Z : Zt} {x qual : Str} {st : Stmt} {f : Addr} {fd : FuncData} {Nn ps : List Str} {k : Nat} {m : List D → N D} (F : Fun K x qual st f fd) (S : FnScope Nn ps (defScope st)) (ar : Arity ps.length m)
    (hbody : ∀ (X : Cx) (G : Gx) (ds : List D), X.prog = P → X.w = w → X.K = K → X.mg = mg → X.base = base → X.N = Nn → X.env.scope = defScope st → X.fn = (fun _ => true) → X.calm = true → X.stack = X.env :: X.outer → X.env.frame = some X.env.locals →
      G.Z = Z → G.Se = List.replicate Nn.length .un → Takes X G.W → Room k X.A → ds.length = ps.length →
      ∃ (τ β : Type) (sl : τ → List Sl) (sb : β → List Sl) (nn : N (Fl τ β)), PSs X (defBody st) (sV G (sls ds (Nn.length - ps.length)) sl sb nn) ∧ ∀ k e, (m ds).wp k e → nn.fin.wp k e) :
    FnOk P w K mg base (L2.CX P w) (k + 1) f fd ps (spN Z ps.length m) := by
  refine F.okX S (fun vs H Q E h => h.1) (fun cdv A outer s H vs Q E hr h => ?_)
  obtain ⟨hl, F0, ds, ok0, t0, r0, q0⟩ := h
  have hd : ds.length = ps.length := ar ds _ _ q0
  obtain ⟨τ, β, sl, sb, nn, hps, hq⟩ := hbody (cxOf (L2.CX P w) P w K mg base Nn qual (defScope st) f cdv A outer s H E) ⟨Z, ⟨F0, H, F0⟩, fun cls d _ H => E cls d H, List.replicate Nn.length .un⟩ ds rfl rfl rfl rfl rfl rfl rfl rfl rfl rfl rfl rfl rfl
    (takes_of rfl rfl rfl rfl) hr hd
  refine ⟨_, hps, ⟨F0, ?_, ?_⟩⟩
  · have := at_start (Z := Z) (Nn := Nn) ok0 t0 r0
    rw [hl] at this
    exact this
  · have q1 := hq _ _ q0
    refine nn.mono (fun f q2 => ?_) (fun c x q2 => ?_) q1
    · cases f with
      | nx t => exact fun F σ H1 _ A => q2 .non F H1 A.ext .non
      | rt d => exact fun v F H1 e1 r1 => q2 v F H1 e1 r1
      | bk t => exact (show False from q2).elim
      | ct t => exact (show False from q2).elim
    · intro cls dd F σ H1 A er
      exact q2 cls dd F H1 A.ext er
end
end M

set_option Elab.async false
set_option linter.all false
set_option maxRecDepth 100000
set_option maxHeartbeats 2000000
namespace M
open PySem L2
/-! ### operations by data -/
def iOp (f : Int → Int → D) : D → D → N D
  | .int i, .int j => .ok (f i j)
  | _, _ => .stuck
def iOpC (C : Int → Int → Prop) (f : Int → Int → D) : D → D → N D
  | .int i, .int j => (N.asrt (C i j)).bind fun _ => .ok (f i j)
  | _, _ => .stuck
theorem Tot.ok {α : Type} (a : α) : Tot (N.ok a) := fun _ _ h => h
theorem Tot.stuck {α : Type} : Tot (N.stuck : N α) := fun _ _ h => h
theorem Tot.bind {α β : Type} {n : N α} {f : α → N β} (h : Tot n) (hf : ∀ a, Tot (f a)) : Tot (n.bind f) := fun k e q => n.mono (fun a z => hf a _ _ z) (fun _ _ z => z) (h _ _ q)
theorem Tot.asrt (p : Prop) : Tot (N.asrt p) := fun _ _ h => h
theorem iOp_tot (f) (x y : D) : Tot (iOp f x y) := by
  unfold iOp
  split
  · exact Tot.ok _
  · exact Tot.stuck
theorem iOpC_tot (C) (f) (x y : D) : Tot (iOpC C f x y) := by
  unfold iOpC
  split
  · exact (Tot.asrt _).bind fun _ => Tot.ok _
  · exact Tot.stuck
section
variable {G : Gx}
theorem r2_I0 {g : Int → Int → V} {f : Int → Int → D} (h : ∀ F i j, Rp G.Z F (g i j) (f i j)) : R2D G (rI0 g) (iOp f) := by
  intro F H x y v u Q ok rx ry q
  unfold iOp at q
  split at q
  · exact ⟨_, _, rp_int rx, rp_int ry, q _ F H (Ext.refl ok) (h F _ _)⟩
  · exact q.elim
theorem r2_I {C : Int → Int → Prop} {g : Int → Int → V} {f : Int → Int → D} (h : ∀ F i j, Rp G.Z F (g i j) (f i j)) : R2D G (rI C g) (iOpC C f) := by
  intro F H x y v u Q ok rx ry q
  unfold iOpC at q
  split at q
  · exact ⟨_, _, rp_int rx, rp_int ry, q.1, q.2 _ F H (Ext.refl ok) (h F _ _)⟩
  · exact q.elim
abbrev dAdd := iOp fun i j => .int (i + j)
abbrev dSub := iOp fun i j => .int (i - j)
abbrev dMul := iOpC CMul fun i j => .int (i * j)
abbrev dDiv := iOpC CDiv fun i j => .int (i / j)
abbrev dMod := iOpC (fun _ j => 0 < j) fun i j => .int (i % j)
abbrev dModN := iOpC (fun _ j => j ≠ 0) fun i j => .int (i.fmod j)
abbrev dPow := iOpC CPow fun i j => .int (i ^ j.toNat)
abbrev dLt := iOp fun i j => .bl (decide (i < j))
abbrev dLe := iOp fun i j => .bl (decide (i ≤ j))
abbrev dGt := iOp fun i j => .bl (decide (j < i))
abbrev dGe := iOp fun i j => .bl (decide (j ≤ i))
variable {X : Cx} {S : List Sl} {a b c : Expr} {na nb nc : N D} {pos : Pos}
theorem de_add (ha : PE X a (eV G S na)) (hb : PE X b (eV G S nb)) : PE X (.BinOp a .Add b pos) (eV G S (na.bind fun x => nb.bind fun y => dAdd x y)) := de_op op_add (r2_I0 fun _ _ _ => .int _) (iOp_tot _) ha hb
theorem de_sub (ha : PE X a (eV G S na)) (hb : PE X b (eV G S nb)) : PE X (.BinOp a .Sub b pos) (eV G S (na.bind fun x => nb.bind fun y => dSub x y)) := de_op op_sub (r2_I0 fun _ _ _ => .int _) (iOp_tot _) ha hb
theorem de_mul (ha : PE X a (eV G S na)) (hb : PE X b (eV G S nb)) : PE X (.BinOp a .Mult b pos) (eV G S (na.bind fun x => nb.bind fun y => dMul x y)) := de_op op_mul (r2_I fun _ _ _ => .int _) (iOpC_tot _ _) ha hb
theorem de_fdiv (ha : PE X a (eV G S na)) (hb : PE X b (eV G S nb)) : PE X (.BinOp a .FloorDiv b pos) (eV G S (na.bind fun x => nb.bind fun y => dDiv x y)) := de_op op_fdiv (r2_I fun _ _ _ => .int _) (iOpC_tot _ _) ha hb
theorem de_mod (ha : PE X a (eV G S na)) (hb : PE X b (eV G S nb)) : PE X (.BinOp a .Mod b pos) (eV G S (na.bind fun x => nb.bind fun y => dMod x y)) := de_op op_mod (r2_I fun _ _ _ => .int _) (iOpC_tot _ _) ha hb
theorem de_pow (ha : PE X a (eV G S na)) (hb : PE X b (eV G S nb)) : PE X (.BinOp a .Pow b pos) (eV G S (na.bind fun x => nb.bind fun y => dPow x y)) := de_op op_pow (r2_I fun _ _ _ => .int _) (iOpC_tot _ _) ha hb
theorem de_lt (ha : PE X a (eV G S na)) (hb : PE X b (eV G S nb)) : PE X (.Compare a [.Lt] [b] pos) (eV G S (na.bind fun x => nb.bind fun y => dLt x y)) := de_cmp op_lt (r2_I0 fun _ _ _ => .bl _) (iOp_tot _) ha hb (nomark _)
theorem de_le (ha : PE X a (eV G S na)) (hb : PE X b (eV G S nb)) : PE X (.Compare a [.LtE] [b] pos) (eV G S (na.bind fun x => nb.bind fun y => dLe x y)) := de_cmp op_le (r2_I0 fun _ _ _ => .bl _) (iOp_tot _) ha hb (nomark _)
theorem de_gt (ha : PE X a (eV G S na)) (hb : PE X b (eV G S nb)) : PE X (.Compare a [.Gt] [b] pos) (eV G S (na.bind fun x => nb.bind fun y => dGt x y)) := de_cmp op_gt (r2_I0 fun _ _ _ => .bl _) (iOp_tot _) ha hb (nomark _)
theorem de_ge (ha : PE X a (eV G S na)) (hb : PE X b (eV G S nb)) : PE X (.Compare a [.GtE] [b] pos) (eV G S (na.bind fun x => nb.bind fun y => dGe x y)) := de_cmp op_ge (r2_I0 fun _ _ _ => .bl _) (iOp_tot _) ha hb (nomark _)
/-- a test by an expression's True or False: the derivation of the expression, taken as a test -/
theorem dt_of (ha : PE X a (eV G S na)) (he : ∀ whole, isTrue a X.env whole = (do let v ← whole; standAt a.pos; holding [v] (truthy v)) := by intro _; rfl) : PT X a (tV G S (na.bind N.tst)) := dt_val ha he
/-- a <= b < c and its like, of ints -/
def dChain (o o' : D → D → N D) (na nb nc : N D) : N D := na.bind fun x => nb.bind fun y => (o x y).bind fun z => (N.tst z).bind fun k => if k = true then nc.bind fun w => o' y w else .ok (.bl false)
theorem de_chain {op op' : CmpOp} {r r' : R2} {o o' : D → D → N D} (ho : OpR X (compareOp op) r) (ho' : OpR X (compareOp op') r') (hr : R2D G r o) (ht : ∀ x y, Tot (o x y)) (hr' : R2D G r' o') (ht' : ∀ x y, Tot (o' x y))
    (ha : PE X a (eV G S na)) (hb : PE X b (eV G S nb)) (hc : PE X c (eV G S nc)) (h1 : lastMarks [op, op'] [b, c] = false := by rfl) :
    PE X (.Compare a [op, op'] [b, c] pos) (eV G S (dChain o o' na nb nc)) :=
  PE.imp (pe_chain ho ho' ha hb hc h1) fun σ H Q ⟨F, A, q⟩ => by
    refine ⟨F, A, na.mono (fun x q1 v F1 H1 e1 r1 => ⟨F1, A.go e1, nb.mono (fun y q2 u F2 H2 e2 r2 => ?_) (fun _ _ z => z) q1⟩) (fun _ _ z => z) q⟩
    refine hr F2 H2 x y v u _ ((A.go e1).go e2).ok (r1.ex e2.ex) r2 ((o x y).mono (fun z q3 w F3 H3 e3 r3 => ?_) (fun _ _ z => z) (ht x y _ _ q2))
    cases z with
    | bl k =>
      refine ⟨k, rp_bl r3, ?_⟩
      cases k with
      | true =>
        refine ⟨F3, ((A.go e1).go e2).go e3, nc.mono (fun w q4 u2 F4 H4 e4 r4 => ?_) (fun _ _ z => z) q3⟩
        exact hr' F4 H4 y w u u2 Q ((((A.go e1).go e2).go e3).go e4).ok (r2.ex (e3.ex.trans e4.ex)) r4 ((o' y w).mono (fun d q5 w5 F5 H5 e5 r5 => q5 w5 F5 H5 ((((e1.trans e2).trans e3).trans e4).trans e5) r5) (fun _ _ z => z) (ht' y w _ _ q4))
      | false => exact q3 _ F3 H3 ((e1.trans e2).trans e3) (.bl false)
    | _ => exact (show False from q3).elim

/-- == of two flat things of one kind -/
def sEq : D → D → N Bool
  | .int i, .int j => .ok (decide (i = j))
  | .str i, .str j => .ok (decide (i = j))
  | .bl i, .bl j => .ok (decide (i = j))
  | _, _ => .stuck
def dEqS (x y : D) : N D := (sEq x y).bind fun b => .ok (.bl b)
def dNeS (x y : D) : N D := (sEq x y).bind fun b => .ok (.bl (!b))
theorem sEq_tot (x y : D) : Tot (sEq x y) := by
  unfold sEq
  split <;> first | exact Tot.ok _ | exact Tot.stuck
theorem r2_EqS : R2D G rEq dEqS := by
  intro F H x y v u Q ok rx ry q
  unfold dEqS sEq at q
  split at q
  · rename_i i j
    rw [rp_int rx, rp_int ry]
    refine ⟨rfl, ?_⟩
    have e : decide (V.int i = V.int j) = decide (i = j) := by simp only [V.int.injEq]
    rw [e]; exact q _ F H (Ext.refl ok) (.bl _)
  · rename_i i j
    rw [rp_str rx, rp_str ry]
    refine ⟨rfl, ?_⟩
    have e : decide (V.str i = V.str j) = decide (i = j) := by simp only [V.str.injEq]
    rw [e]; exact q _ F H (Ext.refl ok) (.bl _)
  · rename_i i j
    rw [rp_bl rx, rp_bl ry]
    refine ⟨rfl, ?_⟩
    have e : decide (V.bl i = V.bl j) = decide (i = j) := by simp only [V.bl.injEq]
    rw [e]; exact q _ F H (Ext.refl ok) (.bl _)
  · exact q.elim
theorem r2_NeS : R2D G rNe dNeS := by
  intro F H x y v u Q ok rx ry q
  unfold dNeS sEq at q
  split at q
  · rename_i i j
    rw [rp_int rx, rp_int ry]
    refine ⟨rfl, ?_⟩
    have e : decide (V.int i = V.int j) = decide (i = j) := by simp only [V.int.injEq]
    rw [e]; exact q _ F H (Ext.refl ok) (.bl _)
  · rename_i i j
    rw [rp_str rx, rp_str ry]
    refine ⟨rfl, ?_⟩
    have e : decide (V.str i = V.str j) = decide (i = j) := by simp only [V.str.injEq]
    rw [e]; exact q _ F H (Ext.refl ok) (.bl _)
  · rename_i i j
    rw [rp_bl rx, rp_bl ry]
    refine ⟨rfl, ?_⟩
    have e : decide (V.bl i = V.bl j) = decide (i = j) := by simp only [V.bl.injEq]
    rw [e]; exact q _ F H (Ext.refl ok) (.bl _)
  · exact q.elim
theorem dEqS_tot (x y : D) : Tot (dEqS x y) := (sEq_tot x y).bind fun _ => Tot.ok _
theorem dNeS_tot (x y : D) : Tot (dNeS x y) := (sEq_tot x y).bind fun _ => Tot.ok _
theorem de_eqS (ha : PE X a (eV G S na)) (hb : PE X b (eV G S nb)) : PE X (.Compare a [.Eq] [b] pos) (eV G S (na.bind fun x => nb.bind fun y => dEqS x y)) := de_cmp op_eq r2_EqS dEqS_tot ha hb (nomark _)
theorem de_neS (ha : PE X a (eV G S na)) (hb : PE X b (eV G S nb)) : PE X (.Compare a [.NotEq] [b] pos) (eV G S (na.bind fun x => nb.bind fun y => dNeS x y)) := de_cmp op_ne r2_NeS dNeS_tot ha hb (nomark _)

/-! data as the library's data, for == at any depth -/
mutual
def toPy : D → Option PyData
  | .non => some .none
  | .bl b => some (.bool b)
  | .int i => some (.int i)
  | .str s => some (.str s)
  | .tup xs => (toPys xs).map .tuple
  | .ktup xs => (toPys xs).map .tuple
  | .lst xs => (toPys xs).map .list
  | .obj _ _ => none
  | .dl _ => none
  | .dkk _ _ => none
  | .dtt _ _ => none
def toPys : List D → Option (List PyData)
  | [] => some []
  | x :: xs => match toPy x, toPys xs with
    | some p, some ps => some (p :: ps)
    | _, _ => none
end
mutual
theorem dp_of {F : Ty} {H : Hp} (ok : Okk F H) : ∀ {v : V} {d : D} {p : PyData}, Rp G.Z F v d → toPy d = some p → Dp G.Z.K H v p
  | _, _, _, .non, e => by unfold toPy at e; cases e; exact .non
  | _, _, _, .bl b, e => by unfold toPy at e; cases e; exact .bl b
  | _, _, _, .int i, e => by unfold toPy at e; cases e; exact .int i
  | _, _, _, .str i, e => by unfold toPy at e; cases e; exact .str i
  | _, _, _, .tup r l, e => by
    unfold toPy at e
    obtain ⟨ps, h1, h2⟩ := Option.map_eq_some_iff.mp e
    subst h2
    exact .tup (sqT_of ok r) (dps_of ok l h1)
  | _, _, _, .ktup r l, e => by
    unfold toPy at e
    obtain ⟨ps, h1, h2⟩ := Option.map_eq_some_iff.mp e
    subst h2
    exact .tup (.inr r) (dps_of ok l h1)
  | _, _, _, .lst r l, e => by
    unfold toPy at e
    obtain ⟨ps, h1, h2⟩ := Option.map_eq_some_iff.mp e
    subst h2
    exact .lst (RL.sq ok r) (dps_of ok l h1)
  | _, _, _, .obj _ _ _, e => by unfold toPy at e; cases e
  | _, _, _, .dl _, e => by unfold toPy at e; cases e
  | _, _, _, .dkk _ _ _, e => by unfold toPy at e; cases e
  | _, _, _, .dtt _ _ _, e => by unfold toPy at e; cases e
theorem dps_of {F : Ty} {H : Hp} (ok : Okk F H) : ∀ {vs : List V} {ds : List D} {ps : List PyData}, RpL G.Z F vs ds → toPys ds = some ps → DpAll G.Z.K H vs ps
  | _, _, _, .nil, e => by unfold toPys at e; cases e; exact .nil
  | _, _, _, .cons (d := d) (ds := ds) r l, e => by
    unfold toPys at e
    cases h1 : toPy d with
    | none => rw [h1] at e; simp at e
    | some p =>
      cases h2 : toPys ds with
      | none => rw [h1, h2] at e; simp at e
      | some ps =>
        rw [h1, h2] at e
        simp at e
        subst e
        exact .cons (dp_of ok r h1) (dps_of ok l h2)
end
/-- == of data at any depth -/
def pEq (x y : D) : N Bool := match toPy x, toPy y with
  | some p, some q => (N.asrt (SeqAt.shaped p = true ∧ SeqAt.shaped q = true)).bind fun _ => .ok (PyData.eqv p q)
  | _, _ => .stuck
def dEqD (x y : D) : N D := (pEq x y).bind fun b => .ok (.bl b)
def dNeD (x y : D) : N D := (pEq x y).bind fun b => .ok (.bl (!b))
theorem pEq_tot (x y : D) : Tot (pEq x y) := by
  unfold pEq
  split
  · exact (Tot.asrt _).bind fun _ => Tot.ok _
  · exact Tot.stuck
theorem dEqD_tot (x y : D) : Tot (dEqD x y) := (pEq_tot x y).bind fun _ => Tot.ok _
theorem dNeD_tot (x y : D) : Tot (dNeD x y) := (pEq_tot x y).bind fun _ => Tot.ok _
theorem r2_EqD : R2D G (rEqD G.Z.K) dEqD := by
  intro F H x y v u Q ok rx ry q
  unfold dEqD pEq at q
  split at q
  · rename_i p q' hp hq
    exact ⟨p, q', dp_of ok rx hp, dp_of ok ry hq, q.1.1, q.1.2, q.2 _ F H (Ext.refl ok) (.bl _)⟩
  · exact q.elim
theorem r2_NeD : R2D G (rNeD G.Z.K) dNeD := by
  intro F H x y v u Q ok rx ry q
  unfold dNeD pEq at q
  split at q
  · rename_i p q' hp hq
    exact ⟨p, q', dp_of ok rx hp, dp_of ok ry hq, q.1.1, q.1.2, q.2 _ F H (Ext.refl ok) (.bl _)⟩
  · exact q.elim
theorem de_eqD {k : Nat} (hr : Room k X.A) (hK : G.Z.K = X.K) (ha : PE X a (eV G S na)) (hb : PE X b (eV G S nb)) : PE X (.Compare a [.Eq] [b] pos) (eV G S (na.bind fun x => nb.bind fun y => dEqD x y)) :=
  de_cmp (op_eqD hr.units) (by rw [← hK]; exact r2_EqD) dEqD_tot ha hb (nomark _)
theorem de_neD {k : Nat} (hr : Room k X.A) (hK : G.Z.K = X.K) (ha : PE X a (eV G S na)) (hb : PE X b (eV G S nb)) : PE X (.Compare a [.NotEq] [b] pos) (eV G S (na.bind fun x => nb.bind fun y => dNeD x y)) :=
  de_cmp (op_neD hr.units) (by rw [← hK]; exact r2_NeD) dNeD_tot ha hb (nomark _)

/-! subscripts -/
def items : D → Option (List D)
  | .tup xs => some xs
  | .ktup xs => some xs
  | .lst xs => some xs
  | _ => none
def dIx : D → D → N D
  | x, .int i => match items x with
    | some xs => match atI xs i with
      | some d => .ok d
      | none => .stuck
    | none => .stuck
  | _, _ => .stuck
theorem dIx_tot (x y : D) : Tot (dIx x y) := by
  unfold dIx
  split
  · split
    · split
      · exact Tot.ok _
      · exact Tot.stuck
    · exact Tot.stuck
  · exact Tot.stuck
theorem RpL.atI {Z : Zt} {F : Ty} {vs : List V} {ds : List D} {i : Int} {d : D} (l : RpL Z F vs ds) (h : atI ds i = some d) : ∃ v, atI vs i = some v ∧ Rp Z F v d := by
  unfold L2.atI at h ⊢
  obtain ⟨j, h1, h2⟩ := Option.bind_eq_some_iff.mp h
  obtain ⟨v, h3, r⟩ := l.get h2
  exact ⟨v, by rw [l.length, h1]; exact h3, r⟩
theorem r2_Ix : R2D G (rIx G.Z.K) dIx := by
  intro F H x y v u Q ok rx ry q
  unfold dIx at q
  split at q
  · rename_i i
    have eu := rp_int ry
    subst eu
    cases rx with
    | tup r l =>
      simp only [items] at q
      split at q
      · rename_i d hd
        obtain ⟨w, hw, rw'⟩ := l.atI hd
        exact .inr (.inl ⟨_, _, _, w, rfl, rfl, sqT_of ok r, hw, q w F H (Ext.refl ok) rw'⟩)
      · exact q.elim
    | ktup r l =>
      simp only [items] at q
      split at q
      · rename_i d hd
        obtain ⟨w, hw, rw'⟩ := l.atI hd
        exact .inr (.inl ⟨_, _, _, w, rfl, rfl, .inr r, hw, q w F H (Ext.refl ok) rw'⟩)
      · exact q.elim
    | lst r l =>
      simp only [items] at q
      split at q
      · rename_i d hd
        obtain ⟨w, hw, rw'⟩ := l.atI hd
        exact .inl ⟨_, _, _, w, rfl, rfl, RL.sq ok r, hw, q w F H (Ext.refl ok) rw'⟩
      · exact q.elim
    | _ => exact q.elim
  · exact q.elim
theorem de_ixD (hK : G.Z.K = X.K) (ha : PE X a (eV G S na)) (hb : PE X b (eV G S nb)) (hs : PlainIx b := by exact fun _ _ => rfl) : PE X (.Subscript a b pos) (eV G S (na.bind fun x => nb.bind fun y => dIx x y)) :=
  de_ix ix_seq (by rw [← hK]; exact r2_Ix) dIx_tot ha hb hs

/-! tuple + tuple -/
def dCat : D → D → N D
  | .tup xs, .tup ys => (N.asrt (xs.length + ys.length ≤ sizeLine)).bind fun _ => .ok (.tup (xs ++ ys))
  | _, _ => .stuck
theorem dCat_tot (x y : D) : Tot (dCat x y) := by
  unfold dCat
  split
  · exact (Tot.asrt _).bind fun _ => Tot.ok _
  · exact Tot.stuck
end
end M

set_option Elab.async false
set_option linter.all false
set_option maxRecDepth 100000
set_option maxHeartbeats 2000000
namespace M
open PySem L2
section
variable {G : Gx} {X : Cx} {S : List Sl} {a b c : Expr} {na nb nc : N D} {pos : Pos}
theorem new_tup {Z : Zt} {F : Ty} {H : Hp} {vs : List V} {ds : List D} {p : Addr} (ok : Okk F H) (hp : H p = none) (l : RpL Z F vs ds) : Ext F H (updT F p (is (.tup vs))) (upd H p (.tup vs)) ∧ Rp Z (updT F p (is (.tup vs))) (.ref p) (.tup ds) := by
  have e2 := Ext.new (o := .tup vs) (p := is (.tup vs)) ok hp rfl
  exact ⟨e2, .tup updT_same (l.ex e2.ex)⟩
theorem new_lst {Z : Zt} {F : Ty} {H : Hp} {vs : List V} {ds : List D} {p : Addr} (ok : Okk F H) (hp : H p = none) (l : RpL Z F vs ds) : Ext F H (updT F p (is (.lst vs))) (upd H p (.lst vs)) ∧ Rp Z (updT F p (is (.lst vs))) (.ref p) (.lst ds) := by
  have e2 := Ext.new (o := .lst vs) (p := is (.lst vs)) ok hp rfl
  exact ⟨e2, .lst (.inl (.inl updT_same)) (l.ex e2.ex)⟩
theorem r2_Cat : R2D G (rCatA G.Z.K) dCat := by
  intro F H x y v u Q ok rx ry q
  unfold dCat at q
  split at q
  · cases rx with
    | tup r1 l1 =>
      cases ry with
      | tup r2 l2 =>
        rename_i xs ys a vs b us
        refine ⟨_, _, _, _, rfl, rfl, sqT_of ok r1, sqT_of ok r2, by rw [l1.length, l2.length]; exact q.1, fun e => ?_, fun n e => ?_, fun n n2 p hp => ?_⟩
        · subst e
          cases l1
          exact q.2 _ F H (Ext.refl ok) (.tup r2 l2)
        · subst e
          cases l2
          have := q.2 (.ref a) F H (Ext.refl ok)
          rw [List.append_nil] at this
          exact this (.tup r1 l1)
        · have e2 := Ext.new (o := .tup (vs ++ us)) (p := is (.tup (vs ++ us))) ok hp rfl
          exact q.2 _ _ _ e2 (.tup updT_same ((l1.append l2).ex e2.ex))
  · exact q.elim
theorem de_cat (hK : G.Z.K = X.K) (ha : PE X a (eV G S na)) (hb : PE X b (eV G S nb)) : PE X (.BinOp a .Add b pos) (eV G S (na.bind fun x => nb.bind fun y => dCat x y)) :=
  de_op op_catA (by rw [← hK]; exact r2_Cat) dCat_tot ha hb

/-! t[lo:hi] of a tuple -/
def cutD (xs : List D) (lo hi : Option Int) : List D := (xs.drop (HT.sIx xs.length 0 lo)).take (HT.sIx xs.length xs.length hi - HT.sIx xs.length 0 lo)
def oV (n : N (Option Int)) : TO := fun σ H Q => ∃ F, At G.Z G.B S F σ H ∧ n.wp (fun d => ∀ F' H', Ext F H F' H' → Q d H') G.Er
def toI : D → N Int
  | .int i => .ok i
  | _ => .stuck
theorem do_none : PO X none (oV (G := G) (S := S) (.ok none)) := ⟨fun pins s σ H Q I ⟨F, A, q⟩ => po_none.run pins s σ H Q I (q F H (Ext.refl A.ok))⟩
theorem do_some (ha : PE X a (eV G S na)) : PO X (some a) (oV (G := G) (S := S) (na.bind fun d => (toI d).bind fun i => .ok (some i))) := ⟨fun pins s σ H Q I ⟨F, A, q⟩ => (po_some ha).run pins s σ H Q I ⟨F, A, na.mono (fun d q1 v F1 H1 e1 r1 => by
  cases d with
  | int i => exact ⟨i, rp_int r1, q1 F1 H1 e1⟩
  | _ => exact (show False from q1).elim) (fun _ _ z => z) q⟩⟩
def dSlT (d : D) (lo hi : Option Int) : N D := match d with
  | .tup xs => .ok (.tup (cutD xs lo hi))
  | _ => .stuck
theorem cutD_whole {Z : Zt} {F : Ty} {vs : List V} {xs : List D} {lo hi : Option Int} (l : RpL Z F vs xs) (h : HT.sIx vs.length 0 lo = 0 ∧ HT.sIx vs.length vs.length hi = vs.length) : cutD xs lo hi = xs := by
  unfold cutD
  rw [← l.length, h.1, h.2, List.drop_zero, Nat.sub_zero, l.length, List.take_length]
theorem de_slT (hK : G.Z.K = X.K) {lo hi : Option Expr} {nl nh : N (Option Int)} {p2 : Pos} (ha : PE X a (eV G S na)) (hl : PO X lo (oV (G := G) (S := S) nl)) (hh : PO X hi (oV (G := G) (S := S) nh)) :
    PE X (.Subscript a (.Slice lo hi none p2) pos) (eV G S (na.bind fun d => nl.bind fun l => nh.bind fun h => dSlT d l h)) :=
  PE.imp (pe_slice sl_tupA ha hl hh) fun σ H Q ⟨F, A, q⟩ => ⟨F, A, na.mono (fun d q1 v F1 H1 e1 r1 => ⟨F1, A.go e1, nl.mono (fun lo q2 F2 H2 e2 => ⟨F2, (A.go e1).go e2, nh.mono (fun hi q3 F3 H3 e3 => by
    unfold dSlT at q3
    have ok3 := (((A.go e1).go e2).go e3).ok
    cases r1 with
    | tup r l =>
      rename_i a vs xs
      have r3 := (e2.ex.trans e3.ex) _ _ r
      have l3 := l.ex (e2.ex.trans e3.ex)
      refine ⟨_, _, rfl, by rw [← hK]; exact sqT_of ok3 r3, fun h => ?_, fun h p hp => ?_⟩
      · have e := cutD_whole l3 h
        have := q3 (.ref a) F3 H3 ((e1.trans e2).trans e3)
        rw [e] at this
        exact this (.tup r3 l3)
      · have e4 := Ext.new (o := .tup (cutV vs lo hi)) (p := is (.tup (cutV vs lo hi))) ok3 hp rfl
        refine q3 _ _ _ (((e1.trans e2).trans e3).trans e4) (.tup updT_same ?_)
        unfold cutV cutD
        rw [← l3.length]
        exact ((l3.drop _).take _).ex e4.ex
    | _ => exact (show False from q3).elim) (fun _ _ z => z) q2⟩) (fun _ _ z => z) q1⟩) (fun _ _ z => z) q⟩

/-! x in t, flat things -/
def flat : D → Bool
  | .non => true
  | .bl _ => true
  | .int _ => true
  | .str _ => true
  | _ => false
def eqF : D → D → Bool
  | .non, .non => true
  | .bl a, .bl b => a == b
  | .bl a, .int b => (if a then 1 else 0) == b
  | .int a, .bl b => a == (if b then 1 else 0)
  | .int a, .int b => a == b
  | .str a, .str b => a == b
  | _, _ => false
def dIn (neg : Bool) (x y : D) : N D := match items y with
  | some xs => (N.asrt (flat x = true ∧ xs.all flat = true)).bind fun _ => .ok (.bl (if neg then !xs.any (fun z => eqF z x) else xs.any fun z => eqF z x))
  | none => .stuck
theorem dIn_tot (neg : Bool) (x y : D) : Tot (dIn neg x y) := by
  unfold dIn
  split
  · exact (Tot.asrt _).bind fun _ => Tot.ok _
  · exact Tot.stuck
theorem flat_of {F : Ty} {v : V} {d : D} (r : Rp G.Z F v d) (h : flat d = true) : flatV v = true := by
  cases r <;> first | rfl | cases h
theorem flats_of {F : Ty} : ∀ {vs : List V} {ds : List D}, RpL G.Z F vs ds → ds.all flat = true → vs.all flatV = true
  | _, _, .nil, _ => rfl
  | _, _, .cons r l, h => by
    rw [List.all_cons, Bool.and_eq_true] at h ⊢
    exact ⟨flat_of r h.1, flats_of l h.2⟩
theorem eqF_of {F : Ty} {v u : V} {d e : D} (r : Rp G.Z F v d) (q : Rp G.Z F u e) (h : flat d = true) (h2 : flat e = true) : eqV v u = eqF d e := by
  cases r <;> first | (cases q <;> first | rfl | cases h2) | cases h
theorem anyF_of {F : Ty} {u : V} {e : D} (q : Rp G.Z F u e) (h2 : flat e = true) : ∀ {vs : List V} {ds : List D}, RpL G.Z F vs ds → ds.all flat = true → inV u vs = ds.any fun z => eqF z e
  | _, _, .nil, _ => rfl
  | _, _, .cons r l, h => by
    rw [List.all_cons, Bool.and_eq_true] at h
    unfold inV
    rw [List.any_cons, List.any_cons, eqF_of r q h.1 h2]
    congr 1
    exact anyF_of q h2 l h.2
theorem r2_In (neg : Bool) : R2D G (rIn G.Z.K neg) (dIn neg) := by
  intro F H x y v u Q ok rx ry q
  unfold dIn at q
  cases ry with
  | tup r l =>
    obtain ⟨⟨h1, h2⟩, q⟩ := q
    refine ⟨_, _, rfl, .inr (sqT_of ok r), flat_of rx h1, flats_of l h2, ?_⟩
    rw [anyF_of rx h1 l h2]
    exact q _ F H (Ext.refl ok) (.bl _)
  | ktup r l =>
    obtain ⟨⟨h1, h2⟩, q⟩ := q
    refine ⟨_, _, rfl, .inr (.inr r), flat_of rx h1, flats_of l h2, ?_⟩
    rw [anyF_of rx h1 l h2]
    exact q _ F H (Ext.refl ok) (.bl _)
  | lst r l =>
    obtain ⟨⟨h1, h2⟩, q⟩ := q
    refine ⟨_, _, rfl, .inl (RL.sq ok r), flat_of rx h1, flats_of l h2, ?_⟩
    rw [anyF_of rx h1 l h2]
    exact q _ F H (Ext.refl ok) (.bl _)
  | _ => exact q.elim
theorem de_inF (hK : G.Z.K = X.K) (ha : PE X a (eV G S na)) (hb : PE X b (eV G S nb)) (hm : behindInMarks .In b = false := by rfl) : PE X (.Compare a [.In] [b] pos) (eV G S (na.bind fun x => nb.bind fun y => dIn false x y)) :=
  de_cmp op_in_seq (by rw [← hK]; exact r2_In false) (dIn_tot false) ha hb hm
theorem de_notInF (hK : G.Z.K = X.K) (ha : PE X a (eV G S na)) (hb : PE X b (eV G S nb)) (hm : behindInMarks .NotIn b = false := by rfl) : PE X (.Compare a [.NotIn] [b] pos) (eV G S (na.bind fun x => nb.bind fun y => dIn true x y)) :=
  de_cmp op_notIn_seq (by rw [← hK]; exact r2_In true) (dIn_tot true) ha hb hm
/-- a constant of the module that is a tuple of flat things -/
theorem de_kt {x : Str} {p : Addr} {vs : List V} {ds : List D} (hm : X.mg x = some (.ref p)) (hk : KT G.Z.K p vs) (hr : ∀ F, RpL G.Z F vs ds) (hg : Gl X x := by rfl) (hd : (x == ("__debug__" : Str)) = false := by decide) : PE X (.Name x pos) (eV G S (.ok (.ktup ds))) :=
  de_c (v := .ref p) (pe_glob hg hm rfl hd) fun F => .ktup hk (hr F)

/-! built-in functions -/
theorem de_b1 {x : Str} {p : Pos} {id : String} {r : List V → Hp → VK → Prop} {o : D → N D} (hc : CallR X (.builtin id) r) (hr : RCD G r (app1 o)) (ht : ∀ x, Tot (o x)) (hm : X.mg x = none) (hv : bootBuiltins x = some (.builtin id)) (ha : PE X a (eV G S na))
    (hg : Gl X x := by rfl) (hn : x ≠ "__name__" := by decide) (hdb : (x == ("__debug__" : Str)) = false := by decide) (he : starEach (a :: []) X.env = (false, eval a X.env) :: starEach [] X.env := by rfl) (hpl : (backTo pos (starEach [] X.env)).any (·.1) = false := by rfl) :
    PE X (.Call (.Name x p) [a] [] pos) (eV G S (na.bind o)) :=
  PE.imp (pe_callB hc hg hm hv (da_cons ha da_nil he) hn hdb he hpl) fun σ H Q ⟨F, A, q⟩ => ⟨F, A, na.mono (fun d q1 vs F1 H1 e1 r1 => hr F1 H1 [d] vs Q (A.go e1).ok r1 ((o d).mono (fun z q2 w F2 H2 e2 r2 => q2 w F2 H2 (e1.trans e2) r2) (fun _ _ z => z) (ht d _ _ q1))) (fun _ _ z => z) q⟩
theorem de_t1 {x : Str} {p : Pos} {T : String} {r : List V → Hp → VK → Prop} {o : D → N D} (hc : CallR X (.type T) r) (hr : RCD G r (app1 o)) (ht : ∀ x, Tot (o x)) (hm : X.mg x = none) (hv : bootBuiltins x = some (.type T)) (ha : PE X a (eV G S na))
    (hg : Gl X x := by rfl) (hn : x ≠ "__name__" := by decide) (hdb : (x == ("__debug__" : Str)) = false := by decide) (he : starEach (a :: []) X.env = (false, eval a X.env) :: starEach [] X.env := by rfl) (hpl : (backTo pos (starEach [] X.env)).any (·.1) = false := by rfl) :
    PE X (.Call (.Name x p) [a] [] pos) (eV G S (na.bind o)) :=
  PE.imp (pe_callTy hc hg hm hv (da_cons ha da_nil he) hn hdb he hpl) fun σ H Q ⟨F, A, q⟩ => ⟨F, A, na.mono (fun d q1 vs F1 H1 e1 r1 => hr F1 H1 [d] vs Q (A.go e1).ok r1 ((o d).mono (fun z q2 w F2 H2 e2 r2 => q2 w F2 H2 (e1.trans e2) r2) (fun _ _ z => z) (ht d _ _ q1))) (fun _ _ z => z) q⟩
def dLen (d : D) : N D := match items d with
  | some xs => .ok (.int xs.length)
  | none => .stuck
theorem dLen_tot (x : D) : Tot (dLen x) := by
  unfold dLen
  split
  · exact Tot.ok _
  · exact Tot.stuck
theorem rc_len : RCD G (fun xs H Q => ∃ p ys, xs = [V.ref p] ∧ (SqL G.Z.K H p ys ∨ SqT G.Z.K H p ys) ∧ Q (.int ys.length) H) (app1 dLen) := by
  intro F H xs vs Q ok l q
  cases l with
  | nil => exact q.elim
  | cons r l2 =>
    cases l2 with
    | cons _ _ => exact q.elim
    | nil =>
      unfold app1 dLen at q
      cases r with
      | tup r l => exact ⟨_, _, rfl, .inr (sqT_of ok r), by rw [l.length]; exact q _ F H (Ext.refl ok) (.int _)⟩
      | ktup r l => exact ⟨_, _, rfl, .inr (.inr r), by rw [l.length]; exact q _ F H (Ext.refl ok) (.int _)⟩
      | lst r l => exact ⟨_, _, rfl, .inl (RL.sq ok r), by rw [l.length]; exact q _ F H (Ext.refl ok) (.int _)⟩
      | _ => exact q.elim
theorem de_len (hK : G.Z.K = X.K) {p : Pos} (hm : X.mg "len" = none) (ha : PE X a (eV G S na)) (hg : Gl X "len" := by rfl) (he : starEach (a :: []) X.env = (false, eval a X.env) :: starEach [] X.env := by rfl) (hpl : (backTo pos (starEach [] X.env)).any (·.1) = false := by rfl) :
    PE X (.Call (.Name "len" p) [a] [] pos) (eV G S (na.bind dLen)) := de_b1 call_len_seq (by rw [← hK]; exact rc_len) dLen_tot hm PySem.boot_len ha hg (by decide) (by decide) he hpl
def dTuple : D → N D
  | .tup xs => .ok (.tup xs)
  | .ktup xs => .ok (.ktup xs)
  | .lst xs => .ok (.tup xs)
  | _ => .stuck
theorem dTuple_tot (x : D) : Tot (dTuple x) := by
  unfold dTuple
  split <;> first | exact Tot.ok _ | exact Tot.stuck
theorem rc_tuple : RCD G (fun xs H Q => ∃ p ys, xs = [V.ref p] ∧ ((SqL G.Z.K H p ys ∧ ∀ l, H l = none → Q (.ref l) (upd H l (.tup ys))) ∨ (SqT G.Z.K H p ys ∧ Q (.ref p) H))) (app1 dTuple) := by
  intro F H xs vs Q ok l q
  cases l with
  | nil => exact q.elim
  | cons r l2 =>
    cases l2 with
    | cons _ _ => exact q.elim
    | nil =>
      unfold app1 dTuple at q
      cases r with
      | tup r l => exact ⟨_, _, rfl, .inr ⟨sqT_of ok r, q _ F H (Ext.refl ok) (.tup r l)⟩⟩
      | ktup r l => exact ⟨_, _, rfl, .inr ⟨.inr r, q _ F H (Ext.refl ok) (.ktup r l)⟩⟩
      | lst r l => exact ⟨_, _, rfl, .inl ⟨RL.sq ok r, fun p hp => by
          obtain ⟨e2, r2⟩ := new_tup ok hp l
          exact q _ _ _ e2 r2⟩⟩
      | _ => exact q.elim
theorem de_tuple (hK : G.Z.K = X.K) {p : Pos} (hm : X.mg "tuple" = none) (ha : PE X a (eV G S na)) (hg : Gl X "tuple" := by rfl) (he : starEach (a :: []) X.env = (false, eval a X.env) :: starEach [] X.env := by rfl) (hpl : (backTo pos (starEach [] X.env)).any (·.1) = false := by rfl) :
    PE X (.Call (.Name "tuple" p) [a] [] pos) (eV G S (na.bind dTuple)) := de_t1 call_tuple_of (by rw [← hK]; exact rc_tuple) dTuple_tot hm (by decide +kernel) ha hg (by decide) (by decide) he hpl
def dList (d : D) : N D := match items d with
  | some xs => .ok (.lst xs)
  | none => .stuck
theorem dList_tot (x : D) : Tot (dList x) := by
  unfold dList
  split <;> first | exact Tot.ok _ | exact Tot.stuck
theorem rc_list : RCD G (fun xs H Q => ∃ p ys, xs = [V.ref p] ∧ (SqL G.Z.K H p ys ∨ SqT G.Z.K H p ys) ∧ ∀ l, H l = none → Q (.ref l) (upd H l (.lst ys))) (app1 dList) := by
  intro F H xs vs Q ok l q
  cases l with
  | nil => exact q.elim
  | cons r l2 =>
    cases l2 with
    | cons _ _ => exact q.elim
    | nil =>
      unfold app1 dList at q
      cases r with
      | tup r l => exact ⟨_, _, rfl, .inr (sqT_of ok r), fun p hp => by
          obtain ⟨e2, r2⟩ := new_lst ok hp l
          exact q _ _ _ e2 r2⟩
      | ktup r l => exact ⟨_, _, rfl, .inr (.inr r), fun p hp => by
          obtain ⟨e2, r2⟩ := new_lst ok hp l
          exact q _ _ _ e2 r2⟩
      | lst r l => exact ⟨_, _, rfl, .inl (RL.sq ok r), fun p hp => by
          obtain ⟨e2, r2⟩ := new_lst ok hp l
          exact q _ _ _ e2 r2⟩
      | _ => exact q.elim
theorem de_list (hK : G.Z.K = X.K) {p : Pos} (hm : X.mg "list" = none) (ha : PE X a (eV G S na)) (hg : Gl X "list" := by rfl) (he : starEach (a :: []) X.env = (false, eval a X.env) :: starEach [] X.env := by rfl) (hpl : (backTo pos (starEach [] X.env)).any (·.1) = false := by rfl) :
    PE X (.Call (.Name "list" p) [a] [] pos) (eV G S (na.bind dList)) := de_t1 call_list_of (by rw [← hK]; exact rc_list) dList_tot hm (by decide +kernel) ha hg (by decide) (by decide) he hpl

/-! isinstance -/
/-- the built-in type's name of a datum (own objects: none) -/
def tyN : D → Option String
  | .non => some "NoneType"
  | .bl _ => some "bool"
  | .int _ => some "int"
  | .str _ => some "str"
  | .tup _ => some "tuple"
  | .ktup _ => some "tuple"
  | .lst _ => some "list"
  | .dkk _ _ => some "dict"
  | .dtt _ _ => some "dict"
  | _ => none
def dIsi (T : String) (d : D) : N D := match tyN d with
  | some t => match kitB t T with
    | some b => .ok (.bl b)
    | none => .stuck
  | none => .stuck
theorem tyX_of {F : Ty} {H : Hp} {v : V} {d : D} {t : String} (ok : Okk F H) (r : Rp G.Z F v d) (h : tyN d = some t) : TyX G.Z.K H v (.type t) := by
  cases r with
  | non => cases h; exact .base .non
  | bl b => cases h; exact .base (.bl b)
  | int b => cases h; exact .base (.int b)
  | str b => cases h; exact .base (.str b)
  | tup r l => cases h; exact .base (.tup (tup_of ok r))
  | ktup r l =>
    cases h
    obtain ⟨o, its, n, h1, h2, _⟩ := r
    exact .kTuple h1 h2
  | lst r l =>
    cases h
    rcases r with (r | ⟨ob, r⟩) | ⟨o, its, n, h1, h2, _⟩
    · exact .base (.lst (tup_of ok r))
    · exact .base (.frz (tup_of ok r))
    · exact .kList h1 h2
  | obj _ _ _ => cases h
  | dl _ => cases h
  | dkk r _ _ => cases h; exact .base (.dK (tup_of ok r))
  | dtt r _ _ => cases h; exact .base (.dT (tup_of ok r))
theorem de_isi (hK : G.Z.K = X.K) {T : Str} {Ts : String} {p pT : Pos} (hm : X.mg "isinstance" = none) (hmT : X.mg T = none) (hvT : bootBuiltins T = some (.type Ts)) (ha : PE X a (eV G S na)) (hg : Gl X "isinstance" := by rfl) (hgT : Gl X T := by rfl) (hnT : T ≠ "__name__" := by decide) (hdT : (T == ("__debug__" : Str)) = false := by decide)
    (he : starEach (a :: .Name T pT :: []) X.env = (false, eval a X.env) :: starEach [.Name T pT] X.env := by rfl) (he2 : starEach (.Name T pT :: []) X.env = (false, eval (.Name T pT) X.env) :: starEach [] X.env := by rfl) (hpl : (backTo pos (starEach [.Name T pT] X.env)).any (·.1) = false := by rfl) :
    PE X (.Call (.Name "isinstance" p) [a, .Name T pT] [] pos) (eV G S (na.bind (dIsi Ts))) :=
  PE.imp (pe_callB call_isi hg hm (by decide +kernel) (pa_cons ha (pa_cons (pe_bltn (v := .ty Ts) hgT hmT hvT rfl hnT hdT) pa_nil he2) he) (by decide) (by decide) he hpl) fun σ H Q ⟨F, A, q⟩ => ⟨F, A, na.mono (fun d q1 v F1 H1 e1 r1 => by
    unfold dIsi at q1
    cases ht : tyN d with
    | none => rw [ht] at q1; exact (show False from q1).elim
    | some t =>
      rw [ht] at q1
      cases hb : kitB t Ts with
      | none => simp only [hb] at q1; exact (show False from q1).elim
      | some b =>
        simp only [hb] at q1
        exact ⟨v, .ty Ts, .type t, .type Ts, b, rfl, .ty Ts, by rw [← hK]; exact tyX_of (A.go e1).ok r1 ht, kit_ty hb, q1 _ F1 H1 e1 (.bl b)⟩) (fun _ _ z => z) q⟩
/-- isinstance(x, (T, U)) -/
def dIsi2 (T U : String) (d : D) : N D := match tyN d with
  | some t => match kitB t T, kitB t U with
    | some b, some c => .ok (.bl (b || c))
    | _, _ => .stuck
  | none => .stuck
theorem de_isi2 (hK : G.Z.K = X.K) {T U : Str} {Ts Us : String} {p pT pU pt : Pos} {x1} (hm : X.mg "isinstance" = none) (hmT : X.mg T = none) (hvT : bootBuiltins T = some (.type Ts)) (hmU : X.mg U = none) (hvU : bootBuiltins U = some (.type Us)) (ha : PE X a (eV G S na))
    (hg : Gl X "isinstance" := by rfl) (hgT : Gl X T := by rfl) (hnT : T ≠ "__name__" := by decide) (hdT : (T == ("__debug__" : Str)) = false := by decide) (hgU : Gl X U := by rfl) (hnU : U ≠ "__name__" := by decide) (hdU : (U == ("__debug__" : Str)) = false := by decide)
    (he : starEach (a :: .Tuple [.Name T pT, .Name U pU] x1 pt :: []) X.env = (false, eval a X.env) :: starEach [.Tuple [.Name T pT, .Name U pU] x1 pt] X.env := by rfl)
    (he2 : starEach (.Tuple [.Name T pT, .Name U pU] x1 pt :: []) X.env = (false, eval (.Tuple [.Name T pT, .Name U pU] x1 pt) X.env) :: starEach [] X.env := by rfl) (hpl : (backTo pos (starEach [.Tuple [.Name T pT, .Name U pU] x1 pt] X.env)).any (·.1) = false := by rfl)
    (he3 : starEach (.Name T pT :: .Name U pU :: []) X.env = (false, eval (.Name T pT) X.env) :: starEach [.Name U pU] X.env := by rfl) (he4 : starEach (.Name U pU :: []) X.env = (false, eval (.Name U pU) X.env) :: starEach [] X.env := by rfl) :
    PE X (.Call (.Name "isinstance" p) [a, .Tuple [.Name T pT, .Name U pU] x1 pt] [] pos) (eV G S (na.bind (dIsi2 Ts Us))) :=
  PE.imp (pe_callB call_isiT hg hm (by decide +kernel) (pa_cons ha (pa_cons (pe_tup (pa_cons (pe_bltn (v := .ty Ts) hgT hmT hvT rfl hnT hdT) (pa_cons (pe_bltn (v := .ty Us) hgU hmU hvU rfl hnU hdU) pa_nil he4) he3)) pa_nil he2) he) (by decide) (by decide) he hpl) fun σ H Q ⟨F, A, q⟩ => ⟨F, A, na.mono (fun d q1 v F1 H1 e1 r1 => by
    unfold dIsi2 at q1
    cases ht : tyN d with
    | none => rw [ht] at q1; exact (show False from q1).elim
    | some t =>
      rw [ht] at q1
      cases hb : kitB t Ts with
      | none => simp only [hb] at q1; exact (show False from q1).elim
      | some b =>
        cases hc : kitB t Us with
        | none => simp only [hb, hc] at q1; exact (show False from q1).elim
        | some c =>
          simp only [hb, hc] at q1
          refine ⟨by show 2 ≤ sizeLine; decide, fun p hp => ?_⟩
          have ok1 := (A.go e1).ok
          have e2 := Ext.own (o := .tup [.ty Ts, .ty Us]) ok1 hp
          refine ⟨v, p, [.ty Ts, .ty Us], .type t, [.type Ts, .type Us], b || c, rfl, upd_same, .cons (.ty Ts) (.cons (.ty Us) .nil), by rw [← hK]; exact tyX_of e2.ok (r1.ex e2.ex) ht, ?_, q1 _ F1 _ (e1.trans e2) (.bl _)⟩
          cases b with
          | true => exact kitAny_cons (b := true) (kit_ty hb) (fun h => by cases h) (fun _ => rfl)
          | false =>
            refine kitAny_cons (b := false) (kit_ty hb) (fun _ => ?_) (fun h => by cases h)
            cases c with
            | true => exact kitAny_cons (b := true) (kit_ty hc) (fun h => by cases h) (fun _ => rfl)
            | false => exact kitAny_cons (b := false) (kit_ty hc) (fun _ => kitAny_nil) (fun h => by cases h)) (fun _ _ z => z) q⟩
end
end M

set_option Elab.async false
set_option linter.all false
set_option maxRecDepth 100000
set_option maxHeartbeats 2000000
namespace M
open PySem L2
/-! ### loops -/
def N.loop {α τ β : Type} (body : α → τ → N (Fl τ τ)) : List α → τ → N (Fl τ β)
  | [], t => .ok (.nx t)
  | x :: xs, t => (body x t).bind fun f => match f with
    | .nx t' => N.loop body xs t'
    | .ct t' => N.loop body xs t'
    | .bk t' => .ok (.nx t')
    | .rt d => .ok (.rt d)
def seqOf (d : D) : N (List D) := match items d with
  | some xs => .ok xs
  | none => .stuck
section
variable {X : Cx} {tg : Expr}
/-- a list or a tuple, walked -/
def iSeq (K : PySem.W.Frag) (tl : TE) : TI := fun σ H R => tl σ H fun x H1 => ∃ a, x = .ref a ∧ (((∃ xs, SqL K H1 a xs) ∧ R (Itl K a) H1) ∨ ((∃ xs, SqT K H1 a xs) ∧ R (Itt K a) H1))
theorem pi_seq {l : Expr} {tl : TE} (hl : PE X l tl) : PI X tg l (iSeq X.K tl) := by
  refine ⟨fun pins s σ H R I h => ?_⟩
  refine thn (hl.run pins s σ H _ I h) fun v s1 ⟨x, H1, I1, r1, q1⟩ => ?_
  obtain ⟨a, e, q⟩ := q1
  subst e
  cases r1
  have fpn : ∀ b ∈ [s1.heap.objs.size], FpOk X pins H1 b := fun b hb => by
    have e : b = s1.heap.objs.size := by simpa using hb
    subst e
    exact I1.fpOk (Nat.le_refl _) (I1.hok.fresh (Nat.le_refl _))
  rcases q with ⟨⟨xs, hq⟩, q⟩ | ⟨⟨xs, hq⟩, q⟩
  · obtain ⟨its, rv, p, hz⟩ := I1.list hq
    refine wpAny_pyIter_list p.isList ?_
    exact ⟨s1.heap.objs.size, [s1.heap.objs.size], _, _, H1, rfl, I1.kept (t' := s1.toks) fun b o e => Heap.get?_push_of_some _ e, turn_list a _, ⟨_, Heap.get?_push_size _ rfl, rfl, rfl⟩, fpn, q⟩
  · obtain ⟨its, rv, p, hz⟩ := I1.tuple hq
    refine wpAny_pyIter_tuple (show s1.heap.IsTuple a its.toArray from p) ?_
    exact ⟨s1.heap.objs.size, [s1.heap.objs.size], _, _, H1, rfl, I1.kept (t' := s1.toks) fun b o e => Heap.get?_push_of_some _ e, turn_tuple a _, ⟨_, Heap.get?_push_size _ rfl, rfl, rfl⟩, fpn, q⟩
end
section
variable {X : Cx} {G : Gx} {S : List Sl} {τ β : Type} {sl : τ → List Sl} {sb : β → List Sl} {a b c e : Expr} {na nb : N D} {pos : Pos} {body : List Stmt}
/-- the word of a loop over items: what is left of the loop, run on from here, leads to what is wanted -/
def LW {α : Type} (G : Gx) (F0 : Ty) (sl : τ → List Sl) (sb : β → List Sl) (E : Ends) (bn : α → τ → N (Fl τ τ)) (xs : List α) : St → Hp → Prop :=
  fun σ H => ∃ t F, Ex F0 F ∧ At G.Z G.B (sl t) F σ H ∧ (N.loop (β := β) bn xs t).wp (flP G F0 sl sb E) G.Er
/-- one turn: the body's derivation, from the slots with the item in them -/
theorem loop_turn {α : Type} {F0 : Ty} {E : Ends} {bn : α → τ → N (Fl τ τ)} {x : α} {xs : List α} {t : τ} {F : Ty} {σ : St} {H : Hp} {S' : List Sl} (e0 : Ex F0 F) (A : At G.Z G.B S' F σ H)
    (q : (N.loop (β := β) bn (x :: xs) t).wp (flP G F0 sl sb E) G.Er) : sV G S' sl sl (bn x t) { nx := LW G F0 sl sb E bn xs, ct := LW G F0 sl sb E bn xs, bk := E.nx, rt := E.rt } σ H := by
  refine ⟨F, A, (bn x t).mono (fun f q1 => ?_) (fun _ _ z => z) q⟩
  cases f with
  | nx t' => exact fun F' σ' H' e A' => ⟨t', F', e0.trans e, A', q1⟩
  | ct t' => exact fun F' σ' H' e A' => ⟨t', F', e0.trans e, A', q1⟩
  | bk t' => exact fun F' σ' H' e A' => q1 F' σ' H' (e0.trans e) A'
  | rt d => exact q1
/-- for x in e (a list or a tuple); j the slot of x -/
theorem ds_for {j : Nat} {x : Str} {px : Pos} (t0 : τ) {bn : D → τ → N (Fl τ τ)} (hp : PassesOwn (model X.prog X.w) X.A X.env X.xe) (hc : X.calm = true) (hK : G.Z.K = X.K) (hN : X.N.Nodup) (ha : PE X a (eV G S na)) (h0 : Wk S (sl t0))
    (hb : ∀ y t, PSs X body (sV G ((sl t).set j (.dat y)) sl sl (bn y t))) (hi : X.N[j]? = some x := by rfl) (hx : Loc X.env.scope x := by first | exact Or.inl rfl | exact Or.inr rfl)
    (hf : X.fn x = true ∨ X.env.scope.names.lookup x = some .local := by first | exact .inl rfl | exact .inr rfl) (hs : ∀ v, foldedSetIterable a X.env v = pure v := by intro _; rfl) :
    PS X (.For (.Name x px) a body [] pos) (sV G S sl sb (na.bind fun d => (seqOf d).bind fun xs => N.loop bn xs t0)) := by
  refine PS.imp (ps_for hp hc (pi_seq ha) (pg_name (i := j) hN hi hx hf) (PSs.ex fun p : D × τ => hb p.1 p.2) hs) fun E σ H ⟨F, A, q⟩ => ?_
  refine ⟨F, A, na.mono (fun d q1 v F1 H1 e1 r1 => ?_) (fun _ _ z => z) q⟩
  have A1 := A.go e1
  have start : ∀ (xs : List D), (N.loop (β := β) bn xs t0).wp (flP G F sl sb E) G.Er → LW G F1 sl sb E bn xs σ H1 := fun xs h => ⟨t0, F1, Ex.refl F1, A1.weak h0, (N.loop bn xs t0).mono (fun f z => flP.ex G e1.ex z) (fun _ _ z => z) h⟩
  have turn : ∀ (xs : List D) (vs : List V), RpL G.Z F1 vs xs → ∀ (i : Nat) (y : V) (σ' : St) (H' : Hp), vs[i]? = some y → LW G F1 sl sb E bn (xs.drop i) σ' H' →
      gName j y σ' H' fun σ2 H2 => (∃ p : D × τ, sV G ((sl p.2).set j (.dat p.1)) sl sl (bn p.1 p.2) { nx := LW G F1 sl sb E bn (xs.drop (i + 1)), ct := LW G F1 sl sb E bn (xs.drop (i + 1)), bk := E.nx, rt := E.rt } σ2 H2) := fun xs vs l i y σ' H' hy ⟨t, F', e', A', q'⟩ => by
    obtain ⟨d, hd, r⟩ := l.getV hy
    have hdr : xs.drop i = d :: xs.drop (i + 1) := by
      obtain ⟨hlt, he⟩ := List.getElem?_eq_some_iff.mp hd
      rw [List.drop_eq_getElem_cons hlt, he]
    rw [hdr] at q'
    exact ⟨(d, t), loop_turn e' (A'.set (r.ex e')) q'⟩
  have fin : ∀ (xs : List D) (vs : List V), RpL G.Z F1 vs xs → ∀ σ' H', LW G F1 sl sb E bn (xs.drop vs.length) σ' H' → E.nx σ' H' := fun xs vs l σ' H' ⟨t, F', e', A', q'⟩ => by
    rw [l.length, List.drop_length] at q'
    exact q' F' σ' H' e' A'
  cases r1 with
  | tup r l =>
    rename_i a vs xs
    refine ⟨a, rfl, .inr ⟨⟨vs, by rw [← hK]; exact sqT_of A1.ok r⟩, ?_⟩⟩
    rw [← hK]
    exact for_tup (K := G.Z.K) (xs := vs) (g := gName j) (tb := fun E σ H => ∃ p : D × τ, sV G ((sl p.2).set j (.dat p.1)) sl sl (bn p.1 p.2) E σ H) (fun i => LW G F1 sl sb E bn (xs.drop i)) (start _ q1) (fun i σ' H' _ ⟨t, F', e', A', _⟩ => sqT_of A'.ok (e' _ _ r)) (turn xs vs l) (fin xs vs l)
  | ktup r l =>
    rename_i a vs xs
    refine ⟨a, rfl, .inr ⟨⟨vs, by rw [← hK]; exact .inr r⟩, ?_⟩⟩
    rw [← hK]
    exact for_tup (K := G.Z.K) (xs := vs) (g := gName j) (tb := fun E σ H => ∃ p : D × τ, sV G ((sl p.2).set j (.dat p.1)) sl sl (bn p.1 p.2) E σ H) (fun i => LW G F1 sl sb E bn (xs.drop i)) (start _ q1) (fun i σ' H' _ _ => .inr r) (turn xs vs l) (fin xs vs l)
  | lst r l =>
    rename_i a vs xs
    refine ⟨a, rfl, .inl ⟨⟨vs, by rw [← hK]; exact RL.sq A1.ok r⟩, ?_⟩⟩
    rw [← hK]
    exact for_list (K := G.Z.K) (xs := vs) (g := gName j) (tb := fun E σ H => ∃ p : D × τ, sV G ((sl p.2).set j (.dat p.1)) sl sl (bn p.1 p.2) E σ H) (fun i => LW G F1 sl sb E bn (xs.drop i)) (start _ q1) (fun i σ' H' _ ⟨t, F', e', A', _⟩ => RL.sq A'.ok (r.ex e')) (turn xs vs l) (fin xs vs l)
  | _ => exact (show False from q1).elim
/-- for i in range(n) -/
def N.upTo (d : D) : N (List Int) := match d with
  | .int n => (N.asrt (n < 2 ^ 62 ∧ -(2 ^ 62) ≤ n)).bind fun _ => .ok ((List.range n.toNat).map fun i => ((i : Nat) : Int))
  | _ => .stuck
theorem ds_forR {j : Nat} {x : Str} {px pr pc : Pos} (t0 : τ) {bn : Int → τ → N (Fl τ τ)} (hp : PassesOwn (model X.prog X.w) X.A X.env X.xe) (hc : X.calm = true) (hm : X.mg "range" = none) (hN : X.N.Nodup) (ha : PE X a (eV G S na)) (h0 : Wk S (sl t0))
    (hb : ∀ y t, PSs X body (sV G ((sl t).set j (.dat (.int y))) sl sl (bn y t))) (hg : Gl X "range" := by rfl) (hi : X.N[j]? = some x := by rfl) (hx : Loc X.env.scope x := by first | exact Or.inl rfl | exact Or.inr rfl)
    (hf : X.fn x = true ∨ X.env.scope.names.lookup x = some .local := by first | exact .inl rfl | exact .inr rfl) (hs : ∀ v, foldedSetIterable (.Call (.Name "range" pr) [a] [] pc) X.env v = pure v := by intro _; rfl)
    (he : starEach [a] X.env = [(false, eval a X.env)] := by rfl) :
    PS X (.For (.Name x px) (.Call (.Name "range" pr) [a] [] pc) body [] pos) (sV G S sl sb (na.bind fun d => (N.upTo d).bind fun xs => N.loop bn xs t0)) := by
  refine PS.imp (ps_for hp hc (pi_range1 hg hm (da_cons ha da_nil he) he) (pg_name (i := j) hN hi hx hf) (PSs.ex fun p : Int × τ => hb p.1 p.2) hs) fun E σ H ⟨F, A, q⟩ => ?_
  refine ⟨F, A, na.mono (fun d q1 vs F1 H1 e1 r1 => ?_) (fun _ _ z => z) q⟩
  have A1 := A.go e1
  cases d with
  | int n =>
    obtain ⟨⟨h1, h2⟩, q1⟩ := q1
    cases r1 with
    | cons r rl =>
      cases rl
      rw [rp_int r]
      refine ⟨n, rfl, by omega, by omega, for_range (lo := 0) (n := n.toNat) (g := gName j) (D := E) (tb := fun E σ H => ∃ p : Int × τ, sV G ((sl p.2).set j (.dat (.int p.1))) sl sl (bn p.1 p.2) E σ H) (fun i => LW G F1 sl sb E bn (((List.range n.toNat).map fun i => ((i : Nat) : Int)).drop i)) ⟨t0, F1, Ex.refl F1, A1.weak h0, (N.loop bn _ t0).mono (fun f z => flP.ex G e1.ex z) (fun _ _ z => z) q1⟩ ?_ ?_⟩
      · rintro i σ' H' hlt ⟨t, F', e', A', q'⟩
        have hdr : ((List.range n.toNat).map fun i => ((i : Nat) : Int)).drop i = (i : Int) :: ((List.range n.toNat).map fun i => ((i : Nat) : Int)).drop (i + 1) := by
          rw [List.drop_eq_getElem_cons (by rw [List.length_map, List.length_range]; exact hlt)]
          simp
        rw [hdr] at q'
        have e0 : (0 : Int) + (i : Int) = (i : Int) := Int.zero_add _
        rw [e0]
        exact ⟨((i : Int), t), loop_turn e' (A'.set (.int _)) q'⟩
      · rintro σ' H' ⟨t, F', e', A', q'⟩
        have hdr : ((List.range n.toNat).map fun i => ((i : Nat) : Int)).drop n.toNat = [] := by
          apply List.drop_eq_nil_of_le
          rw [List.length_map, List.length_range]
          exact Nat.le_refl _
        rw [hdr] at q'
        exact q' F' σ' H' e' A'
  | _ => exact (show False from q1).elim
end

/-! ### comprehensions -/
/-- without errors -/
def N.ne {α : Type} (n : N α) : N α := ⟨fun k _ => n.wp k (fun _ _ => False), fun h _ q => n.mono h (fun _ _ z => z) q⟩
def N.comp {α : Type} (t : α → N Bool) (f : α → N D) : List α → N (List D)
  | [] => .ok []
  | x :: xs => (N.ne (t x)).bind fun b => if b = true then (N.ne (f x)).bind fun y => (N.comp t f xs).bind fun ys => .ok (y :: ys) else N.comp t f xs
theorem PE.ex {X : Cx} {e : Expr} {ι : Type} {u : ι → TE} (h : ∀ t, PE X e (u t)) : PE X e (fun σ H Q => ∃ t, u t σ H Q) := ⟨fun pins s σ H Q I ⟨t, q⟩ => (h t).run pins s σ H Q I q⟩
theorem PTs.ex {X : Cx} {e : List Expr} {ι : Type} {u : ι → TT} (h : ∀ t, PTs X e (u t)) : PTs X e (fun σ H Q => ∃ t, u t σ H Q) := ⟨fun pins s σ H Q I ⟨t, q⟩ => (h t).run pins s σ H Q I q⟩
/-- within a comprehension: no error is let out -/
def Gx.in (G : Gx) (n : Nat) : Gx := { G with W := fun _ _ _ _ => False, Se := List.replicate n .un }
def wipeS (S : List Sl) : List Nat → List Sl
  | [] => S
  | v :: vs => (wipeS S vs).set v .un
theorem At.wipe {Z : Zt} {B : Bs} {S : List Sl} {F : Ty} {σ : St} {H : Hp} (h : At Z B S F σ H) : ∀ vs : List Nat, At Z B (wipeS S vs) F (L2.wipe σ vs) H
  | [] => h
  | v :: vs => (At.wipe h vs).unset
theorem Gx.in_er {G : Gx} {n : Nat} (c : Nat) (x : D) : False → (G.in n).Er c x := fun h => h.elim
def KQ (G : Gx) (F : Ty) (H : Hp) (Q : VK) : List D → Prop := fun ds => ∀ v F' H', Ext F H F' H' → Rp G.Z F' v (.lst ds) → Q v H'
def TT1 (G : Gx) (n : Nat) (S : List Sl) (j : Nat) (tn : D → N Bool) : TT := fun σ H Q => ∃ y : D, tV (G.in n) ((S.set j .un).set j (.dat y)) (tn y) σ H Q
def TE1 (G : Gx) (n : Nat) (S : List Sl) (j : Nat) (fn : D → N D) : TE := fun σ H Q => ∃ y : D, eV (G.in n) ((S.set j .un).set j (.dat y)) (fn y) σ H Q
/-- the word of a comprehension's loop: what is made so far, and what is left leads to what is wanted -/
def CW {α : Type} (G : Gx) (F1 : Ty) (H1 : Hp) (Dl : Addr) (tn : α → N Bool) (fn : α → N D) (K : List D → Prop) (Er : Nat → D → Prop) (len : Nat) (i : Nat) (xs : List α) : Hp → Prop := fun H => ∃ F av ad, Ext F1 H1 F H ∧ F Dl = none ∧ H Dl = some (.lst av) ∧ RpL G.Z F av ad ∧
  ad.length ≤ i ∧ (N.comp tn fn xs).wp (fun ys => K (ad ++ ys)) Er
section
variable {X : Cx} {G : Gx} {S : List Sl} {a : Expr} {na : N D} {pos : Pos} {elt tg : Expr} {ifs : List Expr} {scope : Scope} {own : List (Str × Nat)}
theorem ext_put {F1 F : Ty} {H1 H : Hp} {Dl : Addr} {o : HO} (e : Ext F1 H1 F H) (n : H1 Dl = none) (hF : F Dl = none) {av : List V} (hA : H Dl = some (.lst av)) : Ext F1 H1 F (upd H Dl o) := by
  refine ⟨e.ex, e.ok.put hF hA (fun _ _ z => by unfold LamX.CodeO at z; cases z), fun b u q nb pl => ?_⟩
  · have z : b ≠ Dl := fun z => by subst z; rw [n] at q; cases q
    rw [upd_ne z]; exact e.kp b u q nb pl
theorem ext_lst {F F2 : Ty} {H H2 : Hp} {Dl : Addr} {av : List V} (e : Ext F H F2 H2) (hF : F Dl = none) (hA : H Dl = some (.lst av)) : F2 Dl = none ∧ H2 Dl = some (.lst av) := by
  obtain ⟨h, n⟩ := e.kp _ _ hA hF (fun _ z => by cases z)
  rcases n with n | ⟨_, xs, z⟩
  · exact ⟨n, h⟩
  · cases z
/-- one turn -/
theorem comp_turn {α : Type} {tn : α → N Bool} {fn : α → N D} {n len i : Nat} {S' : List Sl} {F1 F : Ty} {H1 H : Hp} {Dl : Addr} {av : List V} {ad : List D} {x : α} {xs : List α} {σ2 : St} {K : List D → Prop} {Er : Nat → D → Prop} {tt : TT} {te : TE}
    (hn : H1 Dl = none) (e1 : Ext F1 H1 F H) (hF : F Dl = none) (hA : H Dl = some (.lst av)) (r : RpL G.Z F av ad) (hl : ad.length ≤ i) (hi : i < len) (hz : len ≤ sizeLine) (A : At G.Z G.B S' F σ2 H)
    (q : (N.comp tn fn (x :: xs)).wp (fun ys => K (ad ++ ys)) Er) (ht : ∀ H Q, tV (G.in n) S' (tn x) σ2 H Q → tt σ2 H Q) (he : ∀ H Q, eV (G.in n) S' (fn x) σ2 H Q → te σ2 H Q) :
    tt σ2 H fun b H3 => if b = true then te σ2 H3 fun y H4 => ∃ acc, H4 Dl = some (.lst acc) ∧ acc.length < sizeLine ∧ CW G F1 H1 Dl tn fn K Er len (i + 1) xs (upd H4 Dl (.lst (acc ++ [y]))) else CW G F1 H1 Dl tn fn K Er len (i + 1) xs H3 := by
  refine ht H _ ⟨F, A, (tn x).mono (fun b q1 F3 H3 e3 => ?_) (fun _ _ z => z.elim) q⟩
  obtain ⟨hF3, hA3⟩ := ext_lst e3 hF hA
  cases b with
  | false =>
    show CW G F1 H1 Dl tn fn K Er len (i + 1) xs H3
    exact ⟨F3, av, ad, e1.trans e3, hF3, hA3, r.ex e3.ex, by omega, q1⟩
  | true =>
    show te σ2 H3 _
    refine he H3 _ ⟨F3, A.go e3, (fn x).mono (fun d q2 y F4 H4 e4 r4 => ?_) (fun _ _ z => z.elim) q1⟩
    obtain ⟨hF4, hA4⟩ := ext_lst e4 hF3 hA3
    refine ⟨av, hA4, by rw [r.length]; omega, F4, av ++ [y], ad ++ [d], ext_put ((e1.trans e3).trans e4) hn hF4 hA4, hF4, upd_same, (r.ex (e3.ex.trans e4.ex)).append (.cons r4 .nil), by rw [List.length_append, List.length_singleton]; omega, ?_⟩
    exact (N.comp tn fn xs).mono (fun ys z => by rw [List.append_assoc]; exact z) (fun _ _ z => z) q2
theorem comp_end {α : Type} {tn : α → N Bool} {fn : α → N D} {len i : Nat} {F1 : Ty} {H1 H : Hp} {Dl : Addr} {Er : Nat → D → Prop} {Q : VK} {F0 : Ty} {H0 : Hp} (e0 : Ext F0 H0 F1 H1) (hn : H1 Dl = none)
    (h : CW G F1 H1 Dl tn fn (KQ G F0 H0 Q) Er len i [] H) : Q (.ref Dl) H := by
  obtain ⟨F, av, ad, e1, hF, hA, r, hl, q⟩ := h
  have q' : ∀ v F' H', Ext F0 H0 F' H' → Rp G.Z F' v (.lst (ad ++ [])) → Q v H' := q
  rw [List.append_nil] at q'
  have ex' : Ex F (updT F Dl (is (.lst av))) := fun b p z => by
    by_cases hb : b = Dl
    · subst hb; rw [hF] at z; cases z
    · rw [updT_ne hb]; exact z
  have e2 : Ext F1 H1 (updT F Dl (is (.lst av))) H := by
    refine ⟨e1.ex.trans ex', e1.ok.learn hF hA ⟨fun _ z => (by cases z), fun _ _ z => (by unfold LamX.CodeO at z; cases z)⟩, fun b u z nb pl => ?_⟩
    · have hb : b ≠ Dl := fun y => by subst y; rw [hn] at z; cases z
      rw [updT_ne hb]; exact e1.kp b u z nb pl
  exact q' _ _ _ (e0.trans e2) (.lst (.inl (.inl updT_same)) (r.ex ex'))
theorem wipe1 (σ : St) (j : Nat) (v : V) : L2.wipe ((L2.wipe σ [j]).set j (some v)) [j] = L2.wipe σ [j] := by
  show ((σ.set j none).set j (some v)).set j none = σ.set j none
  rw [List.set_set, List.set_set]
def N.fits {α : Type} (xs : List α) : N Unit := N.asrt (xs.length ≤ sizeLine)
theorem lc_run {K : PySem.W.Frag} {j : Nat} {tn : D → N Bool} {fn : D → N D} {n : Nat} (hK : G.Z.K = K) {σ : St} {H : Hp} {Q : VK} (h : eV G S (na.bind fun d => (seqOf d).bind fun xs => (N.fits xs).bind fun _ => (N.comp tn fn xs).bind fun ys => .ok (.lst ys)) σ H Q) :
    tLc (iSeq K (eV G S na)) (gName j) (TT1 G n S j tn) (TE1 G n S j fn) [j] σ H Q := by
  obtain ⟨F, A, q⟩ := h
  refine ⟨F, A, na.mono (fun d q1 v F1 H1 e1 r1 => ?_) (fun _ _ z => z) q⟩
  have A1 := A.go e1
  have start : ∀ (xs : List D), (N.comp tn fn xs).wp (KQ G F H Q) G.Er → ∀ Dl, H1 Dl = none → CW G F1 H1 Dl tn fn (KQ G F H Q) G.Er xs.length 0 (xs.drop 0) (upd H1 Dl (.lst [])) := fun xs h Dl hD =>
    ⟨F1, [], [], Ext.own A1.ok hD, A1.ok.none hD, upd_same, .nil, Nat.zero_le _, h⟩
  have turn : ∀ (xs : List D) (vs : List V), RpL G.Z F1 vs xs → xs.length ≤ sizeLine → ∀ Dl, H1 Dl = none → ∀ (i : Nat) (y : V) (H' : Hp), vs[i]? = some y → CW G F1 H1 Dl tn fn (KQ G F H Q) G.Er xs.length i (xs.drop i) H' →
      gName j y (L2.wipe σ [j]) H' fun σ2 H2 => L2.wipe σ2 [j] = L2.wipe σ [j] ∧ TT1 G n S j tn σ2 H2 fun b H3 => if b = true then TE1 G n S j fn σ2 H3 fun y H4 => ∃ acc, H4 Dl = some (.lst acc) ∧ acc.length < sizeLine ∧ CW G F1 H1 Dl tn fn (KQ G F H Q) G.Er xs.length (i + 1) (xs.drop (i + 1)) (upd H4 Dl (.lst (acc ++ [y]))) else CW G F1 H1 Dl tn fn (KQ G F H Q) G.Er xs.length (i + 1) (xs.drop (i + 1)) H3 := fun xs vs l hz Dl hD i y H' hy ⟨F', av, ad, e', hF', hA', r', hl', q'⟩ => by
    obtain ⟨d, hd, r⟩ := l.getV hy
    obtain ⟨hlt, hde⟩ := List.getElem?_eq_some_iff.mp hd
    have hdr : xs.drop i = d :: xs.drop (i + 1) := by rw [List.drop_eq_getElem_cons hlt, hde]
    rw [hdr] at q'
    refine ⟨wipe1 σ j y, ?_⟩
    exact comp_turn (n := n) (K := KQ G F H Q) (tt := TT1 G n S j tn) (te := TE1 G n S j fn) (S' := (S.set j .un).set j (.dat d)) hD e' hF' hA' r' hl' hlt hz (((A1.go e').wipe [j]).set (r.ex e'.ex)) q' (fun H Q z => ⟨d, z⟩) (fun H Q z => ⟨d, z⟩)
  have fin : ∀ (xs : List D) (vs : List V), RpL G.Z F1 vs xs → ∀ Dl, H1 Dl = none → ∀ H', CW G F1 H1 Dl tn fn (KQ G F H Q) G.Er xs.length vs.length (xs.drop vs.length) H' → Q (.ref Dl) H' := fun xs vs l Dl hD H' h => by
    rw [l.length, List.drop_length] at h
    exact comp_end e1 hD h
  cases r1 with
  | tup r l =>
    rename_i a vs xs
    obtain ⟨hz, q1⟩ := q1
    refine ⟨a, rfl, .inr ⟨⟨vs, by rw [← hK]; exact sqT_of A1.ok r⟩, fun Dl hD => ?_⟩⟩
    rw [← hK]
    exact lc_tup (K := G.Z.K) (xs := vs) (g := gName j) (tt := TT1 G n S j tn) (te := TE1 G n S j fn) (fun i => CW G F1 H1 Dl tn fn (KQ G F H Q) G.Er xs.length i (xs.drop i)) (start xs q1 Dl hD) (fun i H' _ ⟨F', _, _, e', _⟩ => sqT_of e'.ok (e'.ex _ _ r)) (turn xs vs l hz Dl hD) (fin xs vs l Dl hD)
  | ktup r l =>
    rename_i a vs xs
    obtain ⟨hz, q1⟩ := q1
    refine ⟨a, rfl, .inr ⟨⟨vs, by rw [← hK]; exact .inr r⟩, fun Dl hD => ?_⟩⟩
    rw [← hK]
    exact lc_tup (K := G.Z.K) (xs := vs) (g := gName j) (tt := TT1 G n S j tn) (te := TE1 G n S j fn) (fun i => CW G F1 H1 Dl tn fn (KQ G F H Q) G.Er xs.length i (xs.drop i)) (start xs q1 Dl hD) (fun i H' _ _ => .inr r) (turn xs vs l hz Dl hD) (fin xs vs l Dl hD)
  | lst r l =>
    rename_i a vs xs
    obtain ⟨hz, q1⟩ := q1
    refine ⟨a, rfl, .inl ⟨⟨vs, by rw [← hK]; exact RL.sq A1.ok r⟩, fun Dl hD => ?_⟩⟩
    rw [← hK]
    exact lc_list (K := G.Z.K) (xs := vs) (g := gName j) (tt := TT1 G n S j tn) (te := TE1 G n S j fn) (fun i => CW G F1 H1 Dl tn fn (KQ G F H Q) G.Er xs.length i (xs.drop i)) (start xs q1 Dl hD) (fun i H' _ ⟨F', _, _, e', _⟩ => RL.sq e'.ok (r.ex e'.ex)) (turn xs vs l hz Dl hD) (fin xs vs l Dl hD)
  | _ => exact (show False from q1).elim
/-- [elt for x in e if ..], e a list or a tuple; j the slot of x -/
theorem de_lc {j : Nat} {x : Str} {px : Pos} {tn : D → N Bool} {fn : D → N D} {n : Nat} (hc : X.calm = true) (hK : G.Z.K = X.K) (hN : X.N.Nodup) (ha : PE X a (eV G S na)) (ok : BlkOk X.N X.env.scope scope [(x, j)])
    (hg : ∀ (s : Shared) (H : Hp) (C : Addr) (cl : List (Str × Addr)) (fp : List Addr), PG (X.blk s H scope (compEnvC scope cl C X.env) fp) (.Name x px) (gName j))
    (ht : ∀ (s : Shared) (H : Hp) (C : Addr) (cl : List (Str × Addr)) (fp : List Addr) (y : D), PTs (X.blk s H scope (compEnvC scope cl C X.env) fp) ifs (tV (G.in n) ((S.set j .un).set j (.dat y)) (tn y)))
    (he : ∀ (s : Shared) (H : Hp) (C : Addr) (cl : List (Str × Addr)) (fp : List Addr) (y : D), PE (X.blk s H scope (compEnvC scope cl C X.env) fp) elt (eV (G.in n) ((S.set j .un).set j (.dat y)) (fn y)))
    (hs : ∀ x, foldedSetIterable a X.env x = pure x := by intro _; rfl) :
    PE X (.ListComp elt [⟨.Name x px, a, ifs, 0⟩] scope pos) (eV G S (na.bind fun d => (seqOf d).bind fun xs => (N.fits xs).bind fun _ => (N.comp tn fn xs).bind fun ys => .ok (.lst ys))) := by
  exact PE.imp (pe_lc (own := [(x, j)]) (g := gName j) hc hN (pi_seq ha) ok hg (tt := TT1 G n S j tn) (te := TE1 G n S j fn) (fun s H C cl fp => PTs.ex fun y : D => ht s H C cl fp y) (fun s H C cl fp => PE.ex fun y : D => he s H C cl fp y) hs) fun σ H Q h => lc_run hK h
theorem dts_nil {y : α} : PTs X [] (tV G S (.ok true)) := ⟨fun pins s σ H Q I ⟨F, A, q⟩ => pts_nil.run pins s σ H Q I (q F H (Ext.refl A.ok))⟩
theorem dts_one {c : Expr} {n : N Bool} (h : PT X c (tV G S n)) : PTs X [c] (tV G S n) := pts_one h
end
end M

set_option Elab.async false
set_option linter.all false
set_option maxRecDepth 100000
set_option maxHeartbeats 2000000
namespace PySem
namespace TEnum
open Sem (wp)
open AutoSeq1 (wpAny_loadPart')
theorem meets_enumT (l : Addr) (items : Array Value) (n : Nat) (dct : Option Addr) (sl : Array (Option Value)) :
    Meets (Builtin.«enumerate.__new__» ⟨[.type "enumerate", .ref l], []⟩) (fun _ R s => s.heap.get? l = some { cls := .type "tuple", dict := dct, data := .seq items n, slots := sl } ∧
      R (.ok (.ret (.ref (s.heap.push { cls := .type "tuple_iterator", data := .fields #[.ref l, .int 0 0] }).objs.size)))
        { s with heap := (s.heap.push { cls := .type "tuple_iterator", data := .fields #[.ref l, .int 0 0] }).push { cls := .type "enumerate", data := .fields #[.none, .bool false, .ref s.heap.objs.size, rawInt 0, .none, .none] } }) :=
  .of_wp fun prog w A R s h => by
    obtain ⟨hp, g, d, tk, os⟩ := s; obtain ⟨hl, h⟩ := h
    have hsub := sub_enumerate
    have hL : Heap.IsTuple (Shared.heap ⟨hp, g, d, tk, os⟩) l items := ⟨_, hl, rfl, n, rfl⟩
    wp_walk using wpAny_loadPart' hl
    refine wpAny_stack_any fun st => wpAny_pure ?_
    split
    · rename_i c _ _ _ _ _
      cases (c == Value.type "enumerate")
      · wp_walk using wpAny_loadPart' hl, wpAny_pyIter_tuple hL
        exact ⟨_, rfl, h⟩
      · wp_walk using wpAny_loadPart' hl, wpAny_pyIter_tuple hL
        exact ⟨_, rfl, h⟩
    · wp_walk using wpAny_loadPart' hl, wpAny_pyIter_tuple hL
      exact ⟨_, rfl, h⟩
section
variable {prog : Program} {w : World} {A : Around} {E : Value → Shared → Prop} {s : Shared}
theorem call_enumT {l : Addr} {items : Array Value} {Q : Value → Shared → Prop} (hL : s.heap.IsTuple l items)
    (h : ∀ h', IsEnum h' (s.heap.objs.size + 1) s.heap.objs.size 0 .none → h'.IsTupleIter s.heap.objs.size l 0 → h'.objs.size = s.heap.objs.size + 2 →
      (∀ b o, s.heap.get? b = some o → h'.get? b = some o) → Q (.ref (s.heap.objs.size + 1)) { s with heap := h' }) :
    wpAny (model prog w) A (call (.type "enumerate") [.ref l]) Q E s := by
  obtain ⟨⟨c, dct, dt, sl⟩, hl, hc, n, hd⟩ := hL
  replace hc : c = .type "tuple" := hc
  replace hd : dt = .seq items n := hd
  subst hc hd
  refine callType_new F.called_enumerate (by decide) (F.typeCall_enumerate_1 _) (F.newCall_enumerate_1 _) (fun obj => F.args_object_init_2 obj _) F.entry_enumerate_new
    (meets_enumT l items n dct sl) ⟨hl, ?_⟩
  have hz : (s.heap.push { cls := .type "tuple_iterator", data := .fields #[.ref l, .int 0 0] }).objs.size = s.heap.objs.size + 1 := Heap.size_push ..
  show _ ∧ _
  rw [hz]
  have he : IsEnum ((s.heap.push { cls := .type "tuple_iterator", data := .fields #[.ref l, .int 0 0] }).push
      { cls := .type "enumerate", data := .fields #[.none, .bool false, .ref s.heap.objs.size, rawInt 0, .none, .none] }) (s.heap.objs.size + 1) s.heap.objs.size 0 .none := by
    have := Heap.get?_push_size (s.heap.push { cls := .type "tuple_iterator", data := .fields #[.ref l, .int 0 0] })
      (o := { cls := .type "enumerate", data := .fields #[.none, .bool false, .ref s.heap.objs.size, rawInt 0, .none, .none] }) rfl
    rw [hz] at this; exact this
  refine ⟨⟨_, he, rfl⟩, h _ he ⟨_, Heap.get?_push_of_some _ (Heap.get?_push_size _ rfl), rfl, rfl⟩ (by rw [Heap.size_push, hz]) fun b o x => Heap.get?_push_of_some _ (Heap.get?_push_of_some _ x)⟩
end
end TEnum
end PySem
namespace M
open PySem PyProof.Rows L2
/-- the tuple at a, each item in a new pair -/
def Itet (K : PySem.W.Frag) (a : Addr) : It :=
  ⟨fun i H => ∃ (xs : List V) (x : V), SqT K H a xs ∧ xs[i]? = some x, fun i H v H' => ∃ T x, v = .ref T ∧ H T = none ∧ H' = upd H T (.tup [.int (i : Nat), x]) ∧ ∀ xs, SqT K H a xs → xs[i]? = some x, fun i H => ∃ xs : List V, SqT K H a xs ∧ xs.length ≤ i⟩
theorem turn_enumT {P : Program} {w : World} {K : PySem.W.Frag} {elts : List Expr} {kk : Nat} {tpos : Pos} (a e it : Addr) (hae : a ≠ e) (hai : a ≠ it) :
    Turn P w K (.Tuple elts kk tpos) (Itet K a) [e, it] e (fun i h => (∃ old, IsEnum h e it ((i : Nat) : Int) old) ∧ h.IsTupleIter it a i ∧ e ≠ it) where
  mem := by simp
  obj := fun i h st b hb => by
    obtain ⟨⟨old, he⟩, ⟨o, ho, hc, hd⟩, _⟩ := st
    have e' : b = e ∨ b = it := by simpa using hb
    rcases e' with z | z
    · rw [z]; exact ⟨_, he, fun v q => nomatch q⟩
    · rw [z]; exact ⟨o, ho, fun v q => by rw [hd] at q; cases q⟩
  keep := fun i h h' st k => let ⟨⟨old, he⟩, hi, hne⟩ := st; ⟨⟨old, k e (by simp) _ he⟩, hi.at fun o q => k it (by simp) o q, hne⟩
  item := by
    intro X hP hw hK hc i pins s σ H E I hf st hg
    subst hP hw hK
    obtain ⟨⟨old, he⟩, hit, hne⟩ := st
    obtain ⟨xs, x, hq, hx⟩ := hg
    obtain ⟨its, rv, p, hz⟩ := I.tuple hq
    obtain ⟨u, hu, ru⟩ := rv.get hx
    have hel : e < s.heap.objs.size := Heap.lt_size he
    have hil : it < s.heap.objs.size := by obtain ⟨_, q, _⟩ := hit; exact Heap.lt_size q
    have hlt : i < its.toArray.size := by
      have := (List.getElem?_eq_some_iff.mp hu).1
      simpa using this
    have Dr := PySem.Draws.tuple (prog := X.prog) (w := X.w) (A := X.A.in1) (show X.A.in1.handled = none from I.ok.hd hc) it a hai its.toArray
    refine wpAny_pyNext_enum_itemD Dr he ⟨hit, show s.heap.IsTuple a its.toArray from p⟩ hlt hne (by simp [hne, Ne.symm hae]) fun x' h' tk hx' ho hst hT hsz hk => ?_
    have eu : x' = u := by
      have h1 : its.toArray[i]? = some x' := hx'
      have h2 : its.toArray[i]? = some u := by simpa using hu
      rw [h1] at h2
      exact Option.some.inj h2
    subst eu
    refine ⟨_, rfl, wpAny_letOwnedTupleGo_enum (s := { s with heap := h', toks := tk + 1 }) ho fun h'' he' sb => ?_⟩
    have hT2 : h''.get? s.heap.objs.size = some { cls := .type "tuple", data := .seq #[.int i tk, x'] } := (sb.2 _ (Nat.ne_of_gt hel)).trans hT
    have new : ObjOk X.prog X.w (upd H s.heap.objs.size (.tup [.int (i : Nat), x])) h'' s.heap.objs.size (.tup [.int (i : Nat), x]) :=
      ⟨by show 2 ≤ sizeLine; decide, [.int i tk, x'], .cons ⟨_, rfl⟩ (.cons ru .nil), ⟨_, hT2, rfl, _, rfl⟩⟩
    have I1 : Inv X pins σ (upd H s.heap.objs.size (.tup [.int (i : Nat), x])) { s with heap := h'', toks := tk + 1 } :=
      I.turnedNew (ch := [e, it]) (fun b ob hb q => (sb.2 b (fun z => hb (by simp [z]))).trans (hk b ob (fun z => hb (by simp [z])) (fun z => hb (by simp [z])) q)) hf (Nat.le_refl _) new
    refine ⟨.ref s.heap.objs.size, _, I1, rfl, ⟨_, x, rfl, I.hok.fresh (Nat.le_refl _), rfl, fun ys hy => by rw [I.tuple_inj hy hq]; exact hx⟩, ⟨⟨x', ?_⟩, hst.1.at fun o q => (sb.2 it (Ne.symm hne)).trans q, hne⟩, fun b hb => ?_⟩
    · have e1 : ((i + 1 : Nat) : Int) = (i : Int) + 1 := by omega
      rw [e1]; exact he'
    · have hb' : b < s.heap.objs.size := by
        have e' : b = e ∨ b = it := by simpa using hb
        rcases e' with z | z
        · rw [z]; exact hel
        · rw [z]; exact hil
      rw [upd_ne (Nat.ne_of_lt hb')]
      exact (hf b hb).1
  done := by
    intro X hP hw hK hc i pins s σ H E I hf st hg
    subst hP hw hK
    obtain ⟨⟨old, he⟩, hit, hne⟩ := st
    obtain ⟨xs, hq, hx⟩ := hg
    obtain ⟨its, rv, p, hz⟩ := I.tuple hq
    obtain ⟨f0, f1, f2, f3, f4, f5⟩ := hf it (by simp)
    have hl := rv.length
    have hT : s.TypeIs (.ref e) "enumerate" := ⟨_, he, rfl⟩
    unfold pyNext
    refine wpAny_bind (wpAny_attempt (wpAny_callSpecial?_slot (name := PySem.Str.ofString "__next__") hT PySem.F.slot_enumerate_next
      (wpAny_call_entry PySem.F.slot_enumerate_next hT PySem.F.entry_enumerate_next ?_ (PySem.F.args_enumerate_next_1 _))))
    show wpAny _ _ (field (.ref e) 2 >>= _) _ _ _
    refine wpAny_bind (wpAny_field he rfl (x := .ref it) rfl ?_)
    refine wpAny_bind (PySem.wpAny_nextOf_tuple_end (show X.A.in1.in1.handled = none from I.ok.hd hc) hit (show s.heap.IsTuple a its.toArray from p) (by simp; omega) fun h' x he' hx' => ?_)
    obtain ⟨o, ho, hcc⟩ := hx'
    refine wpAny_bind (wpAny_isInstance (T := "StopIteration") (b := true) ⟨o, ho, hcc⟩ isSubtype_stop ?_)
    exact wpAny_pure ⟨rfl, I.turned (t' := s.toks) (fun b o hb q => he' b o hb q) f0 f1 f3 f4 f5⟩
  self := fun A i s Q E st h => let ⟨⟨_, he⟩, _⟩ := st; wpAny_pyIter_enum he h
end M

set_option Elab.async false
set_option linter.all false
set_option maxRecDepth 100000
set_option maxHeartbeats 2000000
namespace M
open PySem L2
/-! ### for a, b in enumerate(e) -/
section
variable {X : Cx} {tg : Expr}
def iEn (K : PySem.W.Frag) (ta : TA) : TI := fun σ H R => ta σ H fun vs H1 => ∃ a, vs = [.ref a] ∧ (((∃ xs, SqL K H1 a xs) ∧ R (Ite K a) H1) ∨ ((∃ xs, H1 a = some (.tup xs)) ∧ R (Itet K a) H1))
open PySem.Spec PyProof.Rows in
theorem pi_en {e : Expr} {ta : TA} {p pos tpos : Pos} {elts : List Expr} {kk : Nat} (hg : Gl X "enumerate") (hm : X.mg "enumerate" = none) (ha : PA X [e] ta) (hs : starEach [e] X.env = [(false, eval e X.env)] := by rfl) :
    PI X (.Tuple elts kk tpos) (.Call (.Name "enumerate" p) [e] [] pos) (iEn X.K ta) := by
  refine ⟨fun pins s σ H R I h => ?_⟩
  refine Call_ (ld_blt I hg hm boot_enumerate (PyProof.Rows.callWith_type1 (thn (ha.run pos pins s σ H _ I h) fun us s1 ⟨vs, H1, I1, r1, q1⟩ => ?_) hs rfl))
  obtain ⟨a, ex, q⟩ := q1
  subst ex
  cases r1 with
  | cons r rr =>
    cases rr
    cases r
    have fpn : ∀ b ∈ [s1.heap.objs.size + 1, s1.heap.objs.size], FpOk X pins H1 b := fun b hb => by
      have e' : b = s1.heap.objs.size + 1 ∨ b = s1.heap.objs.size := by simpa using hb
      have hle : s1.heap.objs.size ≤ b := by
        rcases e' with z | z
        · rw [z]; exact Nat.le_add_right _ _
        · rw [z]; exact Nat.le_refl _
      exact I1.fpOk hle (I1.hok.fresh hle)
    rcases q with ⟨⟨xs, hq⟩, q⟩ | ⟨⟨xs, hq⟩, q⟩
    · obtain ⟨its, rv, p', hz⟩ := I1.list hq
      refine call_enumerate_list p'.isList fun h' he hit hsz hk => wpAny_pyIter_enum he ?_
      have I2 : Inv X pins σ H1 { s1 with heap := h' } := I1.kept (t' := s1.toks) hk
      exact ⟨s1.heap.objs.size + 1, [s1.heap.objs.size + 1, s1.heap.objs.size], _, _, H1, rfl, I2, turn_enum a (s1.heap.objs.size + 1) s1.heap.objs.size, ⟨⟨.none, he⟩, hit, Nat.succ_ne_self _⟩, fpn, q⟩
    · obtain ⟨its, rv, p', hz⟩ := I1.tuple (SqT.of hq)
      have hlt : a < s1.heap.objs.size := by obtain ⟨_, q, _⟩ := p'; exact Heap.lt_size q
      refine PySem.TEnum.call_enumT (show s1.heap.IsTuple a its.toArray from p') fun h' he hit hsz hk => wpAny_pyIter_enum he ?_
      have I2 : Inv X pins σ H1 { s1 with heap := h' } := I1.kept (t' := s1.toks) hk
      exact ⟨s1.heap.objs.size + 1, [s1.heap.objs.size + 1, s1.heap.objs.size], _, _, H1, rfl, I2, turn_enumT a (s1.heap.objs.size + 1) s1.heap.objs.size (Nat.ne_of_lt (Nat.lt_succ_of_lt hlt)) (Nat.ne_of_lt hlt), ⟨⟨.none, he⟩, hit, Nat.succ_ne_self _⟩, fpn, q⟩
end
section
variable {X : Cx} {G : Gx} {S : List Sl} {τ β : Type} {sl : τ → List Sl} {sb : β → List Sl} {a b c e : Expr} {na nb : N D} {pos : Pos} {body : List Stmt}
def numbered (xs : List D) : List (Int × D) := xs.zipIdx.map fun p => ((p.2 : Int), p.1)
theorem numbered_drop (xs : List D) (i : Nat) (d : D) (h : xs[i]? = some d) : (numbered xs).drop i = ((i : Int), d) :: (numbered xs).drop (i + 1) := by
  have h2 : (numbered xs)[i]? = some ((i : Int), d) := by
    unfold numbered
    rw [List.getElem?_map, List.getElem?_zipIdx, h]
    simp
  obtain ⟨hl, he⟩ := List.getElem?_eq_some_iff.mp h2
  rw [List.drop_eq_getElem_cons hl, he]
theorem numbered_end (xs : List D) : (numbered xs).drop xs.length = [] := by
  apply List.drop_eq_nil_of_le
  unfold numbered
  rw [List.length_map, List.length_zipIdx]
  exact Nat.le_refl _
/-- what enumerate takes here: a list, or a tuple that is no constant of the module -/
def enOf (d : D) : N (List D) := match d with
  | .tup xs => .ok xs
  | .lst xs => .ok xs
  | _ => .stuck
theorem ds_forE {i j : Nat} {x y : Str} {px py pt pr pc : Pos} {kk : Nat} (t0 : τ) {bn : Int × D → τ → N (Fl τ τ)} (hp : PassesOwn (model X.prog X.w) X.A X.env X.xe) (hc : X.calm = true) (hK : G.Z.K = X.K) (hm : X.mg "enumerate" = none) (hN : X.N.Nodup) (ha : PE X a (eV G S na)) (h0 : Wk S (sl t0))
    (hb : ∀ k d t, PSs X body (sV G (((sl t).set i (.dat (.int k))).set j (.dat d)) sl sl (bn (k, d) t))) (hg : Gl X "enumerate" := by rfl) (hi : X.N[i]? = some x := by rfl) (hx : Loc X.env.scope x := by first | exact Or.inl rfl | exact Or.inr rfl)
    (hf : X.fn x = true ∨ X.env.scope.names.lookup x = some .local := by first | exact .inl rfl | exact .inr rfl) (hj : X.N[j]? = some y := by rfl) (hy : Loc X.env.scope y := by first | exact Or.inl rfl | exact Or.inr rfl)
    (hfy : X.fn y = true ∨ X.env.scope.names.lookup y = some .local := by first | exact .inl rfl | exact .inr rfl) (hs : ∀ v, foldedSetIterable (.Call (.Name "enumerate" pr) [a] [] pc) X.env v = pure v := by intro _; rfl)
    (he : starEach [a] X.env = [(false, eval a X.env)] := by rfl) (hn : (assignEach [.Name x px, .Name y py] X.env).length = 2 := by rfl) (hst : (assignEach [.Name x px, .Name y py] X.env).findIdx? (·.1) = none := by rfl) :
    PS X (.For (.Tuple [.Name x px, .Name y py] kk pt) (.Call (.Name "enumerate" pr) [a] [] pc) body [] pos) (sV G S sl sb (na.bind fun d => (enOf d).bind fun xs => N.loop bn (numbered xs) t0)) := by
  refine PS.imp (ps_for (g := gTup X.K 2 (gCons (gName i) (gCons (gName j) gNil))) (tb := fun E σ H => ∃ p : (Int × D) × τ, sV G (((sl p.2).set i (.dat (.int p.1.1))).set j (.dat p.1.2)) sl sl (bn p.1 p.2) E σ H) hp hc (pi_en hg hm (da_cons ha da_nil he) he)
    (pg_tup hc (pgs_cons (pg_name (i := i) hN hi hx hf) (pgs_cons (pg_name (i := j) hN hj hy hfy) pgs_nil)) hn hst) (PSs.ex fun p : (Int × D) × τ => hb p.1.1 p.1.2 p.2) hs) fun E σ H ⟨F, A, q⟩ => ?_
  refine ⟨F, A, na.mono (fun d q1 vs F1 H1 e1 r1 => ?_) (fun _ _ z => z) q⟩
  have A1 := A.go e1
  cases r1 with
  | cons r rl =>
    cases rl
    -- one turn, whatever the source
    have turn : ∀ (xs : List D) (vs : List V), RpL G.Z F1 vs xs → ∀ (k : Nat) (v : V) (T : Addr) (σ' : St) (H' : Hp), vs[k]? = some v → H' T = none → LW G F1 sl sb E bn ((numbered xs).drop k) σ' H' →
        gTup X.K 2 (gCons (gName i) (gCons (gName j) gNil)) (.ref T) σ' (upd H' T (.tup [.int (k : Nat), v])) fun σ2 H2 => (∃ p : (Int × D) × τ, sV G (((sl p.2).set i (.dat (.int p.1.1))).set j (.dat p.1.2)) sl sl (bn p.1 p.2) { nx := LW G F1 sl sb E bn ((numbered xs).drop (k + 1)), ct := LW G F1 sl sb E bn ((numbered xs).drop (k + 1)), bk := E.nx, rt := E.rt } σ2 H2) := fun xs vs l k v T σ' H' hv hT ⟨t, F', e', A', q'⟩ => by
      obtain ⟨d, hd, r⟩ := l.getV hv
      rw [numbered_drop xs k d hd] at q'
      have e2 : Ext F' H' (updT F' T (is (.tup [.int (k : Nat), v]))) (upd H' T (.tup [.int (k : Nat), v])) := Ext.new A'.ok hT rfl
      have A2 := A'.go e2
      refine ⟨T, [.int (k : Nat), v], rfl, SqT.of upd_same, rfl, _, _, rfl, _, _, rfl, rfl, (((k : Int), d), t), ?_⟩
      exact loop_turn (e'.trans e2.ex) ((A2.set (.int _)).set (r.ex (e'.trans e2.ex))) q'
    have fin : ∀ (xs : List D) (vs : List V), RpL G.Z F1 vs xs → ∀ σ' H', LW G F1 sl sb E bn ((numbered xs).drop vs.length) σ' H' → E.nx σ' H' := fun xs vs l σ' H' ⟨t, F', e', A', q'⟩ => by
      rw [l.length, numbered_end] at q'
      exact q' F' σ' H' e' A'
    have start : ∀ (xs : List D), (N.loop (β := β) bn (numbered xs) t0).wp (flP G F sl sb E) G.Er → LW G F1 sl sb E bn ((numbered xs).drop 0) σ H1 := fun xs h => ⟨t0, F1, Ex.refl F1, A1.weak h0, (N.loop bn _ t0).mono (fun f z => flP.ex G e1.ex z) (fun _ _ z => z) h⟩
    cases r with
    | tup r l =>
      rename_i a vs xs
      refine ⟨a, rfl, .inr ⟨⟨vs, tup_of A1.ok r⟩, ?_⟩⟩
      refine ⟨fun k m σ H => m = vs.length - k ∧ k ≤ vs.length ∧ LW G F1 sl sb E bn ((numbered xs).drop k) σ H, ⟨vs.length, by simp, Nat.zero_le _, start xs q1⟩, ?_⟩
      rintro k m σ' H' ⟨rfl, hk, w⟩
      have hsq : SqT X.K H' a vs := by
        obtain ⟨t, F', e', A', _⟩ := id w
        exact sqT_of A'.ok (e' _ _ r)
      by_cases hlt : k < vs.length
      · refine .inr ⟨⟨vs, vs[k], hsq, by simp [hlt]⟩, LW G F1 sl sb E bn ((numbered xs).drop (k + 1)), fun σ2 H2 w2 => ⟨vs.length - (k + 1), by omega, rfl, hlt, w2⟩, fun v H2 hy => ?_⟩
        obtain ⟨T, u, rfl, hT, rfl, hu⟩ := hy
        exact turn xs vs l k u T σ' H' (hu vs hsq) hT w
      · have ek : k = vs.length := by omega
        subst ek
        exact .inl ⟨⟨vs, hsq, Nat.le_refl _⟩, fin xs vs l σ' H' w⟩
    | lst r l =>
      rename_i a vs xs
      refine ⟨a, rfl, .inl ⟨⟨vs, by rw [← hK]; exact RL.sq A1.ok r⟩, ?_⟩⟩
      refine ⟨fun k m σ H => m = vs.length - k ∧ k ≤ vs.length ∧ LW G F1 sl sb E bn ((numbered xs).drop k) σ H, ⟨vs.length, by simp, Nat.zero_le _, start xs q1⟩, ?_⟩
      rintro k m σ' H' ⟨rfl, hk, w⟩
      have hsq : SqL X.K H' a vs := by
        obtain ⟨t, F', e', A', _⟩ := id w
        rw [← hK]
        exact RL.sq A'.ok (r.ex e')
      by_cases hlt : k < vs.length
      · refine .inr ⟨⟨vs, vs[k], hsq, by simp [hlt]⟩, LW G F1 sl sb E bn ((numbered xs).drop (k + 1)), fun σ2 H2 w2 => ⟨vs.length - (k + 1), by omega, rfl, hlt, w2⟩, fun v H2 hy => ?_⟩
        obtain ⟨T, u, rfl, hT, rfl, hu⟩ := hy
        exact turn xs vs l k u T σ' H' (hu vs hsq) hT w
      · have ek : k = vs.length := by omega
        subst ek
        exact .inl ⟨⟨vs, hsq, Nat.le_refl _⟩, fin xs vs l σ' H' w⟩
    | _ => exact (show False from q1).elim

/-! ### things that a def changes in place -/
theorem ds_freeze {rest : List Stmt} {sl2 : τ → List Sl} {i : Nat} {ds : List D} {n : N (Fl τ β)} (hi : S[i]? = some (.own (.lst ds)) := by rfl) (h : PSs X rest (sV G (S.set i (.dat (.lst ds))) sl2 sb n)) : PSs X rest (sV G S sl2 sb n) :=
  PSs.imp h fun E σ H ⟨F, A, q⟩ => by
    obtain ⟨F', e, A'⟩ := A.freeze hi
    exact ⟨F', A', n.mono (fun f z => flP.ex G e z) (fun _ _ z => z) q⟩
/-- x = [] , to be filled -/
theorem ds_newL {i : Nat} {x : Str} {pos' pl : Pos} (hN : X.N.Nodup) (hi : X.N[i]? = some x := by rfl) (hx : Loc X.env.scope x := by first | exact Or.inl rfl | exact Or.inr rfl) (hs : swapsWith (.List [] pl) (some (.Name x pos')) pos.line X.env = pure false := by rfl)
    (hf : X.fn x = true ∨ X.env.scope.names.lookup x = some .local := by first | exact .inl rfl | exact .inr rfl) :
    PS X (.Assign [.Name x pos'] (.List [] pl) pos) (sV G S (fun _ : Unit => S.set i (.own (.lst []))) sb (.ok (.nx ()))) :=
  PS.imp (ps_set (i := i) hN hi hx (pe_lst pa_nil) hs hf) fun E σ H ⟨F, A, q⟩ => ⟨Nat.zero_le _, fun p hp => q F _ _ (Ex.refl F) (A.newOwn hp ⟨[], rfl, .nil⟩)⟩
/-- x.append(e) -/
theorem ds_app {i : Nat} {x : Str} {px pa pc : Pos} {ds : List D} (hi : S[i]? = some (.own (.lst ds))) (hN : X.N[i]? = some x) (ha : PE X a (eV G S na)) (hv : Vis X.env.scope x := by first | exact Or.inl rfl | exact Or.inr (Or.inl rfl) | exact Or.inr (Or.inr rfl))
    (hd : (x == ("__debug__" : Str)) = false := by decide) (he : starEach (a :: []) X.env = (false, eval a X.env) :: starEach [] X.env := by rfl) (hw : swapsWith (.Call (.Attribute (.Name x px) "append" pa) [a] [] pc) none pos.line X.env = pure false := by rfl)
    (hb : PE X (.Call (.Attribute (.Name x px) "append" pa) [a] [] pc) (tBM X.K "list" rAppend (tVar i) (tCons (eV G S na) tNil)) := by exact pe_bm PySem.F.plainAttrs_list PySem.F.slot_list_append PySem.F.type_list_append mt_append (pv _) (pa_cons (by assumption) pa_nil)) :
    PS X (.Expr (.Call (.Attribute (.Name x px) "append" pa) [a] [] pc) pos) (sV G S (fun d => S.set i (.own (.lst (ds ++ [d])))) sb (na.bind fun d => (N.asrt (ds.length < sizeLine)).bind fun _ => .ok (.nx d))) :=
  PS.imp (ps_expr hb hw) fun E σ H ⟨F, A, q⟩ => by
    obtain ⟨l, u, e, hu, nF, nB, vs, eu, r⟩ := A.sl i _ hi
    subst eu
    refine ⟨.ref l, e, .inl ⟨rfl, vs, SqL.of hu⟩, F, A, na.mono (fun d q1 v F1 H1 e1 r1 => ?_) (fun _ _ z => z) q⟩
    have A1 := A.go e1
    obtain ⟨hF1, hu1⟩ := ext_lst e1 nF hu
    obtain ⟨hz, q1⟩ := q1
    exact ⟨l, vs, v, rfl, rfl, hu1, by rw [r.length]; exact hz, q1 F1 σ _ e1.ex (A1.put hi e ⟨vs ++ [v], rfl, (r.ex e1.ex).append (.cons r1 .nil)⟩)⟩

/-! dicts with tuples of ints and texts as keys -/
def keyOf : D → Option Key
  | .int i => some (.inl i)
  | .str s => some (.inr s)
  | _ => none
def keysOf : List D → Option (List Key)
  | [] => some []
  | x :: xs => match keyOf x, keysOf xs with
    | some k, some ks => some (k :: ks)
    | _, _ => none
def keyD : Key → D
  | .inl i => .int i
  | .inr s => .str s
theorem keysOf_rp {Z : Zt} {F : Ty} : ∀ {vs : List V} {xs : List D} {ks : List Key}, RpL Z F vs xs → keysOf xs = some ks → vs = ks.map kV
  | _, _, _, .nil, h => by unfold keysOf at h; cases h; rfl
  | _, _, _, .cons (d := d) (ds := ds) r l, h => by
    unfold keysOf at h
    cases h1 : keyOf d with
    | none => rw [h1] at h; simp at h
    | some k =>
      cases h2 : keysOf ds with
      | none => rw [h1, h2] at h; simp at h
      | some ks =>
        rw [h1, h2] at h
        simp at h
        subst h
        rw [List.map_cons, ← keysOf_rp l h2]
        congr 1
        cases r <;> first | (simp [keyOf] at h1; done) | (simp [keyOf] at h1; subst h1; rfl)
theorem keyD_rp {Z : Zt} {F : Ty} : ∀ ks : List Key, RpL Z F (ks.map kV) (ks.map keyD)
  | [] => .nil
  | .inl i :: ks => .cons (.int i) (keyD_rp ks)
  | .inr s :: ks => .cons (.str s) (keyD_rp ks)
def dget {κ : Type} [DecidableEq κ] (kvs : List (κ × D)) (k : κ) : Option D := (kvs.find? fun kv => decide (kv.1 = k)).map (·.2)
def dput {κ : Type} [DecidableEq κ] (kvs : List (κ × D)) (k : κ) (v : D) : List (κ × D) :=
  if (kvs.any fun kv => decide (kv.1 = k)) = true then kvs.map (fun kv => if kv.1 = k then (kv.1, v) else kv) else kvs ++ [(k, v)]
section
variable {κ : Type} [DecidableEq κ] {Z : Zt} {F : Ty}
theorem rpkv_cons {p : κ × V} {q : κ × D} {vs : List (κ × V)} {ds : List (κ × D)} (h : RpKV Z F (p :: vs) (q :: ds)) : p.1 = q.1 ∧ Rp Z F p.2 q.2 ∧ RpKV Z F vs ds := by
  obtain ⟨h1, h2⟩ := h
  rw [List.map_cons, List.map_cons] at h1 h2
  cases h2 with
  | cons r l =>
    injection h1 with e1 e2
    exact ⟨e1, r, e2, l⟩
theorem rpkv_mk {p : κ × V} {q : κ × D} {vs : List (κ × V)} {ds : List (κ × D)} (e : p.1 = q.1) (r : Rp Z F p.2 q.2) (h : RpKV Z F vs ds) : RpKV Z F (p :: vs) (q :: ds) := by
  refine ⟨?_, .cons r h.2⟩
  rw [List.map_cons, List.map_cons, e, h.1]
theorem rpkv_nil : RpKV (κ := κ) Z F [] [] := ⟨rfl, .nil⟩
theorem rpkv_len {vs : List (κ × V)} {ds : List (κ × D)} (h : RpKV Z F vs ds) : vs.length = ds.length := by
  have := congrArg List.length h.1
  rwa [List.length_map, List.length_map] at this
theorem rpkv_get : ∀ {vs : List (κ × V)} {ds : List (κ × D)} (k : κ), RpKV Z F vs ds → (valV vs k = none ∧ dget ds k = none) ∨ ∃ v d, valV vs k = some v ∧ dget ds k = some d ∧ Rp Z F v d
  | [], [], k, _ => .inl ⟨rfl, rfl⟩
  | [], _ :: _, k, h => by have := rpkv_len h; simp at this
  | _ :: _, [], k, h => by have := rpkv_len h; simp at this
  | p :: vs, q :: ds, k, h => by
    obtain ⟨e, r, h'⟩ := rpkv_cons h
    by_cases hk : q.1 = k
    · refine .inr ⟨p.2, q.2, valV_pos (e.trans hk), ?_, r⟩
      unfold dget
      rw [List.find?_cons, decide_eq_true hk]
      rfl
    · have hd : dget (q :: ds) k = dget ds k := by
        unfold dget
        rw [List.find?_cons, decide_eq_false hk]
      rw [valV_neg (by rw [e]; exact hk), hd]
      exact rpkv_get k h'
theorem rpkv_any : ∀ {vs : List (κ × V)} {ds : List (κ × D)} (k : κ), RpKV Z F vs ds → (vs.any fun kv => decide (kv.1 = k)) = ds.any fun kv => decide (kv.1 = k)
  | [], [], k, _ => rfl
  | [], _ :: _, k, h => by have := rpkv_len h; simp at this
  | _ :: _, [], k, h => by have := rpkv_len h; simp at this
  | p :: vs, q :: ds, k, h => by
    obtain ⟨e, r, h'⟩ := rpkv_cons h
    rw [List.any_cons, List.any_cons, e, rpkv_any k h']
theorem rpkv_map {v : V} {d : D} (rv : Rp Z F v d) : ∀ {vs : List (κ × V)} {ds : List (κ × D)} (k : κ), RpKV Z F vs ds → RpKV Z F (vs.map fun kv => if kv.1 = k then (kv.1, v) else kv) (ds.map fun kv => if kv.1 = k then (kv.1, d) else kv)
  | [], [], k, _ => rpkv_nil
  | [], _ :: _, k, h => by have := rpkv_len h; simp at this
  | _ :: _, [], k, h => by have := rpkv_len h; simp at this
  | p :: vs, q :: ds, k, h => by
    obtain ⟨e, r, h'⟩ := rpkv_cons h
    rw [List.map_cons, List.map_cons]
    by_cases hk : q.1 = k
    · rw [if_pos hk, if_pos (e.trans hk)]
      exact rpkv_mk e rv (rpkv_map rv k h')
    · rw [if_neg hk, if_neg (by rw [e]; exact hk)]
      exact rpkv_mk e r (rpkv_map rv k h')
theorem rpkv_snoc {v : V} {d : D} {k : κ} (rv : Rp Z F v d) {vs : List (κ × V)} {ds : List (κ × D)} (h : RpKV Z F vs ds) : RpKV Z F (vs ++ [(k, v)]) (ds ++ [(k, d)]) := by
  refine ⟨?_, ?_⟩
  · rw [List.map_append, List.map_append, h.1]; rfl
  · rw [List.map_append, List.map_append]; exact h.2.append (.cons rv .nil)
theorem rpkv_put {v : V} {d : D} (k : κ) (rv : Rp Z F v d) {vs : List (κ × V)} {ds : List (κ × D)} (h : RpKV Z F vs ds) : RpKV Z F (putK vs k v) (dput ds k d) := by
  unfold putK dput
  rw [rpkv_any k h]
  split
  · exact rpkv_map rv k h
  · exact rpkv_snoc rv h
theorem rpkv_ex {F' : Ty} (e : Ex F F') {vs : List (κ × V)} {ds : List (κ × D)} (h : RpKV Z F vs ds) : RpKV Z F' vs ds := ⟨h.1, h.2.ex e⟩
end
/-- x = {}, its keys to be tuples -/
theorem ds_newT {i : Nat} {x : Str} {pos' pl : Pos} (hN : X.N.Nodup) (hi : X.N[i]? = some x := by rfl) (hx : Loc X.env.scope x := by first | exact Or.inl rfl | exact Or.inr rfl) (hs : swapsWith (.Dict [] [] pl) (some (.Name x pos')) pos.line X.env = pure false := by rfl)
    (hf : X.fn x = true ∨ X.env.scope.names.lookup x = some .local := by first | exact .inl rfl | exact .inr rfl) :
    PS X (.Assign [.Name x pos'] (.Dict [] [] pl) pos) (sV G S (fun _ : Unit => S.set i (.own (.dT []))) sb (.ok (.nx ()))) :=
  PS.imp (ps_set (i := i) hN hi hx pe_dnewT hs hf) fun E σ H ⟨F, A, q⟩ => fun p hp => q F _ _ (Ex.refl F) (A.newOwn hp ⟨[], rfl, rpkv_nil⟩)
/-- a datum as a tuple key -/
def tkey : D → N (List Key)
  | .tup xs => match keysOf xs with
    | some ks => .ok ks
    | none => .stuck
  | _ => .stuck
theorem ext_dT {F F2 : Ty} {H H2 : Hp} {l : Addr} {kvs : List (List Key × V)} (e : Ext F H F2 H2) (hF : F l = none) (hA : H l = some (.dT kvs)) : F2 l = none ∧ H2 l = some (.dT kvs) := by
  obtain ⟨h, n⟩ := e.kp _ _ hA hF (fun _ z => by cases z)
  rcases n with n | ⟨_, xs, z⟩
  · exact ⟨n, h⟩
  · cases z
theorem ext_dK {F F2 : Ty} {H H2 : Hp} {l : Addr} {kvs : List (Key × V)} (e : Ext F H F2 H2) (hF : F l = none) (hA : H l = some (.dK kvs)) : F2 l = none ∧ H2 l = some (.dK kvs) := by
  obtain ⟨h, n⟩ := e.kp _ _ hA hF (fun _ z => by cases z)
  rcases n with n | ⟨_, xs, z⟩
  · exact ⟨n, h⟩
  · cases z
/-- e in d -/
theorem dt_inT {i : Nat} {x : Str} {px : Pos} {kvs : List (List Key × D)} {k : Nat} (hr : Room k X.A) (hi : S[i]? = some (.own (.dT kvs))) (hN : X.N[i]? = some x) (ha : PE X a (eV G S na)) (hv : Vis X.env.scope x := by first | exact Or.inl rfl | exact Or.inr (Or.inl rfl) | exact Or.inr (Or.inr rfl))
    (hd : (x == ("__debug__" : Str)) = false := by decide) (hcd : (x == ("__classdict__" : Str)) = false := by decide) (hm : behindInMarks .In (.Name x px) = false := by rfl) : PT X (.Compare a [.In] [.Name x px] pos) (tV G S (na.bind fun d => (tkey d).bind fun ks => .ok (dget kvs ks).isSome)) :=
  PT.imp (pt_cmp (pc_din (hu_of hr) ha (pe_var (i := i) hN hv hd hcd)) hm) fun σ H Q ⟨F, A, q⟩ => ⟨F, A, na.mono (fun d q1 v F1 H1 e1 r1 => by
    obtain ⟨l, u, e, hu, nF, nB, vs, eu, r⟩ := A.sl i _ hi
    subst eu
    obtain ⟨_, hu1⟩ := ext_dT e1 nF hu
    refine ⟨.ref l, e, ?_⟩
    cases r1 with
    | tup rt lt =>
      rename_i b us xs
      unfold tkey at q1
      cases hk : keysOf xs with
      | none => simp only [hk] at q1; exact (show False from q1).elim
      | some ks =>
        simp only [hk] at q1
        have hb : H1 b = some (.tup (ks.map kV)) := by
          rw [← keysOf_rp lt hk]
          exact tup_of (A.go e1).ok rt
        refine ⟨l, valV vs ks, rfl, DGet.t hu1 hb, _, rfl, ?_⟩
        rcases rpkv_get ks r with ⟨h1, h2⟩ | ⟨v', d', h1, h2, _⟩
        · rw [h1]
          have := q1 F1 H1 e1
          rw [h2] at this
          exact this
        · rw [h1]
          have := q1 F1 H1 e1
          rw [h2] at this
          exact this
    | _ => exact (show False from q1).elim) (fun _ _ z => z) q⟩
/-- d[k] = e -/
theorem ds_putT {i : Nat} {x : Str} {px ps : Pos} {kvs : List (List Key × D)} {k : Nat} (hr : Room k X.A) (hi : S[i]? = some (.own (.dT kvs))) (hN : X.N[i]? = some x) (ha : PE X a (eV G S na)) (hb : PE X b (eV G S nb)) (hv : Vis X.env.scope x := by first | exact Or.inl rfl | exact Or.inr (Or.inl rfl) | exact Or.inr (Or.inr rfl))
    (hd : (x == ("__debug__" : Str)) = false := by decide) (hcd : (x == ("__classdict__" : Str)) = false := by decide) (hs : swapsWith b (some (.Subscript (.Name x px) a ps)) pos.line X.env = pure false := by rfl) :
    PS X (.Assign [.Subscript (.Name x px) a ps] b pos) (sV G S (fun t => S.set i (.own (.dT t))) sb (nb.bind fun v => na.bind fun d => (tkey d).bind fun ks => (N.asrt (kvs.length < sizeLine)).bind fun _ => .ok (.nx (dput kvs ks v)))) :=
  PS.imp (ps_dput (hu_of hr) (pe_var (i := i) hN hv hd hcd) ha hb hs) fun E σ H ⟨F, A, q⟩ => ⟨F, A, nb.mono (fun dv q1 v F1 H1 e1 r1 => by
    obtain ⟨l, u, e, hu, nF, nB, vs, eu, r⟩ := A.sl i _ hi
    subst eu
    have A1 := A.go e1
    refine ⟨.ref l, e, F1, A1, na.mono (fun dk q2 w F2 H2 e2 r2 => ?_) (fun _ _ z => z) q1⟩
    have A2 := A1.go e2
    obtain ⟨_, hu2⟩ := ext_dT (e1.trans e2) nF hu
    cases r2 with
    | tup rt lt =>
      rename_i b us xs
      unfold tkey at q2
      cases hk : keysOf xs with
      | none => simp only [hk] at q2; exact (show False from q2).elim
      | some ks =>
        simp only [hk] at q2
        obtain ⟨hz, q2⟩ := q2
        have hb : H2 b = some (.tup (ks.map kV)) := by
          rw [← keysOf_rp lt hk]
          exact tup_of A2.ok rt
        exact ⟨l, _, rfl, DPut.t hu2 hb (by rw [rpkv_len r]; exact hz), q2 F2 σ _ (e1.ex.trans e2.ex) (A2.put hi e ⟨_, rfl, rpkv_put ks (r1.ex e2.ex) (rpkv_ex (e1.ex.trans e2.ex) r)⟩)⟩
    | _ => exact (show False from q2).elim) (fun _ _ z => z) q⟩
/-- tuples that stand in the heap become known -/
theorem learn {Z : Zt} {H : Hp} : ∀ {kvs : List (List Key × V)} {bs : List Addr} {F : Ty}, Okk F H → IsKeys H kvs bs → ∃ F', Ext F H F' H ∧ RpL Z F' (bs.map V.ref) (kvs.map fun kv => .tup (kv.1.map keyD))
  | _, _, F, ok, .nil => ⟨F, Ext.refl ok, .nil⟩
  | _, _, F, ok, .cons (a := kv) (b := b) h t => by
    obtain ⟨F1, e1, l1⟩ := learn ok t
    cases q : F1 b with
    | some p =>
      obtain ⟨o, ho, po, ht⟩ := e1.ok.at_ _ _ q
      rw [h] at ho
      cases ho
      rw [ht.1 ⟨_, rfl⟩] at q
      exact ⟨F1, e1, .cons (.tup q (keyD_rp _)) l1⟩
    | none =>
      have ex' : Ex F1 (updT F1 b (is (.tup (kv.1.map kV)))) := fun c p z => by
        by_cases hb : c = b
        · subst hb; rw [q] at z; cases z
        · rw [updT_ne hb]; exact z
      have e2 : Ext F1 H (updT F1 b (is (.tup (kv.1.map kV)))) H := by
        refine ⟨ex', e1.ok.learn q h ⟨fun _ z => (by cases z), fun _ _ z => (by unfold LamX.CodeO at z; cases z)⟩, fun c u z nb _ => ?_⟩
        · by_cases hb : c = b
          · subst hb
            rw [h] at z
            cases z
            exact ⟨h, .inr ⟨updT_same, _, rfl⟩⟩
          · rw [updT_ne hb]; exact ⟨z, .inl nb⟩
      exact ⟨_, e1.trans e2, .cons (.tup updT_same (keyD_rp _)) (l1.ex ex')⟩
/-- list(d) of such a dict -/
theorem de_listT {i : Nat} {x : Str} {px p : Pos} {kvs : List (List Key × D)} (hc : X.calm = true) (hm : X.mg "list" = none) (hi : S[i]? = some (.own (.dT kvs))) (hN : X.N[i]? = some x) (hg : Gl X "list" := by rfl) (hv : Vis X.env.scope x := by first | exact Or.inl rfl | exact Or.inr (Or.inl rfl) | exact Or.inr (Or.inr rfl))
    (hd : (x == ("__debug__" : Str)) = false := by decide) (hcd : (x == ("__classdict__" : Str)) = false := by decide) (he : starEach (.Name x px :: []) X.env = (false, eval (.Name x px) X.env) :: starEach [] X.env := by rfl) (hpl : (backTo pos (starEach [] X.env)).any (·.1) = false := by rfl) :
    PE X (.Call (.Name "list" p) [.Name x px] [] pos) (eV G S (.ok (.lst (kvs.map fun kv => .tup (kv.1.map keyD))))) :=
  PE.imp (pe_callTy (call_list_dT hc) hg hm (by decide +kernel) (pa_cons (pe_var (i := i) hN hv hd hcd) pa_nil he) (by decide) (by decide) he hpl) fun σ H Q ⟨F, A, q⟩ => by
    obtain ⟨l, u, e, hu, nF, nB, vs, eu, r⟩ := A.sl i _ hi
    subst eu
    refine ⟨.ref l, e, l, vs, rfl, .inl hu, fun p bs hp hk => ?_⟩
    obtain ⟨F', e1, l1⟩ := learn (Z := G.Z) A.ok hk
    have e2 : (vs.map fun kv => D.tup (kv.1.map keyD)) = kvs.map fun kv => D.tup (kv.1.map keyD) := by
      have h1 : (vs.map fun kv => D.tup (kv.1.map keyD)) = (vs.map (·.1)).map fun k => D.tup (k.map keyD) := by rw [List.map_map]; rfl
      have h2 : (kvs.map fun kv => D.tup (kv.1.map keyD)) = (kvs.map (·.1)).map fun k => D.tup (k.map keyD) := by rw [List.map_map]; rfl
      rw [h1, h2, r.1]
    rw [e2] at l1
    obtain ⟨e3, r3⟩ := new_lst e1.ok hp l1
    exact q _ _ _ (e1.trans e3) r3
end
end M

set_option Elab.async false
set_option linter.all false
set_option maxRecDepth 100000
set_option maxHeartbeats 2000000
namespace M
open PySem L2
/-! ### calls with defaults and keywords -/
section
variable {X : Cx} {G : Gx} {S : List Sl} {a b c e : Expr} {na nb : N D} {pos : Pos}
/-- a call's way to a def: np positional arguments, keywords ks; gD puts their data in the parameters' order, defaults among them -/
structure CalG (X : Cx) (G : Gx) (x : Str) (np : Nat) (ks : List Str) (gD : List D → List D → List D) (n : Nat) (m : List D → N D) : Prop where
  ex : ∃ (k : Nat) (f : Addr) (fd : FuncData) (ps : List Str) (g : List Value → List Value → List Value) (gV : List V → List V → List V), FnOk X.prog X.w X.K X.mg X.base (L2.CX X.prog X.w) k f fd ps (spN G.Z n m) ∧ Room k X.A ∧ X.mg x = some (.ref f) ∧ PySem.W.keepIn X.K (.ref f) = true ∧
    KBn X.K fd ps np ks g gV ∧ ∀ F vs ds zs es, RpL G.Z F vs ds → RpL G.Z F zs es → vs.length = np → zs.length = ks.length → RpL G.Z F (gV vs zs) (gD ds es)
  ar : Arity n m
theorem runG {np n : Nat} {ks : List Str} {m : List D → N D} {k : Nat} {f : Addr} {fd : FuncData} {ps : List Str} {g : List Value → List Value → List Value} {gV : List V → List V → List V}
    {pins : List (Addr × Obj)} {σ : St} {H : Hp} {s : Shared} {Q : VK} {us ws : List Value} {vs zs : List V} (F : FnOk X.prog X.w X.K X.mg X.base (L2.CX X.prog X.w) k f fd ps (spN G.Z n m)) (hr : Room k X.A) (hb : KBn X.K fd ps np ks g gV) (tk : Takes X G.W)
    (I : Inv X pins σ H s) (r : Vals vs us) (rz : Vals zs ws) (l1 : vs.length = np) (l2 : zs.length = ks.length) (h : spN G.Z n m (gV vs zs) H Q (WE G.W σ)) : wpAny (model X.prog X.w) X.A (call (.ref f) us (ks.zip ws)) (EP X pins σ Q) X.xe s := by
  have r2 := hb.rel r rz
  refine wpAny_call (codeAny_mono (F.run X.A X.stack s H ⟨us, ks.zip ws⟩ (g us ws) (gV vs zs) Q (WE G.W σ) hr I.env0 (hb.to s us ws I.kIn (r.length.symm.trans l1) (rz.length.symm.trans l2)) r2 h) fun r s' hq => ?_)
  cases r with
  | error e => exact passAt tk σ pins H s e s' I hq
  | ok fl =>
    cases fl with
    | ret u => exact I.after hq
    | next => exact False.elim hq
    | brk => exact False.elim hq
    | cont => exact False.elim hq
def N.lens (ds es : List D) (n m : Nat) : N Unit := N.asrt (ds.length = n ∧ es.length = m)
/-- f(e, ..), the rest by defaults -/
theorem de_callDf {x : Str} {np n : Nat} {gD : List D → List D → List D} {m : List D → N D} {p : Pos} {es : List Expr} {na : N (List D)} (C : CalG X G x np [] gD n m) (tk : Takes X G.W) (hw : Wk S G.Se)
    (ha : PA X (e :: es) (aV G S na)) (hg : Gl X x := by rfl) (hdb : (x == ("__debug__" : Str)) = false := by decide) (he : starEach (e :: es) X.env = (false, eval e X.env) :: starEach es X.env := by rfl) (hpl : (backTo pos (starEach es X.env)).any (·.1) = false := by rfl) :
    PE X (.Call (.Name x p) (e :: es) [] pos) (eV G S (na.bind fun ds => (N.asrt (ds.length = np)).bind fun _ => m (gD ds []))) := by
  obtain ⟨k, f, fd, ps, g, gV, Fn, hr, hm, hk, hb, hd⟩ := C.ex
  refine ⟨fun pins s σ H Q I ⟨F, A, q⟩ => ?_⟩
  refine wpAny_Call_Name_kw (ld_glob I hg hm ?_ hdb)
  refine PySem.W.callWith_K (h₀ := X.base) I.ok.mod.kin hk (thn (ha.run pos pins s σ H (fun vs H1 => vs.length = np ∧ spN G.Z n m (gV vs []) H1 Q (WE G.W σ)) I ⟨F, A, na.mono (fun ds q1 vs F1 H1 e1 r1 => ?_) (fun _ _ z => z) q⟩) fun us s1 ⟨vs, H1, I1, r, l1, q1⟩ => ⟨I1.kIn, ?_⟩) he hpl
  · exact ⟨r1.length.trans q1.1, call_post C.ar hw A e1 (hd F1 vs ds [] [] r1 .nil (r1.length.trans q1.1) rfl) q1.2⟩
  · exact runG (ws := []) (zs := []) Fn hr hb tk I1 r .nil l1 rfl q1
/-- f(k = e, ..) -/
theorem de_callKw0 {x : Str} {n : Nat} {ks : List Str} {gD : List D → List D → List D} {m : List D → N D} {p : Pos} {kws : List Keyword} {nk : N (List D)} (C : CalG X G x 0 ks gD n m) (tk : Takes X G.W) (hw : Wk S G.Se)
    (hkw : PK X kws (aV G S nk)) (hg : Gl X x := by rfl) (hdb : (x == ("__debug__" : Str)) = false := by decide) (hall : (backToKw pos (keywordEach kws X.env)).all (·.1.isSome) = true := by rfl) (hks : (backToKw pos (keywordEach kws X.env)).filterMap (·.1) = ks := by rfl)
    (hpl : ((backTo pos (starEach [] X.env)).any (·.1) || (backToKw pos (keywordEach kws X.env)).any (·.1.isNone)) = false := by rfl) :
    PE X (.Call (.Name x p) [] kws pos) (eV G S (nk.bind fun es => (N.asrt (es.length = ks.length)).bind fun _ => m (gD [] es))) := by
  obtain ⟨k, f, fd, ps, g, gV, Fn, hr, hm, hk, hb, hd⟩ := C.ex
  refine ⟨fun pins s σ H Q I ⟨F, A, q⟩ => ?_⟩
  refine wpAny_Call_Name_kw (ld_glob I hg hm ?_ hdb)
  refine PySem.W.callWith_KW0 (h₀ := X.base) I.ok.mod.kin hk hall (thn (hkw.run pos pins s σ H (fun zs H1 => zs.length = ks.length ∧ spN G.Z n m (gV [] zs) H1 Q (WE G.W σ)) I ⟨F, A, nk.mono (fun es q1 vs F1 H1 e1 r1 => ?_) (fun _ _ z => z) q⟩) fun ws s1 ⟨zs, H1, I1, r, l1, q1⟩ => ⟨I1.kIn, ?_⟩) hpl
  · exact ⟨r1.length.trans q1.1, call_post C.ar hw A e1 (hd F1 [] [] vs es .nil r1 rfl (r1.length.trans q1.1)) q1.2⟩
  · rw [hks]
    exact runG (us := []) (vs := []) Fn hr hb tk I1 .nil r rfl l1 q1
end

/-! ### try -/
section
variable {X : Cx} {G : Gx} {S : List Sl} {τ β : Type} {sl : τ → List Sl} {sb : β → List Sl} {na nb : N D} {pos : Pos} {body : List Stmt}
/-- a clause by data: the class's number, the slot of its name, what the suite does with what the error keeps -/
structure Hd (τ β : Type) where
  ci : Nat
  i : Option Nat
  m : D → N (Fl τ β)
/-- which classes' errors a clause of a class takes (by numbers) -/
def handle {τ β : Type} (ex : Nat → Nat → Bool) (nE : Nat) (c : Nat) (x : D) : List (Hd τ β) → N (Fl τ β)
  | [] => (N.asrt (c < nE)).bind fun _ => .err c x
  | h :: hs => (N.asrt (c < nE)).bind fun _ => if ex c h.ci = true then N.ne (h.m x) else handle ex nE c x hs
/-- within a suite -/
def Gx.suite (G : Gx) (n : Nat) : Gx := { G with W := fun _ _ _ _ => False, Se := List.replicate n .un }
def clS (i : Option Nat) (a : Addr) (d : Option Addr) (f : String) (x : D) (S : List Sl) : List Sl := match i with
  | none => S
  | some i => S.set i (.exc a d f x)
theorem At.setExc {Z : Zt} {B : Bs} {F : Ty} {σ : St} {H : Hp} (h : At Z B S F σ H) {i : Nat} {a : Addr} {d : Option Addr} {f : String} {x : D} (he : Keeps Z F f x d) (hi : i < S.length) : At Z B (S.set i (.exc a d f x)) F (σ.set i (some (.ref a))) H :=
  h.setNo (fun _ => ⟨rfl, he⟩) fun _ z => by cases z
/-- e.f in a suite -/
theorem de_exc {Gs : Gx} {a : Addr} {oe : Obj} {cls : Value} {d : Option Addr} {pn : List (Addr × Obj)} {f : String} {i : Nat} {y x : Str} {p : Pos} {dt : D} (hi : S[i]? = some (.exc a d f dt))
    (hT : ∀ C, cls = .ref C → ∃ nm fI, PySem.TErr.ETxt X.K X.mg nm f C fI) (hc : ∃ C, cls = .ref C) (hz : Zc cls d oe) (hf : ∃ vs, oe.data = .fields vs) (hN : (X.suite a ((a, oe) :: pn)).N[i]? = some y) (hx : x = PySem.Str.ofString f := by rfl)
    (hv : Vis (X.suite a ((a, oe) :: pn)).env.scope y := by first | exact Or.inl rfl | exact Or.inr (Or.inl rfl) | exact Or.inr (Or.inr rfl)) (hd : (y == ("__debug__" : Str)) = false := by decide) (hcd : (y == ("__classdict__" : Str)) = false := by decide)
    (hb : attributeBase (.Name y p) x X.env (eval (.Name y p) X.env) = eval (.Name y p) X.env := by rfl) : PE (X.suite a ((a, oe) :: pn)) (.Attribute (.Name y p) x pos) (eV Gs S (.ok dt)) :=
  PE.imp (pe_getE hT hz hf (pe_var (i := i) hN hv hd hcd) hx hb) fun σ H Q ⟨F, A, q⟩ => by
    obtain ⟨e, kp⟩ := A.sl i _ hi
    obtain ⟨C, hC⟩ := hc
    obtain ⟨nm, fI, T⟩ := hT C hC
    obtain ⟨dd, v, h1, h2, r⟩ : ∃ dd v, d = some dd ∧ F dd = some (is (.xd [(PySem.Str.ofString f, v)])) ∧ Rp Gs.Z F v dt := by
      rcases kp with ⟨z, _⟩ | ⟨_, z⟩
      · exact (fld_ne T.fld z).elim
      · exact z
    exact ⟨.ref a, e, rfl, C, dd, v, hC, h1, tup_of A.ok h2, q v F H (Ext.refl A.ok) r⟩
/-- the suites of a try's clauses -/
inductive Cls (X : Cx) (G : Gx) (ex : Nat → Nat → Bool) (nE : Nat) (Sh : List Sl) (sl : τ → List Sl) (sb : β → List Sl) : List ExceptHandler → List (Hd τ β) → List Cl → Prop
  | nil : Cls X G ex nE Sh sl sb [] [] []
  | cons {x : Str} {n : Option Str} {h : Hd τ β} {b₀ : Stmt} {suite : List Stmt} {np pos' : Pos} {hds : List ExceptHandler} {hs : List (Hd τ β)} {cs : List Cl} (hc : Names X x (.ref (G.Z.cs h.ci))) (hn : ClName X n h.i) (hi : ∀ i, h.i = some i → i < Sh.length)
      (hx : ∀ c, c < nE → PySem.W.exmOne X.K (.ref (G.Z.cs c)) (.ref (G.Z.cs h.ci)) = some (ex c h.ci))
      (hsu : ∀ (a : Addr) (oe : Obj) (c : Nat) (d : Option Addr) (pn : List (Addr × Obj)) (dt : D), c < nE → ex c h.ci = true → Zc (.ref (G.Z.cs c)) d oe → (∃ vs, oe.data = .fields vs) → PSs (X.suite a ((a, oe) :: pn)) (b₀ :: suite) (sV (G.suite Sh.length) (clS h.i a d (G.Z.fs c) dt Sh) sl sb (h.m dt)))
      (hw : ∀ i t, h.i = some i → (sl t).set i .un = sl t) (hwb : ∀ i t, h.i = some i → (sb t).set i .un = sb t)
      (r : Cls X G ex nE Sh sl sb hds hs cs) :
      Cls X G ex nE Sh sl sb (.ExceptHandler (some (.Name x np)) n (b₀ :: suite) pos' :: hds) (h :: hs)
        ({ c := .ref (G.Z.cs h.ci), i := h.i, ts := fun a cls d E σ H => ∃ (c : Nat) (dt : D), c < nE ∧ ex c h.ci = true ∧ cls = .ref (G.Z.cs c) ∧ sV (G.suite Sh.length) (clS h.i a d (G.Z.fs c) dt Sh) sl sb (h.m dt) E σ H } :: cs)
theorem Cls.ok {ex : Nat → Nat → Bool} {nE : Nat} {Sh : List Sl} {hds : List ExceptHandler} {hs : List (Hd τ β)} {cs : List Cl} (h : Cls X G ex nE Sh sl sb hds hs cs) : ClsOk X hds cs := by
  induction h with
  | nil => exact .nil
  | cons hc hn hi hx hsu hw hwb r ih =>
    refine .cons hc hn (fun a oe cls d pn hz hf => ?_) ih
    refine ⟨fun pins s σ H E I ⟨c, dt, hc1, hc2, hcls, q⟩ => ?_⟩
    subst hcls
    exact (hsu a oe c d pn dt hc1 hc2 hz hf).run pins s σ H E I q
/-- the wish of the body's errors, from what the clauses do by data -/
theorem Cls.wish {ex : Nat → Nat → Bool} {nE : Nat} {Sh : List Sl} {hds : List ExceptHandler} {hs : List (Hd τ β)} {cs : List Cl} (h : Cls X G ex nE Sh sl sb hds hs cs) (hK : G.Z.K = X.K) (hsw : Wk Sh G.Se) {F0 : Ty} {E : Ends} {c : Nat} {dt : D} {cls : Value} {dd : Option Addr} {F : Ty} {σ : St} {H : Hp}
    (e0 : Ex F0 F) (A : At G.Z G.B Sh F σ H) (er : ErrIs G.Z F c dt cls dd) (q : (handle ex nE c dt hs).wp (flP G F0 sl sb E) G.Er) : wCl X.K G.W E cs cls dd σ H := by
  induction h with
  | nil => exact q.2 cls dd F σ H (A.weak hsw) er
  | @cons x n h b₀ suite np pos' hds hs cs hc hn hi hx hsu hw hwb r ih =>
    obtain ⟨hlt, q⟩ := q
    obtain ⟨hcls, kp⟩ := er
    subst hcls
    refine ⟨ex c h.ci, hx c hlt, fun hy a ha => ?_, fun hno => ?_⟩
    · rw [if_pos hy] at q
      refine ⟨c, dt, hlt, hy, rfl, F, ?_, ?_⟩
      · cases hi' : h.i with
        | none => exact A
        | some i =>
          show At G.Z G.B (Sh.set i (.exc a dd (G.Z.fs c) dt)) F (σ.set i (some (.ref a))) H
          exact A.setExc kp (hi i hi')
      · refine (h.m dt).mono (fun f z => ?_) (fun c' x' z => ?_) q
        · have z := flP.ex G e0 z
          cases hi' : h.i with
          | none => exact z
          | some i =>
            cases f with
            | nx t => exact fun F' σ' H' e' A' => z F' _ H' e' (by have := A'.unset (i := i) (o := none); rw [hw i t hi'] at this; exact this)
            | bk t => exact fun F' σ' H' e' A' => z F' _ H' e' (by have := A'.unset (i := i) (o := none); rw [hwb i t hi'] at this; exact this)
            | ct t => exact fun F' σ' H' e' A' => z F' _ H' e' (by have := A'.unset (i := i) (o := none); rw [hwb i t hi'] at this; exact this)
            | rt d => exact z
        · exact z.elim
    · rw [if_neg (by rw [hno]; decide)] at q
      exact ih q
theorem At.base {Z : Zt} {B : Bs} {F F0 : Ty} {σ : St} {H : Hp} (h : At Z B S F σ H) (e : Ex F0 F) : At Z { B with Fe := F0 } S F σ H := ⟨h.ext, e, h.len, h.sl, h.dis, h.tl⟩
theorem At.unbase {Z : Zt} {B : Bs} {F F0 : Ty} {σ : St} {H : Hp} (h : At Z { B with Fe := F0 } S F σ H) (e : Ex B.Fe F0) : At Z B S F σ H := ⟨h.ext, e.trans h.fe, h.len, h.sl, h.dis, h.tl⟩
/-- within a try's body: what is wished of errors is W's, the slots then are Sh -/
def Gx.tr (G : Gx) (W : WX) (Sh : List Sl) (F0 : Ty) : Gx := { G with W := W, Se := Sh, B := { G.B with Fe := F0 } }
theorem ds_try {ex : Nat → Nat → Bool} {nE : Nat} {Sh : List Sl} {h₀ : ExceptHandler} {hds : List ExceptHandler} {hs : List (Hd τ β)} {cs : List Cl} {n : N (Fl τ β)} (hst : X.stack = X.env :: X.outer) (hf : X.env.frame = some X.env.locals) (hN : X.N.Nodup) (tk : Takes X G.W) (hK : G.Z.K = X.K)
    (hsw : Wk Sh G.Se) (hh : Cls X G ex nE Sh sl sb (h₀ :: hds) hs cs)
    (hb : ∀ (F0 : Ty) (W : WX) (pn : List (Addr × Obj)) (xe : Value → Shared → Prop), Takes (X.tr pn xe) W → PassesOwn (model X.prog X.w) X.A X.env xe → PSs (X.tr pn xe) body (sV (G.tr W Sh F0) S sl sb n)) :
    PS X (.Try body (h₀ :: hds) [] [] pos) (sV G S sl sb (n.tryC fun c x => handle ex nE c x hs)) := by
  refine PS.imp (ps_try_cls (tb := fun W E σ H => ∃ F0, sV (G.tr W Sh F0) S sl sb n E σ H) hst hf hN tk (fun W pn xe t p => PSs.ex fun F0 => hb F0 W pn xe t p) hh.ok) fun E σ H ⟨F, A, q⟩ => ?_
  refine ⟨F, F, A.base (Ex.refl F), n.mono (fun f z => ?_) (fun c x z => ?_) q⟩
  · cases f with
    | nx t => exact fun F' σ' H' e A' => z F' σ' H' e (A'.unbase A.fe)
    | bk t => exact fun F' σ' H' e A' => z F' σ' H' e (A'.unbase A.fe)
    | ct t => exact fun F' σ' H' e A' => z F' σ' H' e (A'.unbase A.fe)
    | rt d => exact z
  · intro cls dd F' σ' H' A' er
    exact hh.wish hK hsw A'.fe (A'.unbase A.fe) er z
end
end M

set_option Elab.async false
set_option linter.all false
set_option maxRecDepth 100000
set_option maxHeartbeats 2000000
namespace M
open PySem L2
section
variable {X : Cx} {G : Gx} {S : List Sl} {τ β : Type} {sl : τ → List Sl} {sb : β → List Sl} {a b c e : Expr} {na nb nc : N D} {pos : Pos}
def dNeg : D → N D
  | .int i => .ok (.int (-i))
  | _ => .stuck
theorem dNeg_tot (x : D) : Tot (dNeg x) := by
  unfold dNeg
  split <;> first | exact Tot.ok _ | exact Tot.stuck
theorem de_neg (ha : PE X a (eV G S na)) : PE X (.UnaryOp .USub a pos) (eV G S (na.bind dNeg)) := de_un un_neg (fun F H x v Q ok r q => by
  cases x with
  | int i => exact ⟨i, rp_int r, q _ F H (Ext.refl ok) (.int _)⟩
  | _ => exact (show False from q).elim) dNeg_tot ha
/-- x in t, at any depth -/
def pIn (x y : D) : N Bool := match toPy x, items y with
  | some p, some ys => match toPys ys with
    | some ps => (N.asrt (SeqAt.shaped p = true ∧ SeqAt.shaped (.list ps) = true)).bind fun _ => .ok (ps.any fun z => PyData.eqv z p)
    | none => .stuck
  | _, _ => .stuck
theorem pIn_tot (x y : D) : Tot (pIn x y) := by
  unfold pIn
  split
  · split
    · exact (Tot.asrt _).bind fun _ => Tot.ok _
    · exact Tot.stuck
  · exact Tot.stuck
def dInD (x y : D) : N D := (pIn x y).bind fun b => .ok (.bl b)
def dNotInD (x y : D) : N D := (pIn x y).bind fun b => .ok (.bl (!b))
theorem dInD_tot (x y : D) : Tot (dInD x y) := (pIn_tot x y).bind fun _ => Tot.ok _
theorem dNotInD_tot (x y : D) : Tot (dNotInD x y) := (pIn_tot x y).bind fun _ => Tot.ok _
def rInDD (K : PySem.W.Frag) (neg : Bool) : R2 := fun x y H Q => ∃ d ds, Dp K H x d ∧ (Dp K H y (.list ds) ∨ Dp K H y (.tuple ds)) ∧ SeqAt.shaped d = true ∧ SeqAt.shaped (.list ds) = true ∧ Q (.bl (if neg then !ds.any fun z => PyData.eqv z d else ds.any fun z => PyData.eqv z d)) H
theorem shaped_tuple {ds : List PyData} (h : SeqAt.shaped (.list ds) = true) : PyData.canLayAll0 ds = true := SeqAt.canLay_of_shaped h
theorem op_inDD {k : Nat} (hr : Room k X.A) (hu : X.A.units + 65 < cLine) : OpR X (compareOp .In) (rInDD X.K false) := by
  intro pins s σ H x y v u Q I rx ry h
  obtain ⟨d, ds, hd, he, sd, se, q⟩ := h
  obtain ⟨as, r1⟩ := Dp.reads I d x v hd rx
  rcases he with he | he
  · obtain ⟨bs, r2⟩ := Dp.reads I (.list ds) y u he ry
    exact SeqAt.in_list_reads r2 r1 (SeqAt.canLay_of_shaped se) (SeqAt.canLay_of_shaped sd) (PyProof.Rows.room_in_shaped sd hu) ⟨.bl _, H, I, rfl, q⟩
  · obtain ⟨bs, r2⟩ := Dp.reads I (.tuple ds) y u he ry
    exact SeqAt.in_tuple_reads r2 r1 (shaped_tuple se) (SeqAt.canLay_of_shaped sd) (PyProof.Rows.room_in_shaped sd hu) ⟨.bl _, H, I, rfl, q⟩
theorem op_notInDD {k : Nat} (hr : Room k X.A) (hu : X.A.units + 65 < cLine) : OpR X (compareOp .NotIn) (rInDD X.K true) := by
  intro pins s σ H x y v u Q I rx ry h
  obtain ⟨d, ds, hd, he, sd, se, q⟩ := h
  obtain ⟨as, r1⟩ := Dp.reads I d x v hd rx
  rcases he with he | he
  · obtain ⟨bs, r2⟩ := Dp.reads I (.list ds) y u he ry
    exact SeqAt.notIn_list_reads r2 r1 (SeqAt.canLay_of_shaped se) (SeqAt.canLay_of_shaped sd) (PyProof.Rows.room_in_shaped sd hu) ⟨.bl _, H, I, rfl, q⟩
  · obtain ⟨bs, r2⟩ := Dp.reads I (.tuple ds) y u he ry
    exact SeqAt.notIn_tuple_reads r2 r1 (shaped_tuple se) (SeqAt.canLay_of_shaped sd) (PyProof.Rows.room_in_shaped sd hu) ⟨.bl _, H, I, rfl, q⟩
theorem in_data {F : Ty} {H : Hp} {v u : V} {x y : D} {Q : VK} {neg : Bool} (ok : Okk F H) (rx : Rp G.Z F v x) (ry : Rp G.Z F u y) (q : (pIn x y).wp (fun b => Q (.bl (if neg then !b else b)) H) (fun _ _ => False)) : rInDD G.Z.K neg v u H Q := by
  unfold pIn at q
  cases hx : toPy x with
  | none => simp only [hx] at q; exact q.elim
  | some p =>
    cases ry with
    | tup r l =>
      rename_i a vs ys
      cases hy : toPys ys with
      | none => simp only [hx, items, hy] at q; exact q.elim
      | some ps =>
        simp only [hx, items, hy] at q
        exact ⟨p, ps, dp_of ok rx hx, .inr (.tup (sqT_of ok r) (dps_of ok l hy)), q.1.1, q.1.2, by cases neg <;> exact q.2⟩
    | ktup r l =>
      rename_i a vs ys
      cases hy : toPys ys with
      | none => simp only [hx, items, hy] at q; exact q.elim
      | some ps =>
        simp only [hx, items, hy] at q
        exact ⟨p, ps, dp_of ok rx hx, .inr (.tup (.inr r) (dps_of ok l hy)), q.1.1, q.1.2, by cases neg <;> exact q.2⟩
    | lst r l =>
      rename_i a vs ys
      cases hy : toPys ys with
      | none => simp only [hx, items, hy] at q; exact q.elim
      | some ps =>
        simp only [hx, items, hy] at q
        exact ⟨p, ps, dp_of ok rx hx, .inl (.lst (RL.sq ok r) (dps_of ok l hy)), q.1.1, q.1.2, by cases neg <;> exact q.2⟩
    | _ => simp only [hx, items] at q; exact q.elim
theorem r2_InD : R2D G (rInDD G.Z.K false) dInD := fun F H x y v u Q ok rx ry q => in_data ok rx ry ((pIn x y).mono (fun b z => z _ F H (Ext.refl ok) (.bl _)) (fun _ _ z => z) q)
theorem r2_NotInD : R2D G (rInDD G.Z.K true) dNotInD := fun F H x y v u Q ok rx ry q => in_data ok rx ry ((pIn x y).mono (fun b z => z _ F H (Ext.refl ok) (.bl _)) (fun _ _ z => z) q)
theorem room65 {k : Nat} {A : Around} (h : Room k A) : A.units + 65 < cLine := by
  have := h.un
  omega
theorem de_inD {k : Nat} (hr : Room k X.A) (hK : G.Z.K = X.K) (ha : PE X a (eV G S na)) (hb : PE X b (eV G S nb)) (hm : behindInMarks .In b = false := by rfl) : PE X (.Compare a [.In] [b] pos) (eV G S (na.bind fun x => nb.bind fun y => dInD x y)) :=
  de_cmp (op_inDD hr (room65 hr)) (by rw [← hK]; exact r2_InD) dInD_tot ha hb hm
theorem de_notInD {k : Nat} (hr : Room k X.A) (hK : G.Z.K = X.K) (ha : PE X a (eV G S na)) (hb : PE X b (eV G S nb)) (hm : behindInMarks .NotIn b = false := by rfl) : PE X (.Compare a [.NotIn] [b] pos) (eV G S (na.bind fun x => nb.bind fun y => dNotInD x y)) :=
  de_cmp (op_notInDD hr (room65 hr)) (by rw [← hK]; exact r2_NotInD) dNotInD_tot ha hb hm

/-! a list that is still changed, read -/
theorem own_at {i : Nat} {ds : List D} {F : Ty} {σ : St} {H : Hp} (hi : S[i]? = some (.own (.lst ds))) (A : At G.Z G.B S F σ H) : ∃ l vs, σ[i]? = some (some (.ref l)) ∧ H l = some (.lst vs) ∧ F l = none ∧ RpL G.Z F vs ds := by
  obtain ⟨l, u, e, hu, nF, nB, vs, eu, r⟩ := A.sl i _ hi
  subst eu
  exact ⟨l, vs, e, hu, nF, r⟩
/-- e not in x -/
theorem de_notInO {i : Nat} {x : Str} {px : Pos} {ds : List D} {k : Nat} (hr : Room k X.A) (hK : G.Z.K = X.K) (hi : S[i]? = some (.own (.lst ds))) (hN : X.N[i]? = some x) (ha : PE X a (eV G S na)) (hv : Vis X.env.scope x := by first | exact Or.inl rfl | exact Or.inr (Or.inl rfl) | exact Or.inr (Or.inr rfl))
    (hd : (x == ("__debug__" : Str)) = false := by decide) (hcd : (x == ("__classdict__" : Str)) = false := by decide) (hm : behindInMarks .NotIn (.Name x px) = false := by rfl) : PE X (.Compare a [.NotIn] [.Name x px] pos) (eV G S (na.bind fun d => dNotInD d (.lst ds))) :=
  PE.imp (pe_cmpR (op_notInDD hr (room65 hr)) ha (pe_var (i := i) hN hv hd hcd) hm) fun σ H Q ⟨F, A, q⟩ => ⟨F, A, na.mono (fun d q1 v F1 H1 e1 r1 => by
    obtain ⟨l, vs, e, hu, nF, r⟩ := own_at hi A
    obtain ⟨hF1, hu1⟩ := ext_lst e1 nF hu
    refine ⟨.ref l, e, ?_⟩
    have q1 : (pIn d (.lst ds)).wp (fun b => ∀ v F' H', Ext F H F' H' → Rp G.Z F' v (.bl (!b)) → Q v H') G.Er := q1
    rw [← hK]
    unfold pIn at q1
    cases hx : toPy d with
    | none => simp only [hx] at q1; exact q1.elim
    | some p =>
      cases hy : toPys ds with
      | none => simp only [hx, items, hy] at q1; exact q1.elim
      | some ps =>
        simp only [hx, items, hy] at q1
        exact ⟨p, ps, dp_of (A.go e1).ok r1 hx, .inl (.lst (SqL.of hu1) (dps_of (A.go e1).ok (r.ex e1.ex) hy)), q1.1.1, q1.1.2, q1.2 _ F1 H1 e1 (.bl _)⟩) (fun _ _ z => z) q⟩
/-- tuple(x) -/
theorem de_tupleO {i : Nat} {x : Str} {px p : Pos} {ds : List D} (hm : X.mg "tuple" = none) (hi : S[i]? = some (.own (.lst ds))) (hN : X.N[i]? = some x) (hg : Gl X "tuple" := by rfl) (hv : Vis X.env.scope x := by first | exact Or.inl rfl | exact Or.inr (Or.inl rfl) | exact Or.inr (Or.inr rfl))
    (hd : (x == ("__debug__" : Str)) = false := by decide) (hcd : (x == ("__classdict__" : Str)) = false := by decide) (he : starEach (.Name x px :: []) X.env = (false, eval (.Name x px) X.env) :: starEach [] X.env := by rfl) (hpl : (backTo pos (starEach [] X.env)).any (·.1) = false := by rfl) :
    PE X (.Call (.Name "tuple" p) [.Name x px] [] pos) (eV G S (.ok (.tup ds))) :=
  PE.imp (pe_callTy call_tuple_of hg hm (by decide +kernel) (pa_cons (pe_var (i := i) hN hv hd hcd) pa_nil he) (by decide) (by decide) he hpl) fun σ H Q ⟨F, A, q⟩ => by
    obtain ⟨l, vs, e, hu, nF, r⟩ := own_at hi A
    refine ⟨.ref l, e, l, vs, rfl, .inl ⟨SqL.of hu, fun p hp => ?_⟩⟩
    obtain ⟨e2, r2⟩ := new_tup A.ok hp r
    exact q _ _ _ e2 r2
/-- x[e] -/
theorem de_ixO {i : Nat} {x : Str} {px : Pos} {ds : List D} (hi : S[i]? = some (.own (.lst ds))) (hN : X.N[i]? = some x) (hb : PE X b (eV G S nb)) (hs : PlainIx b := by exact fun _ _ => rfl) (hv : Vis X.env.scope x := by first | exact Or.inl rfl | exact Or.inr (Or.inl rfl) | exact Or.inr (Or.inr rfl))
    (hd : (x == ("__debug__" : Str)) = false := by decide) (hcd : (x == ("__classdict__" : Str)) = false := by decide) : PE X (.Subscript (.Name x px) b pos) (eV G S (nb.bind fun y => dIx (.lst ds) y)) :=
  PE.imp (pe_ix ix_list (pe_var (i := i) hN hv hd hcd) hb hs) fun σ H Q ⟨F, A, q⟩ => by
    obtain ⟨l, vs, e, hu, nF, r⟩ := own_at hi A
    refine ⟨.ref l, e, F, A, nb.mono (fun y q1 u F1 H1 e1 r1 => ?_) (fun _ _ z => z) q⟩
    obtain ⟨hF1, hu1⟩ := ext_lst e1 nF hu
    cases y with
    | int j =>
      have eu := rp_int r1
      subst eu
      unfold dIx at q1
      simp only [items] at q1
      cases hd : L2.atI ds j with
      | none => simp only [hd] at q1; exact (show False from q1).elim
      | some d =>
        simp only [hd] at q1
        obtain ⟨w, hw, rw'⟩ := (r.ex e1.ex).atI hd
        exact ⟨l, vs, j, w, rfl, rfl, SqL.of hu1, hw, q1 w F1 H1 e1 rw'⟩
    | _ => exact (show False from q1).elim

/-! several names at once -/
/-- a, b = e, [] : the second one a list to be filled -/
theorem ds_parL {i j : Nat} {x y : Str} {px py pt pl : Pos} {kt k2 pt2} (hc : X.calm = true) (hN : X.N.Nodup) (ha : PE X a (eV G S na)) (hi : X.N[i]? = some x) (hj : X.N[j]? = some y) (hij : i ≠ j)
    (hx : X.env.scope.names.lookup x = some .local) (hy : X.env.scope.names.lookup y = some .local) (hw : swappedStores [.Tuple [.Name x px, .Name y py] kt pt] (.Tuple [a, .List [] pl] k2 pt2) X.env = pure (some [x, y]))
    (hs : swapsWithSole [.Tuple [.Name x px, .Name y py] kt pt] (.Tuple [a, .List [] pl] k2 pt2) pos.line X.env = pure false := by rfl) (he : starEach (a :: .List [] pl :: []) X.env = (false, eval a X.env) :: starEach [.List [] pl] X.env := by rfl)
    (he2 : starEach (.List [] pl :: []) X.env = (false, eval (.List [] pl) X.env) :: starEach [] X.env := by rfl) :
    PS X (.Assign [.Tuple [.Name x px, .Name y py] kt pt] (.Tuple [a, .List [] pl] k2 pt2) pos) (sV G S (fun d => (S.set i (.dat d)).set j (.own (.lst []))) sb (na.bind fun d => .ok (.nx d))) :=
  PS.imp (ps_par hc hN hi hj hij hx hy (pa_cons ha (pa_cons (pe_lst pa_nil) pa_nil he2) he) hw hs) fun E σ H ⟨F, A, q⟩ => ⟨F, A, na.mono (fun d q1 v F1 H1 e1 r1 => ⟨Nat.zero_le _, fun p hp => ⟨v, .ref p, rfl, by
    have A1 := ((A.go e1).set (i := i) r1).newOwn (i := j) (c := .lst []) hp ⟨[], rfl, .nil⟩
    exact q1 F1 _ _ e1.ex A1⟩⟩) (fun _ _ z => z) q⟩
/-- a, b, c = e, e a tuple of three -/
def three (d : D) : N (D × D × D) := match d with
  | .tup [x, y, z] => .ok (x, y, z)
  | _ => .stuck
theorem ds_unp3 {i j l : Nat} {x y z : Str} {px py pz pt : Pos} {kt} (hc : X.calm = true) (hK : G.Z.K = X.K) (hN : X.N.Nodup) (ha : PE X a (eV G S na)) (hi : X.N[i]? = some x) (hj : X.N[j]? = some y) (hl : X.N[l]? = some z)
    (hx : Loc X.env.scope x) (hy : Loc X.env.scope y) (hz : Loc X.env.scope z) (hfx : X.fn x = true ∨ X.env.scope.names.lookup x = some .local := by first | exact .inl rfl | exact .inr rfl) (hfy : X.fn y = true ∨ X.env.scope.names.lookup y = some .local := by first | exact .inl rfl | exact .inr rfl) (hfz : X.fn z = true ∨ X.env.scope.names.lookup z = some .local := by first | exact .inl rfl | exact .inr rfl)
    (hs : swapsWithSole [.Tuple [.Name x px, .Name y py, .Name z pz] kt pt] a pos.line X.env = pure false := by rfl) (hw : swappedStores [.Tuple [.Name x px, .Name y py, .Name z pz] kt pt] a X.env = pure none := by rfl)
    (hn : (assignEach [.Name x px, .Name y py, .Name z pz] X.env).length = 3 := by rfl) (hst : (assignEach [.Name x px, .Name y py, .Name z pz] X.env).findIdx? (·.1) = none := by rfl) :
    PS X (.Assign [.Tuple [.Name x px, .Name y py, .Name z pz] kt pt] a pos) (sV G S (fun t : D × D × D => ((S.set i (.dat t.1)).set j (.dat t.2.1)).set l (.dat t.2.2)) sb (na.bind fun d => (three d).bind fun t => .ok (.nx t))) :=
  PS.imp (ps_asg ha (pg_tup (n := 3) hc (pgs_cons (pg_name (i := i) hN hi hx hfx) (pgs_cons (pg_name (i := j) hN hj hy hfy) (pgs_cons (pg_name (i := l) hN hl hz hfz) pgs_nil))) hn hst) hs hw) fun E σ H ⟨F, A, q⟩ => ⟨F, A, na.mono (fun d q1 v F1 H1 e1 r1 => by
    have q1 : (three d).wp (fun t => flP G F (fun t : D × D × D => ((S.set i (.dat t.1)).set j (.dat t.2.1)).set l (.dat t.2.2)) sb E (.nx t)) G.Er := q1
    unfold three at q1
    split at q1
    · rename_i d1 d2 d3
      cases r1 with
      | tup r l =>
        rename_i a vs
        have A1 := A.go e1
        cases l with
        | cons r1 l =>
          cases l with
          | cons r2 l =>
            cases l with
            | cons r3 l =>
              cases l
              exact ⟨a, _, rfl, by rw [← hK]; exact sqT_of A1.ok r, rfl, _, _, rfl, _, _, rfl, _, _, rfl, rfl, (show ∀ F' σ' H', Ex F F' → _ → _ from q1) F1 _ H1 e1.ex (((A1.set r1).set r2).set r3)⟩
    · exact (show False from q1).elim) (fun _ _ z => z) q⟩

/-! [e for x in range(a, b) if ..] -/
def N.span (d e : D) : N (List Int) := match d, e with
  | .int a, .int b => (N.asrt ((-(2 ^ 62) ≤ a ∧ a < 2 ^ 62 ∧ -(2 ^ 62) ≤ b ∧ b < 2 ^ 62) ∧ (b - a).toNat ≤ sizeLine)).bind fun _ => .ok ((List.range (b - a).toNat).map fun i => a + ((i : Nat) : Int))
  | _, _ => .stuck
def TT2 (G : Gx) (n : Nat) (S : List Sl) (j : Nat) (tn : Int → N Bool) : TT := fun σ H Q => ∃ y : Int, tV (G.in n) ((S.set j .un).set j (.dat (.int y))) (tn y) σ H Q
def TE2 (G : Gx) (n : Nat) (S : List Sl) (j : Nat) (fn : Int → N D) : TE := fun σ H Q => ∃ y : Int, eV (G.in n) ((S.set j .un).set j (.dat (.int y))) (fn y) σ H Q
section
variable {elt : Expr} {ifs : List Expr} {scope : Scope}
theorem lcR_run {j : Nat} {tn : Int → N Bool} {fn : Int → N D} {n : Nat} {σ : St} {H : Hp} {Q : VK} (q : eV G S (na.bind fun d => nb.bind fun e => (N.span d e).bind fun xs => (N.comp tn fn xs).bind fun ys => .ok (.lst ys)) σ H Q) :
    tLc (iRng2 (aV G S (na.bind fun d => nb.bind fun e => .ok [d, e]))) (gName j) (TT2 G n S j tn) (TE2 G n S j fn) [j] σ H Q := by
  obtain ⟨F, A, q⟩ := q
  refine ⟨F, A, na.mono (fun d q1 => nb.mono (fun e q2 vs F1 H1 e1 r1 => ?_) (fun _ _ z => z) q1) (fun _ _ z => z) q⟩
  have A1 := A.go e1
  replace q2 : (N.span d e).wp (fun xs => (N.comp tn fn xs).wp (KQ G F H Q) G.Er) G.Er := q2
  clear q1 q
  unfold N.span at q2
  split at q2
  · rename_i lo hi
    obtain ⟨⟨hb, hz⟩, q2⟩ := q2
    cases r1 with
    | cons ra l =>
      cases l with
      | cons rb l =>
        cases l
        rw [rp_int ra, rp_int rb]
        refine ⟨lo, hi, rfl, hb, fun Dl hD => ?_⟩
        have hlen : ((List.range (hi - lo).toNat).map fun i => lo + ((i : Nat) : Int)).length = (hi - lo).toNat := by rw [List.length_map, List.length_range]
        refine lc_range (lo := lo) (n := (hi - lo).toNat) (g := gName j) (tt := TT2 G n S j tn) (te := TE2 G n S j fn) (fun i => CW G F1 H1 Dl tn fn (KQ G F H Q) G.Er (hi - lo).toNat i (((List.range (hi - lo).toNat).map fun i => lo + ((i : Nat) : Int)).drop i)) ⟨F1, [], [], Ext.own A1.ok hD, A1.ok.none hD, upd_same, .nil, Nat.zero_le _, q2⟩ ?_ ?_
        · rintro i H' hlt ⟨F', av, ad, e', hF', hA', r', hl', q'⟩
          have hdr : ((List.range (hi - lo).toNat).map fun i => lo + ((i : Nat) : Int)).drop i = (lo + (i : Int)) :: ((List.range (hi - lo).toNat).map fun i => lo + ((i : Nat) : Int)).drop (i + 1) := by
            rw [List.drop_eq_getElem_cons (by rw [hlen]; exact hlt)]
            simp
          rw [hdr] at q'
          refine ⟨wipe1 σ j _, ?_⟩
          exact comp_turn (n := n) (K := KQ G F H Q) (tt := TT2 G n S j tn) (te := TE2 G n S j fn) (S' := (S.set j .un).set j (.dat (.int (lo + (i : Int))))) hD e' hF' hA' r' hl' hlt hz (((A1.go e').wipe [j]).set (.int _)) q' (fun H Q z => ⟨_, z⟩) (fun H Q z => ⟨_, z⟩)
        · intro H' h
          have hdr : ((List.range (hi - lo).toNat).map fun i => lo + ((i : Nat) : Int)).drop (hi - lo).toNat = [] := by
            apply List.drop_eq_nil_of_le
            rw [hlen]
            exact Nat.le_refl _
          rw [hdr] at h
          exact comp_end e1 hD h
  · exact (show False from q2).elim
/-- y = [elt for x in range(a, b) if ..] -/
theorem ds_lcR {i j : Nat} {x y : Str} {px py pr pc pos' : Pos} {tn : Int → N Bool} {fn : Int → N D} {n : Nat} (hc : X.calm = true) (hN : X.N.Nodup) (hm : X.mg "range" = none) (ha : PE X a (eV G S na)) (hb : PE X b (eV G S nb)) (hy : X.N[i]? = some y) (hyl : X.env.scope.names.lookup y = some .local) (hkind : X.env.scope.kind = .function) (hl : (py.line == pos'.line) = true)
    (hany : (scope.names.any fun (n, k) => n == y && (k == .local || k == .cell)) = false) (ok : BlkOk X.N X.env.scope scope [(x, j)])
    (hg : ∀ (s : Shared) (H : Hp) (C : Addr) (cl : List (Str × Addr)) (fp : List Addr), PG (X.blk s H scope (compEnvC scope cl C X.env) fp) (.Name x px) (gName j))
    (ht : ∀ (s : Shared) (H : Hp) (C : Addr) (cl : List (Str × Addr)) (fp : List Addr) (v : Int), PTs (X.blk s H scope (compEnvC scope cl C X.env) fp) ifs (tV (G.in n) ((S.set j .un).set j (.dat (.int v))) (tn v)))
    (he : ∀ (s : Shared) (H : Hp) (C : Addr) (cl : List (Str × Addr)) (fp : List Addr) (v : Int), PE (X.blk s H scope (compEnvC scope cl C X.env) fp) elt (eV (G.in n) ((S.set j .un).set j (.dat (.int v))) (fn v)))
    (hgr : Gl X "range" := by rfl) (hs : ∀ v, foldedSetIterable (.Call (.Name "range" pr) [a, b] [] pc) X.env v = pure v := by intro _; rfl) (h1 : starEach [a, b] X.env = [(false, eval a X.env), (false, eval b X.env)] := by rfl) (h2 : starEach [b] X.env = [(false, eval b X.env)] := by rfl) :
    PS X (.Assign [.Name y py] (.ListComp elt [⟨.Name x px, .Call (.Name "range" pr) [a, b] [] pc, ifs, 0⟩] scope pos') pos) (sV G S (fun d => S.set i (.dat d)) sb ((na.bind fun d => nb.bind fun e => (N.span d e).bind fun xs => (N.comp tn fn xs).bind fun ys => .ok (.lst ys)).bind fun d => .ok (.nx d))) :=
  PS.imp (ps_setLc (own := [(x, j)]) (g := gName j) (tt := TT2 G n S j tn) (te := TE2 G n S j fn) hc hN hy hyl (sw_true hkind hyl hl hany)
    (pi_range2 hgr hm (da_cons ha (da_cons hb da_nil h2) (by rw [h1, h2])) h1 h2) ok hg (fun s H C cl fp => PTs.ex fun v : Int => ht s H C cl fp v) (fun s H C cl fp => PE.ex fun v : Int => he s H C cl fp v) hs) fun E σ H ⟨F, A, q⟩ =>
      lcR_run (na := na) (nb := nb) (Q := fun v H' => E.nx (σ.set i (some v)) H') ⟨F, A, N.mono (na.bind fun d => nb.bind fun e => (N.span d e).bind fun xs => (N.comp tn fn xs).bind fun ys => .ok (D.lst ys))
        (k := fun d => flP G F (fun d => S.set i (.dat d)) sb E (.nx d)) (fun d z v F' H' e' r' => z F' _ H' e'.ex ((A.go e').set r')) (fun _ _ z => z) q⟩
end
end
end M

set_option Elab.async false
set_option linter.all false
set_option maxRecDepth 100000
set_option maxHeartbeats 2000000
namespace M
open PySem L2
section
variable {X : Cx} {G : Gx} {S : List Sl} {τ β : Type} {sl : τ → List Sl} {sb : β → List Sl} {a b c e : Expr} {na nb nc : N D} {pos : Pos}
def dAbs : D → N D
  | .int i => .ok (.int (if i < 0 then -i else i))
  | _ => .stuck
def dInt : D → N D
  | .int i => .ok (.int i)
  | .bl k => .ok (.int (if k then 1 else 0))
  | _ => .stuck
theorem dAbs_tot (x : D) : Tot (dAbs x) := by
  unfold dAbs
  split <;> first | exact Tot.ok _ | exact Tot.stuck
theorem dInt_tot (x : D) : Tot (dInt x) := by
  unfold dInt
  split <;> first | exact Tot.ok _ | exact Tot.stuck
theorem one_of {F : Ty} {vs : List V} {xs : List D} {o : D → N D} {Q : D → Prop} (l : RpL G.Z F vs xs) (q : (app1 o xs).wp Q (fun _ _ => False)) : ∃ v d, vs = [v] ∧ xs = [d] ∧ Rp G.Z F v d ∧ (o d).wp Q (fun _ _ => False) := by
  cases l with
  | nil => exact q.elim
  | cons r l2 =>
    cases l2 with
    | cons _ _ => exact q.elim
    | nil => exact ⟨_, _, rfl, rfl, r, q⟩
theorem de_abs {p : Pos} (hm : X.mg "abs" = none) (ha : PE X a (eV G S na)) (hg : Gl X "abs" := by rfl) (he : starEach (a :: []) X.env = (false, eval a X.env) :: starEach [] X.env := by rfl) (hpl : (backTo pos (starEach [] X.env)).any (·.1) = false := by rfl) :
    PE X (.Call (.Name "abs" p) [a] [] pos) (eV G S (na.bind dAbs)) := de_b1 call_abs (fun F H xs vs Q ok l q => by
  obtain ⟨v, d, rfl, rfl, r, q⟩ := one_of l q
  cases d with
  | int i => exact ⟨i, by rw [rp_int r], q _ F H (Ext.refl ok) (.int _)⟩
  | _ => exact (show False from q).elim) dAbs_tot hm (by decide +kernel) ha hg (by decide) (by decide) he hpl
theorem de_intC {p : Pos} (hm : X.mg "int" = none) (ha : PE X a (eV G S na)) (hg : Gl X "int" := by rfl) (he : starEach (a :: []) X.env = (false, eval a X.env) :: starEach [] X.env := by rfl) (hpl : (backTo pos (starEach [] X.env)).any (·.1) = false := by rfl) :
    PE X (.Call (.Name "int" p) [a] [] pos) (eV G S (na.bind dInt)) := de_t1 call_int1 (fun F H xs vs Q ok l q => by
  obtain ⟨v, d, rfl, rfl, r, q⟩ := one_of l q
  cases d with
  | int i => exact .inl ⟨i, by rw [rp_int r], q _ F H (Ext.refl ok) (.int _)⟩
  | bl i => exact .inr ⟨i, by rw [rp_bl r], q _ F H (Ext.refl ok) (.int _)⟩
  | _ => exact (show False from q).elim) dInt_tot hm (by decide +kernel) ha hg (by decide) (by decide) he hpl
/-- xs[lo:hi] of a list -/
def dSlL (d : D) (lo hi : Option Int) : N D := match d with
  | .lst xs => .ok (.lst (cutD xs lo hi))
  | _ => .stuck
theorem de_slL (hK : G.Z.K = X.K) {lo hi : Option Expr} {nl nh : N (Option Int)} {p2 : Pos} (ha : PE X a (eV G S na)) (hl : PO X lo (oV (G := G) (S := S) nl)) (hh : PO X hi (oV (G := G) (S := S) nh)) :
    PE X (.Subscript a (.Slice lo hi none p2) pos) (eV G S (na.bind fun d => nl.bind fun l => nh.bind fun h => dSlL d l h)) :=
  PE.imp (pe_slice sl_list ha hl hh) fun σ H Q ⟨F, A, q⟩ => ⟨F, A, na.mono (fun d q1 v F1 H1 e1 r1 => ⟨F1, A.go e1, nl.mono (fun lo q2 F2 H2 e2 => ⟨F2, (A.go e1).go e2, nh.mono (fun hi q3 F3 H3 e3 => by
    unfold dSlL at q3
    have ok3 := (((A.go e1).go e2).go e3).ok
    cases r1 with
    | lst r l =>
      rename_i a vs xs
      have l3 := l.ex (e2.ex.trans e3.ex)
      refine ⟨_, _, rfl, by rw [← hK]; exact RL.sq ok3 (r.ex (e2.ex.trans e3.ex)), fun p hp => ?_⟩
      have hcut : RpL G.Z F3 (cutV vs lo hi) (cutD xs lo hi) := by
        unfold cutV cutD
        rw [← l3.length]
        exact (l3.drop _).take _
      obtain ⟨e4, r4⟩ := new_lst ok3 hp hcut
      exact q3 _ _ _ (((e1.trans e2).trans e3).trans e4) r4
    | _ => exact (show False from q3).elim) (fun _ _ z => z) q2⟩) (fun _ _ z => z) q1⟩) (fun _ _ z => z) q⟩
theorem dt_chain {op op' : CmpOp} {r r' : R2} {o o' : D → D → N D} (ho : OpR X (compareOp op) r) (ho' : OpR X (compareOp op') r') (hr : R2D G r o) (ht : ∀ x y, Tot (o x y)) (hr' : R2D G r' o') (ht' : ∀ x y, Tot (o' x y))
    (ha : PE X a (eV G S na)) (hb : PE X b (eV G S nb)) (hc : PE X c (eV G S nc)) (h1 : lastMarks [op, op'] [b, c] = false := by rfl) :
    PT X (.Compare a [op, op'] [b, c] pos) (tV G S ((dChain o o' na nb nc).bind N.tst)) :=
  PT.imp (pt_chain ho ho' ha hb hc h1) fun σ H Q h => by
    have h := tst_run (na := dChain o o' na nb nc) h
    obtain ⟨F, A, q⟩ := h
    refine ⟨F, A, na.mono (fun x q1 v F1 H1 e1 r1 => ⟨F1, A.go e1, nb.mono (fun y q2 u F2 H2 e2 r2 => ?_) (fun _ _ z => z) q1⟩) (fun _ _ z => z) q⟩
    refine hr F2 H2 x y v u _ ((A.go e1).go e2).ok (r1.ex e2.ex) r2 ((o x y).mono (fun z q3 w F3 H3 e3 r3 => ?_) (fun _ _ z => z) (ht x y _ _ q2))
    cases z with
    | bl k =>
      refine ⟨k, rp_bl r3, ?_⟩
      cases k with
      | true =>
        refine ⟨F3, ((A.go e1).go e2).go e3, nc.mono (fun w q4 u2 F4 H4 e4 r4 => ?_) (fun _ _ z => z) q3⟩
        exact hr' F4 H4 y w u u2 _ ((((A.go e1).go e2).go e3).go e4).ok (r2.ex (e3.ex.trans e4.ex)) r4 ((o' y w).mono (fun d q5 w5 F5 H5 e5 r5 => q5 w5 F5 H5 ((((e1.trans e2).trans e3).trans e4).trans e5) r5) (fun _ _ z => z) (ht' y w _ _ q4))
      | false => exact q3 _ F3 H3 ((e1.trans e2).trans e3) (.bl false)
    | _ => exact (show False from q3).elim
/-- y = [elt for x in e if ..] -/
theorem ds_lcS {elt : Expr} {ifs : List Expr} {scope : Scope} {i j : Nat} {x y : Str} {px py pos' : Pos} {tn : D → N Bool} {fn : D → N D} {n : Nat} (hc : X.calm = true) (hK : G.Z.K = X.K) (hN : X.N.Nodup) (ha : PE X a (eV G S na)) (hy : X.N[i]? = some y) (hyl : X.env.scope.names.lookup y = some .local) (hkind : X.env.scope.kind = .function) (hl : (py.line == pos'.line) = true)
    (hany : (scope.names.any fun (n, k) => n == y && (k == .local || k == .cell)) = false) (ok : BlkOk X.N X.env.scope scope [(x, j)])
    (hg : ∀ (s : Shared) (H : Hp) (C : Addr) (cl : List (Str × Addr)) (fp : List Addr), PG (X.blk s H scope (compEnvC scope cl C X.env) fp) (.Name x px) (gName j))
    (ht : ∀ (s : Shared) (H : Hp) (C : Addr) (cl : List (Str × Addr)) (fp : List Addr) (v : D), PTs (X.blk s H scope (compEnvC scope cl C X.env) fp) ifs (tV (G.in n) ((S.set j .un).set j (.dat v)) (tn v)))
    (he : ∀ (s : Shared) (H : Hp) (C : Addr) (cl : List (Str × Addr)) (fp : List Addr) (v : D), PE (X.blk s H scope (compEnvC scope cl C X.env) fp) elt (eV (G.in n) ((S.set j .un).set j (.dat v)) (fn v)))
    (hs : ∀ v, foldedSetIterable a X.env v = pure v := by intro _; rfl) :
    PS X (.Assign [.Name y py] (.ListComp elt [⟨.Name x px, a, ifs, 0⟩] scope pos') pos) (sV G S (fun d => S.set i (.dat d)) sb ((na.bind fun d => (seqOf d).bind fun xs => (N.fits xs).bind fun _ => (N.comp tn fn xs).bind fun ys => .ok (.lst ys)).bind fun d => .ok (.nx d))) := by
  exact PS.imp (ps_setLc (own := [(x, j)]) (g := gName j) (tt := TT1 G n S j tn) (te := TE1 G n S j fn) hc hN hy hyl (sw_true hkind hyl hl hany) (pi_seq ha) ok hg (fun s H C cl fp => PTs.ex fun v : D => ht s H C cl fp v) (fun s H C cl fp => PE.ex fun v : D => he s H C cl fp v) hs) fun E σ H ⟨F, A, q⟩ =>
    lc_run (na := na) hK (Q := fun v H' => E.nx (σ.set i (some v)) H') ⟨F, A, N.mono (na.bind fun d => (seqOf d).bind fun xs => (N.fits xs).bind fun _ => (N.comp tn fn xs).bind fun ys => .ok (D.lst ys))
      (k := fun d => flP G F (fun d => S.set i (.dat d)) sb E (.nx d)) (fun d z v F' H' e' r' => z F' _ H' e'.ex ((A.go e').set r')) (fun _ _ z => z) q⟩
end
end M

set_option Elab.async false
set_option linter.all false
set_option maxRecDepth 100000
set_option maxHeartbeats 2000000
namespace M
open PySem L2
open PyProof.Rows (envOfC)
/-- a def in reach: it stands at some place, keeps its mirror's promise -/
structure Df (P : Program) (w : World) (Z : Zt) (mg : Str → Option Value) (base : Heap) (x : Str) (k n : Nat) (m : List D → N D) : Prop where
  ex : ∃ (f : Addr) (fd : FuncData) (ps : List Str), FnOk P w Z.K mg base (L2.CX P w) k f fd ps (spN Z n m) ∧ mg x = some (.ref f) ∧ PySem.W.keepIn Z.K (.ref f) = true ∧ Binds Z.K fd ps []
  ar : Arity n m
theorem Df.cal {X : Cx} {G : Gx} {P : Program} {w : World} {Z : Zt} {mg : Str → Option Value} {base : Heap} {x : Str} {k n : Nat} {m : List D → N D} (d : Df P w Z mg base x k n m) (hr : Room k X.A)
    (h1 : X.prog = P := by rfl) (h2 : X.w = w := by rfl) (h3 : X.K = Z.K := by rfl) (h4 : X.mg = mg := by rfl) (h5 : X.base = base := by rfl) (h6 : G.Z = Z := by rfl) : Cal X G x n m := by
  subst h1 h2 h4 h5 h6
  obtain ⟨f, fd, ps, h, hm, hk, hb⟩ := d.ex
  exact ⟨⟨k, f, fd, ps, by rw [h3]; exact h, hr, hm, by rw [h3]; exact hk, by rw [h3]; exact hb⟩, d.ar⟩
/-- the same, called with keywords or by defaults -/
structure DfG (P : Program) (w : World) (Z : Zt) (mg : Str → Option Value) (base : Heap) (x : Str) (k np : Nat) (ks : List Str) (gD : List D → List D → List D) (n : Nat) (m : List D → N D) : Prop where
  ex : ∃ (f : Addr) (fd : FuncData) (ps : List Str) (g : List Value → List Value → List Value) (gV : List V → List V → List V), FnOk P w Z.K mg base (L2.CX P w) k f fd ps (spN Z n m) ∧ mg x = some (.ref f) ∧ PySem.W.keepIn Z.K (.ref f) = true ∧
    KBn Z.K fd ps np ks g gV ∧ ∀ F vs ds zs es, RpL Z F vs ds → RpL Z F zs es → vs.length = np → zs.length = ks.length → RpL Z F (gV vs zs) (gD ds es)
  ar : Arity n m
theorem DfG.cal {X : Cx} {G : Gx} {P : Program} {w : World} {Z : Zt} {mg : Str → Option Value} {base : Heap} {x : Str} {k np n : Nat} {ks : List Str} {gD : List D → List D → List D} {m : List D → N D} (d : DfG P w Z mg base x k np ks gD n m) (hr : Room k X.A)
    (h1 : X.prog = P := by rfl) (h2 : X.w = w := by rfl) (h3 : X.K = Z.K := by rfl) (h4 : X.mg = mg := by rfl) (h5 : X.base = base := by rfl) (h6 : G.Z = Z := by rfl) : CalG X G x np ks gD n m := by
  subst h1 h2 h4 h5 h6
  obtain ⟨f, fd, ps, g, gV, h, hm, hk, hb, hd⟩ := d.ex
  exact ⟨⟨k, f, fd, ps, g, gV, by rw [h3]; exact h, hr, hm, by rw [h3]; exact hk, by rw [h3]; exact hb, hd⟩, d.ar⟩
section
variable {P : Program} {w : World} {mg : Str → Option Value} {base : Heap}
/-- a def by its body's derivation; its defaults are dvs; Pc: what is known of its code object -/
theorem fn_okG {Z : Zt} {x qual : Str} {st : Stmt} {f : Addr} {fd : FuncData} {Nn ps : List Str} {k : Nat} {m : List D → N D} {dvs : List V} {Pc : Value → Prop} (F : FunD Z.K x qual (defArgs st) (defBody st) (defScope st) dvs [] f fd) (S : FnScope Nn ps (defScope st)) (ar : Arity ps.length m)
    (hPc : ∀ oc od fd' osl, Z.K.lookup f = some ⟨oc, od, .func fd', osl⟩ → Pc fd'.code)
    (hbody : ∀ (cdv : Value) (A : Around) (outer : List Env) (s : Shared) (H : Hp) (E : XK) (F0 : Ty) (ds : List D), Pc cdv → TL Z F0 → Room k (A.deeper (envOfC qual (defScope st) s.heap.objs.size f cdv)) → Takes (cxOf (L2.CX P w) P w Z.K mg base Nn qual (defScope st) f cdv A outer s H E) (fun cls d _ H => E cls d H) → ds.length = ps.length →
      ∃ (τ β : Type) (sl : τ → List Sl) (sb : β → List Sl) (nn : N (Fl τ β)), PSs (cxOf (L2.CX P w) P w Z.K mg base Nn qual (defScope st) f cdv A outer s H E) (defBody st) (sV ⟨Z, ⟨F0, H, F0⟩, fun cls d _ H => E cls d H, List.replicate Nn.length .un⟩ (sls ds (Nn.length - ps.length)) sl sb nn) ∧ ∀ k e, (m ds).wp k e → nn.fin.wp k e) :
    FnOk P w Z.K mg base (L2.CX P w) (k + 1) f fd ps (spN Z ps.length m) := by
  obtain ⟨oc, od, dV, kV, doc, pm, an, cdv, ct, osl, rfl, lk, hcd, _, _⟩ := F.ex
  have hP := hPc _ _ _ _ lk
  refine fn_of lk hcd S (fun vs H Q E h => h.1) fun A outer s H vs Q E hr h => ?_
  obtain ⟨hl, F0, ds, ok0, t0, r0, q0⟩ := h
  have hd : ds.length = ps.length := ar ds _ _ q0
  obtain ⟨τ, β, sl, sb, nn, hps, hq⟩ := hbody cdv A outer s H E F0 ds hP t0 hr (takes_of rfl rfl rfl rfl) hd
  refine ⟨_, hps, ⟨F0, ?_, ?_⟩⟩
  · have := at_start (Z := Z) (Nn := Nn) ok0 t0 r0
    rw [hl] at this
    exact this
  · have q1 := hq _ _ q0
    refine nn.mono (fun f q2 => ?_) (fun c x q2 => ?_) q1
    · cases f with
      | nx t => exact fun F σ H1 _ A => q2 .non F H1 A.ext .non
      | rt d => exact fun v F H1 e1 r1 => q2 v F H1 e1 r1
      | bk t => exact (show False from q2).elim
      | ct t => exact (show False from q2).elim
    · intro cls dd F σ H1 A er
      exact q2 cls dd F H1 A.ext er
theorem fn_okD {Z : Zt} {x qual : Str} {st : Stmt} {f : Addr} {fd : FuncData} {Nn ps : List Str} {k : Nat} {m : List D → N D} {dvs : List V} (F : FunD Z.K x qual (defArgs st) (defBody st) (defScope st) dvs [] f fd) (S : FnScope Nn ps (defScope st)) (ar : Arity ps.length m)
    (hbody : ∀ (cdv : Value) (A : Around) (outer : List Env) (s : Shared) (H : Hp) (E : XK) (F0 : Ty) (ds : List D), Room k (A.deeper (envOfC qual (defScope st) s.heap.objs.size f cdv)) → Takes (cxOf (L2.CX P w) P w Z.K mg base Nn qual (defScope st) f cdv A outer s H E) (fun cls d _ H => E cls d H) → ds.length = ps.length →
      ∃ (τ β : Type) (sl : τ → List Sl) (sb : β → List Sl) (nn : N (Fl τ β)), PSs (cxOf (L2.CX P w) P w Z.K mg base Nn qual (defScope st) f cdv A outer s H E) (defBody st) (sV ⟨Z, ⟨F0, H, F0⟩, fun cls d _ H => E cls d H, List.replicate Nn.length .un⟩ (sls ds (Nn.length - ps.length)) sl sb nn) ∧ ∀ k e, (m ds).wp k e → nn.fin.wp k e) :
    FnOk P w Z.K mg base (L2.CX P w) (k + 1) f fd ps (spN Z ps.length m) :=
  fn_okG (Pc := fun _ => True) F S ar (fun _ _ _ _ _ => trivial) fun cdv A outer s H E F0 ds _ _ => hbody cdv A outer s H E F0 ds
/-- the same, its code object's place known: it may hold lambdas -/
theorem fn_okC {Z : Zt} {x qual : Str} {st : Stmt} {f c : Addr} {fd : FuncData} {Nn ps : List Str} {k : Nat} {m : List D → N D} {dvs : List V} (F : FunD Z.K x qual (defArgs st) (defBody st) (defScope st) dvs [] f fd) (S : FnScope Nn ps (defScope st)) (ar : Arity ps.length m)
    (hc : ∀ oc od fd' osl, Z.K.lookup f = some ⟨oc, od, .func fd', osl⟩ → fd'.code = .ref c)
    (hbody : ∀ (A : Around) (outer : List Env) (s : Shared) (H : Hp) (E : XK) (F0 : Ty) (ds : List D), TL Z F0 → Room k (A.deeper (envOfC qual (defScope st) s.heap.objs.size f (.ref c))) → Takes (cxOf (L2.CX P w) P w Z.K mg base Nn qual (defScope st) f (.ref c) A outer s H E) (fun cls d _ H => E cls d H) → ds.length = ps.length →
      ∃ (τ β : Type) (sl : τ → List Sl) (sb : β → List Sl) (nn : N (Fl τ β)), PSs (cxOf (L2.CX P w) P w Z.K mg base Nn qual (defScope st) f (.ref c) A outer s H E) (defBody st) (sV ⟨Z, ⟨F0, H, F0⟩, fun cls d _ H => E cls d H, List.replicate Nn.length .un⟩ (sls ds (Nn.length - ps.length)) sl sb nn) ∧ ∀ k e, (m ds).wp k e → nn.fin.wp k e) :
    FnOk P w Z.K mg base (L2.CX P w) (k + 1) f fd ps (spN Z ps.length m) :=
  fn_okG (Pc := fun v => v = .ref c) F S ar hc fun cdv A outer s H E F0 ds h => by subst h; exact hbody A outer s H E F0 ds
/-- an exception leaves only where it is taken: bodies of defs pass what they own -/
theorem po_cx {K : PySem.W.Frag} {Nn : List Str} {qual : Str} {scope : Scope} {f : Addr} {cdv : Value} {A : Around} {outer : List Env} {s : Shared} {H : Hp} {E : XK} :
    PassesOwn (model P w) (cxOf (L2.CX P w) P w K mg base Nn qual scope f cdv A outer s H E).A (cxOf (L2.CX P w) P w K mg base Nn qual scope f cdv A outer s H E).env (cxOf (L2.CX P w) P w K mg base Nn qual scope f cdv A outer s H E).xe := PassesOwn.leaving
end
/-- a def without defaults, as it stands -/
theorem fund_mk {K : PySem.W.Frag} {x qual : Str} {st : Stmt} {f : Addr} {oc : Value} {od an : Option Addr} {osl : Array (Option Value)} {kV doc pm cdv ct : Value} (l : K.lookup f = some ⟨oc, od, .func (PySem.W.fnOf x qual (defArgs st) (defBody st) (defScope st) .none kV doc pm an cdv ct), osl⟩)
    (c : PySem.W.codeIn K cdv qual = true) (k : PySem.W.keepIn K (.ref f) = true) : FunD K x qual (defArgs st) (defBody st) (defScope st) [] [] f (PySem.W.fnOf x qual (defArgs st) (defBody st) (defScope st) .none kV doc pm an cdv ct) :=
  ⟨⟨oc, od, .none, kV, doc, pm, an, cdv, ct, osl, rfl, l, c, .inl ⟨rfl, rfl⟩, .inl rfl⟩, k⟩
/-- with one default -/
theorem fund_mk1 {K : PySem.W.Frag} {x qual : Str} {st : Stmt} {f T : Addr} {oc : Value} {od an : Option Addr} {osl : Array (Option Value)} {kV doc pm cdv ct u : Value} {o : Obj} {n : Nat} {d : V} (l : K.lookup f = some ⟨oc, od, .func (PySem.W.fnOf x qual (defArgs st) (defBody st) (defScope st) (.ref T) kV doc pm an cdv ct), osl⟩)
    (c : PySem.W.codeIn K cdv qual = true) (k : PySem.W.keepIn K (.ref f) = true) (lT : K.lookup T = some o) (hT : o.data = .seq #[u] n) (r : RelV d u) : FunD K x qual (defArgs st) (defBody st) (defScope st) [d] [] f (PySem.W.fnOf x qual (defArgs st) (defBody st) (defScope st) (.ref T) kV doc pm an cdv ct) :=
  ⟨⟨oc, od, .ref T, kV, doc, pm, an, cdv, ct, osl, rfl, l, c, .inr ⟨by simp, T, o, [u], n, rfl, lT, by rw [hT], .cons r .nil⟩, .inl rfl⟩, k⟩
theorem Wk.un' {S : List Sl} {n : Nat} (h : S.length = n) : Wk S (List.replicate n .un) := by subst h; exact wk_un S
end M

set_option Elab.async false
set_option linter.all false
set_option maxRecDepth 100000
set_option maxHeartbeats 2000000
namespace M
open PySem L2
/-! ### the box that is drawn from: cells, a number -/
def pCel (o : HO) : Prop := ∃ ks : List Int, o = .lst (ks.map V.int) ∧ ks.length ≤ sizeLine
def pBox (c : Addr) (o : HO) : Prop := ∃ x : Int, o = .lst [.ref c, .int x]
def pBox3 (o : HO) : Prop := ∃ x y z : Int, o = .lst [.int x, .int y, .int z]
theorem cel_ne (q : Str) : pCel ≠ pTab q := ne_tab (fun ⟨_, z, _⟩ => by cases z) q
theorem box_ne {c : Addr} (q : Str) : pBox c ≠ pTab q := ne_tab (fun ⟨_, z⟩ => by cases z) q
theorem box3_ne (q : Str) : pBox3 ≠ pTab q := ne_tab (fun ⟨_, _, _, z⟩ => by cases z) q
def DL (k : Nat) (F : Ty) (a : Addr) : Prop := match k with
  | 0 => ∃ c, c ≠ a ∧ F a = some (pBox c) ∧ F c = some pCel
  | 1 => F a = some pCel
  | 2 => F a = some pBox3
  | _ => False
theorem DLm (k : Nat) (F F' : Ty) (a : Addr) (e : Ex F F') (h : DL k F a) : DL k F' a := by
  unfold DL at h ⊢
  match k, h with
  | 0, ⟨c, n, h1, h2⟩ => exact ⟨c, n, e _ _ h1, e _ _ h2⟩
  | 1, h => exact e _ _ h
  | 2, h => exact e _ _ h
section
variable {X : Cx} {G : Gx} {S : List Sl} {a b c e : Expr} {na nb nc : N D} {pos : Pos}
def intsD : List D → Option (List Int)
  | [] => some []
  | .int i :: xs => (intsD xs).map (i :: ·)
  | _ :: _ => none
theorem intsD_rp {Z : Zt} {F : Ty} : ∀ {vs : List V} {xs : List D} {ks : List Int}, RpL Z F vs xs → intsD xs = some ks → vs = ks.map V.int
  | _, _, _, .nil, h => by unfold intsD at h; cases h; rfl
  | _, _, _, .cons (d := d) (ds := ds) r l, h => by
    cases d with
    | int i =>
      unfold intsD at h
      cases q : intsD ds with
      | none => rw [q] at h; cases h
      | some ks =>
        rw [q] at h
        cases h
        rw [rp_int r, intsD_rp l q]
        rfl
    | _ => unfold intsD at h; cases h
def mkCells : D → N D
  | .lst xs => (N.asrt (xs.length ≤ sizeLine ∧ ∃ ks, intsD xs = some ks)).bind fun _ => .ok (.dl 1)
  | _ => .stuck
def mkDeal : D → D → N D
  | .dl 1, .int _ => .ok (.dl 0)
  | _, _ => .stuck
theorem de_cells {k : Nat} {p1 p2 p3 : Pos} (hz : G.Z.dl = DL) (hK : G.Z.K = X.K) (ha : PE X a (eV G S na)) : PE X (.Subscript a (.Slice none none (some (.UnaryOp .USub (.Constant (.int 1) k p1) p2)) p3) pos) (eV G S (na.bind mkCells)) :=
  PE.imp (pe_revL ha) fun σ H Q ⟨F, A, q⟩ => ⟨F, A, na.mono (fun d q1 v F1 H1 e1 r1 => by
    cases r1 with
    | lst r l =>
      rename_i a vs xs
      obtain ⟨⟨hl, ks, hk⟩, q1⟩ := q1
      have ok1 := (A.go e1).ok
      refine ⟨a, vs, rfl, by rw [← hK]; exact RL.sq ok1 r, fun p hp => ?_⟩
      have hv := intsD_rp l hk
      have e2 : Ext F1 H1 (updT F1 p pCel) (upd H1 p (.lst vs.reverse)) := Ext.new ok1 hp ⟨ks.reverse, by rw [hv, List.map_reverse], by
        rw [List.length_reverse]
        have := l.length
        rw [hv, List.length_map] at this
        omega⟩ (fun ⟨_, z⟩ => by cases z) cel_ne
      refine q1 _ _ _ (e1.trans e2) (.dl ?_)
      rw [hz]
      exact updT_same
    | _ => exact (show False from q1).elim) (fun _ _ z => z) q⟩
theorem de_deal (hz : G.Z.dl = DL) (ha : PE X a (eV G S na)) (hb : PE X b (eV G S nb)) (h1 : starEach [a, b] X.env = (false, eval a X.env) :: starEach [b] X.env := by rfl) (h2 : starEach [b] X.env = (false, eval b X.env) :: starEach [] X.env := by rfl) :
    PE X (.List [a, b] pos) (eV G S (na.bind fun x => nb.bind fun y => mkDeal x y)) :=
  PE.imp (pe_lst (pa_cons ha (pa_cons hb pa_nil h2) h1)) fun σ H Q ⟨F, A, q⟩ => ⟨F, A, na.mono (fun x q1 v F1 H1 e1 r1 => ⟨F1, A.go e1, nb.mono (fun y q2 u F2 H2 e2 r2 => by
    have r1 := r1.ex e2.ex
    have ok2 := ((A.go e1).go e2).ok
    cases r1 with
    | dl hd =>
      rename_i c k
      match k, y, q2 with
      | 1, .int z, q2 =>
        cases r2
        rw [hz] at hd
        have hd : F2 c = some pCel := hd
        refine ⟨by show 2 ≤ sizeLine; decide, fun p hp => ?_⟩
        have e3 : Ext F2 H2 (updT F2 p (pBox c)) (upd H2 p (.lst [.ref c, .int z])) := Ext.new ok2 hp ⟨z, rfl⟩ (fun ⟨_, z⟩ => by cases z) box_ne
        refine q2 _ _ _ ((e1.trans e2).trans e3) (.dl ?_)
        rw [hz]
        have hn : c ≠ p := fun z => by
          rw [z, ok2.none hp] at hd
          cases hd
        exact ⟨c, hn, updT_same, e3.ex _ _ hd⟩
    | _ => exact (show False from q2).elim) (fun _ _ z => z) q1⟩) (fun _ _ z => z) q⟩
def mkBox : D → D → D → N D
  | .int _, .int _, .int _ => .ok (.dl 2)
  | _, _, _ => .stuck
theorem de_box (hz : G.Z.dl = DL) (ha : PE X a (eV G S na)) (hb : PE X b (eV G S nb)) (hc : PE X c (eV G S nc)) (h1 : starEach [a, b, c] X.env = (false, eval a X.env) :: starEach [b, c] X.env := by rfl) (h2 : starEach [b, c] X.env = (false, eval b X.env) :: starEach [c] X.env := by rfl) (h3 : starEach [c] X.env = (false, eval c X.env) :: starEach [] X.env := by rfl) :
    PE X (.List [a, b, c] pos) (eV G S (na.bind fun x => nb.bind fun y => nc.bind fun z => mkBox x y z)) :=
  PE.imp (pe_lst (pa_cons ha (pa_cons hb (pa_cons hc pa_nil h3) h2) h1)) fun σ H Q ⟨F, A, q⟩ => ⟨F, A, na.mono (fun x q1 v F1 H1 e1 r1 => ⟨F1, A.go e1, nb.mono (fun y q2 u F2 H2 e2 r2 => ⟨F2, (A.go e1).go e2, nc.mono (fun z q3 t F3 H3 e3 r3 => by
    have r1 := r1.ex (e2.ex.trans e3.ex)
    have r2 := r2.ex e3.ex
    have ok3 := (((A.go e1).go e2).go e3).ok
    match x, y, z, q3 with
    | .int i, .int j, .int l, q3 =>
      cases r1
      cases r2
      cases r3
      refine ⟨by show 3 ≤ sizeLine; decide, fun p hp => ?_⟩
      have e4 : Ext F3 H3 (updT F3 p pBox3) (upd H3 p (.lst [.int i, .int j, .int l])) := Ext.new ok3 hp ⟨i, j, l, rfl⟩ (fun ⟨_, z⟩ => by cases z) box3_ne
      refine q3 _ _ _ (((e1.trans e2).trans e3).trans e4) (.dl ?_)
      rw [hz]
      exact updT_same) (fun _ _ z => z) q2⟩) (fun _ _ z => z) q1⟩) (fun _ _ z => z) q⟩
end
/-- a number that is drawn from a box -/
def m_law_take (d : D) (b : D) : N D := match d, b with
  | .dl 2, .int n => (N.asrt (0 < n ∧ n < 1073741824)).bind fun _ => (N.any fun r : Int => 0 ≤ r ∧ r < n).bind fun r => .ok (.int r)
  | _, _ => .stuck
/-- where the box stands behind what was done -/
structure BoxAt3 (F : Ty) (H : Hp) (a : Addr) (n : Int) (L : Nat) (σ : St) (H' : Hp) : Prop where
  ext : Ext F H F H'
  s0 : σ[0]? = some (some (.ref a))
  s1 : σ[1]? = some (some (.int n))
  len : σ.length = L
  bx : ∃ x y z, H' a = some (.lst [.int x, .int y, .int z])
theorem BoxAt3.of {F : Ty} {H H' : Hp} {a : Addr} {n : Int} {L : Nat} {σ : St} (e : Ext F H F H') (hA : F a = some pBox3) (s0 : σ[0]? = some (some (.ref a))) (s1 : σ[1]? = some (some (.int n))) (h2 : σ.length = L) : BoxAt3 F H a n L σ H' := by
  refine ⟨e, s0, s1, h2, ?_⟩
  obtain ⟨o, h, ⟨x, y, z, rfl⟩, _⟩ := e.ok.at_ _ _ hA
  exact ⟨x, y, z, h⟩
/-- a number that is drawn -/
def m_law_any (d : D) (b : D) : N D := match d, b with
  | .dl 0, .int n => (N.asrt (0 < n ∧ n < 1073741824)).bind fun _ => (N.any fun r : Int => 0 ≤ r ∧ r < n).bind fun r => .ok (.int r)
  | _, _ => .stuck
theorem cel_lst (o : HO) (h : pCel o) : ∃ xs, o = .lst xs := by obtain ⟨ks, e, _⟩ := h; exact ⟨_, e⟩
theorem box_lst {c : Addr} (o : HO) (h : pBox c o) : ∃ xs, o = .lst xs := by obtain ⟨x, e⟩ := h; exact ⟨_, e⟩
theorem box3_lst (o : HO) (h : pBox3 o) : ∃ xs, o = .lst xs := by obtain ⟨x, y, z, e⟩ := h; exact ⟨_, e⟩
theorem Ext.put {F : Ty} {H H' : Hp} (h : Ext F H F H') {a : Addr} {p : HO → Prop} {o : HO} (hF : F a = some p) (hp : p o) (ht : (∃ xs, o = .tup xs) → p = is o) (hl : ∀ o, p o → ∃ xs, o = .lst xs := by first | exact cel_lst | exact box_lst | exact box3_lst) : Ext F H F (upd H' a o) := by
  refine ⟨Ex.refl F, h.ok.chg hF hp ht hl, fun b u e nb pl => ?_⟩
  have z : b ≠ a := fun z => by subst z; rw [hF] at nb; cases nb
  rw [upd_ne z]; exact h.kp b u e nb pl
theorem dp_ints {K : PySem.W.Frag} {H : Hp} : ∀ ks : List Int, DpAll K H (ks.map V.int) (ks.map PyData.int)
  | [] => .nil
  | k :: ks => .cons (.int k) (dp_ints ks)
end M

set_option Elab.async false
set_option linter.all false
set_option maxRecDepth 100000
set_option maxHeartbeats 2000000
namespace M
open PySem L2
section
variable {X : Cx} {G : Gx} {S : List Sl} {a b c e : Expr} {na nb nc : N D} {pos : Pos}
theorem notInO_run {i : Nat} {ds : List D} (hK : G.Z.K = X.K) (hi : S[i]? = some (.own (.lst ds))) {σ : St} {H : Hp} {Q : VK} (h : eV G S (na.bind fun d => dNotInD d (.lst ds)) σ H Q) : tOp (rInDD X.K true) (eV G S na) (tVar i) σ H Q := by
  obtain ⟨F, A, q⟩ := h
  refine ⟨F, A, na.mono (fun d q1 v F1 H1 e1 r1 => ?_) (fun _ _ z => z) q⟩
  obtain ⟨l, vs, e, hu, nF, r⟩ := own_at hi A
  obtain ⟨hF1, hu1⟩ := ext_lst e1 nF hu
  refine ⟨.ref l, e, ?_⟩
  have q1 : (pIn d (.lst ds)).wp (fun b => ∀ v F' H', Ext F H F' H' → Rp G.Z F' v (.bl (!b)) → Q v H') G.Er := q1
  rw [← hK]
  unfold pIn at q1
  cases hx : toPy d with
  | none => simp only [hx] at q1; exact q1.elim
  | some p =>
    cases hy : toPys ds with
    | none => simp only [hx, items, hy] at q1; exact q1.elim
    | some ps =>
      simp only [hx, items, hy] at q1
      exact ⟨p, ps, dp_of (A.go e1).ok r1 hx, .inl (.lst (SqL.of hu1) (dps_of (A.go e1).ok (r.ex e1.ex) hy)), q1.1.1, q1.1.2, q1.2 _ F1 H1 e1 (.bl _)⟩
/-- e not in x, as a test -/
theorem dt_notInO {i : Nat} {x : Str} {px : Pos} {ds : List D} {k : Nat} (hr : Room k X.A) (hK : G.Z.K = X.K) (hi : S[i]? = some (.own (.lst ds))) (hN : X.N[i]? = some x) (ha : PE X a (eV G S na)) (hv : Vis X.env.scope x := by first | exact Or.inl rfl | exact Or.inr (Or.inl rfl) | exact Or.inr (Or.inr rfl))
    (hd : (x == ("__debug__" : Str)) = false := by decide) (hcd : (x == ("__classdict__" : Str)) = false := by decide) (hm : behindInMarks .NotIn (.Name x px) = false := by rfl) : PT X (.Compare a [.NotIn] [.Name x px] pos) (tV G S ((na.bind fun d => dNotInD d (.lst ds)).bind N.tst)) :=
  PT.imp (pt_cmpR (op_notInDD hr (room65 hr)) ha (pe_var (i := i) hN hv hd hcd) hm) fun σ H Q h => notInO_run hK hi (tst_run (na := na.bind fun d => dNotInD d (.lst ds)) h)
variable {τ β : Type} {sl : τ → List Sl} {sb : β → List Sl}
/-- x.append(e) -/
theorem ds_appX {i : Nat} {x : Str} {px pa pc : Pos} {ds : List D} (hi : S[i]? = some (.own (.lst ds))) (hN : X.N[i]? = some x) (ha : PE X a (eV G S na))
    (hw : swapsWith (.Call (.Attribute (.Name x px) "append" pa) [a] [] pc) none pos.line X.env = pure false := by rfl)
    (hb : ∀ t : TE, PE X a t → PE X (.Call (.Attribute (.Name x px) "append" pa) [a] [] pc) (tBM X.K "list" rAppend (tVar i) (tCons t tNil)) := by exact fun t h => pe_bm PySem.F.plainAttrs_list PySem.F.slot_list_append PySem.F.type_list_append mt_append (pv _) (pa_cons h pa_nil)) :
    PS X (.Expr (.Call (.Attribute (.Name x px) "append" pa) [a] [] pc) pos) (sV G S (fun d => S.set i (.own (.lst (ds ++ [d])))) sb (na.bind fun d => (N.asrt (ds.length < sizeLine)).bind fun _ => .ok (.nx d))) :=
  PS.imp (ps_expr (hb _ ha) hw) fun E σ H ⟨F, A, q⟩ => by
    obtain ⟨l, u, e, hu, nF, nB, vs, eu, r⟩ := A.sl i _ hi
    subst eu
    refine ⟨.ref l, e, .inl ⟨rfl, vs, SqL.of hu⟩, F, A, na.mono (fun d q1 v F1 H1 e1 r1 => ?_) (fun _ _ z => z) q⟩
    have A1 := A.go e1
    obtain ⟨hF1, hu1⟩ := ext_lst e1 nF hu
    obtain ⟨hz, q1⟩ := q1
    exact ⟨l, vs, v, rfl, rfl, hu1, by rw [r.length]; exact hz, q1 F1 σ _ e1.ex (A1.put hi e ⟨vs ++ [v], rfl, (r.ex e1.ex).append (.cons r1 .nil)⟩)⟩
end
end M

set_option Elab.async false
set_option linter.all false
set_option maxRecDepth 100000
set_option maxHeartbeats 2000000
namespace M
open PySem L2
section
variable {K : PySem.W.Frag} {x qual : Str} {params : Arguments} {body : List Stmt} {scope : Scope} {dvs : List V} {f : Addr} {fd : FuncData} {ps : List Str}
theorem bind_all (F : FunD K x qual params body scope [] [] f fd)
    (h : ∀ (kV doc pm : Value) (an : Option Addr) (cdv ct : Value) (us : List Value), us.length = ps.length → bindArgs (PySem.W.fnOf x qual params body scope .none kV doc pm an cdv ct) ⟨us, []⟩ = pure (ps.zip us)) : Binds K fd ps [] := F.bindsN h
/-- all is written though there are defaults -/
theorem bind_allD (F : FunD K x qual params body scope dvs [] f fd) (hd : dvs ≠ [])
    (h : ∀ (T : Addr) (kV doc pm : Value) (an : Option Addr) (cdv ct : Value) (us its : List Value), us.length = ps.length → its.length = dvs.length →
      ∃ k, bindArgs (PySem.W.fnOf x qual params body scope (.ref T) kV doc pm an cdv ct) ⟨us, []⟩ = seqItems? (.ref T) >>= k ∧ k (some its.toArray) = pure (ps.zip us)) : Binds K fd ps [] := by
  obtain ⟨ds, r, b⟩ := F.binds1 (ps := ps) ps.length dvs.length hd (by omega) (fun T kV doc pm an cdv ct us its h1 h2 => by
    obtain ⟨k, e1, e2⟩ := h T kV doc pm an cdv ct us its h1 h2
    refine ⟨k, e1, ?_⟩
    rw [e2, ← h2, List.drop_length, List.append_nil])
  rw [List.drop_length] at r
  cases r
  exact b
theorem kb_all (F : FunD K x qual params body scope [] [] f fd) (n : Nat) (ks : List Str)
    (h : ∀ (kV doc pm : Value) (an : Option Addr) (cdv ct : Value) (us ws : List Value), us.length = n → ws.length = ks.length → bindArgs (PySem.W.fnOf x qual params body scope .none kV doc pm an cdv ct) ⟨us, ks.zip ws⟩ = pure (ps.zip (us ++ ws))) :
    KBn K fd ps n ks (fun us ws => us ++ ws) (fun vs zs => vs ++ zs) := by
  obtain ⟨oc, od, dV, kV, doc, pm, an, cdv, ct, osl, rfl, lk, hcd, hD, hK⟩ := F.ex
  rcases hD with ⟨_, rfl⟩ | ⟨e, _⟩
  · exact ⟨fun s us ws _ l1 l2 => .of_eq (h kV doc pm an cdv ct us ws l1 l2), fun r1 r2 => r1.append r2⟩
  · exact absurd rfl e
/-- the defaults behind the first j fill up -/
theorem kb_def (F : FunD K x qual params body scope dvs [] f fd) (hd : dvs ≠ []) (n j : Nat) (ks : List Str)
    (h : ∀ (T : Addr) (kV doc pm : Value) (an : Option Addr) (cdv ct : Value) (us its ws : List Value), us.length = n → its.length = dvs.length → ws.length = ks.length →
      ∃ k, bindArgs (PySem.W.fnOf x qual params body scope (.ref T) kV doc pm an cdv ct) ⟨us, ks.zip ws⟩ = seqItems? (.ref T) >>= k ∧ k (some its.toArray) = pure (ps.zip (us ++ ws ++ its.drop j))) :
    ∃ its : List Value, KBn K fd ps n ks (fun us ws => us ++ ws ++ its.drop j) (fun vs zs => vs ++ zs ++ dvs.drop j) := by
  obtain ⟨oc, od, dV, kV, doc, pm, an, cdv, ct, osl, rfl, lk, hcd, hD, hK⟩ := F.ex
  rcases hD with ⟨e, _⟩ | ⟨_, T, o, its, m, rfl, lT, oT, rT⟩
  · exact absurd e hd
  · refine ⟨its, ⟨fun s us ws X l1 l2 => ?_, fun r1 r2 => (r1.append r2).append (rT.drop j)⟩⟩
    obtain ⟨k, e1, e2⟩ := h T kV doc pm an cdv ct us its ws l1 rT.length.symm l2
    refine BindsTo.of_looks fun M => ?_
    rw [e1]
    exact looks_items X lT oT (.of_pure e2)
theorem fund_mkN {st : Stmt} {oc : Value} {od an : Option Addr} {osl : Array (Option Value)} {kV doc pm cdv ct : Value} (l : K.lookup f = some ⟨oc, od, .func (PySem.W.fnOf x qual (defArgs st) (defBody st) (defScope st) .none kV doc pm an cdv ct), osl⟩)
    (c : PySem.W.codeIn K cdv qual = true) (k : PySem.W.keepIn K (.ref f) = true) : FunD K x qual (defArgs st) (defBody st) (defScope st) [] [] f (PySem.W.fnOf x qual (defArgs st) (defBody st) (defScope st) .none kV doc pm an cdv ct) := fund_mk l c k
theorem fund_mkR {st : Stmt} {T : Addr} {oc : Value} {od an : Option Addr} {osl : Array (Option Value)} {kV doc pm cdv ct u : Value} {o : Obj} {n : Nat} {d : V} (l : K.lookup f = some ⟨oc, od, .func (PySem.W.fnOf x qual (defArgs st) (defBody st) (defScope st) (.ref T) kV doc pm an cdv ct), osl⟩)
    (c : PySem.W.codeIn K cdv qual = true) (k : PySem.W.keepIn K (.ref f) = true) (lT : K.lookup T = some o) (hT : o.data = .seq #[u] n) (r : RelV d u) : FunD K x qual (defArgs st) (defBody st) (defScope st) [d] [] f (PySem.W.fnOf x qual (defArgs st) (defBody st) (defScope st) (.ref T) kV doc pm an cdv ct) := fund_mk1 l c k lT hT r
end
end M

set_option Elab.async false
set_option linter.all false
set_option maxRecDepth 100000
set_option maxHeartbeats 2000000
namespace M
open PySem L2
section
variable {X : Cx} {G : Gx} {S : List Sl} {τ β : Type} {sl : τ → List Sl} {sb : β → List Sl} {a b c e : Expr} {na nb nc : N D} {pos : Pos} {body : List Stmt}
/-! x is None -/
def isNonD : D → Bool
  | .non => true
  | _ => false
theorem isNon_rp {Z : Zt} {F : Ty} {v : V} {d : D} (r : Rp Z F v d) : decide (v = V.non) = isNonD d := by
  cases r <;> first | rfl | exact decide_eq_false (fun z => by cases z)
def dIsN (x y : D) : N D := match y with
  | .non => .ok (.bl (isNonD x))
  | _ => .stuck
def dNotN (x y : D) : N D := match y with
  | .non => .ok (.bl (!isNonD x))
  | _ => .stuck
theorem dIsN_tot (x y : D) : Tot (dIsN x y) := by
  unfold dIsN
  split <;> first | exact Tot.ok _ | exact Tot.stuck
theorem dNotN_tot (x y : D) : Tot (dNotN x y) := by
  unfold dNotN
  split <;> first | exact Tot.ok _ | exact Tot.stuck
theorem r2_IsN : R2D G (fun x y H Q => y = .non ∧ Q (.bl (decide (x = .non))) H) dIsN := by
  intro F H x y v u Q ok rx ry q
  unfold dIsN at q
  split at q
  · refine ⟨rp_non ry, ?_⟩
    rw [isNon_rp rx]
    exact q _ F H (Ext.refl ok) (.bl _)
  · exact q.elim
theorem r2_NotN : R2D G (fun x y H Q => y = .non ∧ Q (.bl (!decide (x = .non))) H) dNotN := by
  intro F H x y v u Q ok rx ry q
  unfold dNotN at q
  split at q
  · refine ⟨rp_non ry, ?_⟩
    rw [isNon_rp rx]
    exact q _ F H (Ext.refl ok) (.bl _)
  · exact q.elim
/-! x[k] = e, x a list of our own -/
def setAt (ds : List D) (k v : D) : N (List D) := match k with
  | .int k => match ixN ds.length k with
    | some j => .ok (ds.set j v)
    | none => .stuck
  | _ => .stuck
theorem ds_setO {i : Nat} {x : Str} {px ps : Pos} {ds : List D} (hi : S[i]? = some (.own (.lst ds))) (hN : X.N[i]? = some x) (ha : PE X a (eV G S na)) (hb : PE X b (eV G S nb)) (hv : Vis X.env.scope x := by first | exact Or.inl rfl | exact Or.inr (Or.inl rfl) | exact Or.inr (Or.inr rfl))
    (hd : (x == ("__debug__" : Str)) = false := by decide) (hcd : (x == ("__classdict__" : Str)) = false := by decide)
    (hx : ∀ v, assign (.Subscript (.Name x px) a ps) X.env v = (do
      let ov ← holding [v] (eval (.Name x px) X.env)
      let iv ← holding [v, ov] (eval a X.env)
      standAt ps
      holding [v, ov, iv] (setItem ov iv v)
      release [v, ov, iv] []) := by intro _; rfl)
    (hs : swapsWithSole [.Subscript (.Name x px) a ps] b pos.line X.env = pure false := by rfl) (hw : swappedStores [.Subscript (.Name x px) a ps] b X.env = pure none := by rfl)
    (h1 : (assignEach [.Subscript (.Name x px) a ps] X.env).map (·.2) = [assign (.Subscript (.Name x px) a ps) X.env] := by rfl) :
    PS X (.Assign [.Subscript (.Name x px) a ps] b pos) (sV G S (fun ds' : List D => S.set i (.own (.lst ds'))) sb (nb.bind fun v => na.bind fun k => (setAt ds k v).bind fun ds' => .ok (.nx ds'))) :=
  PS.imp (ps_asg hb (pg_sub (pe_var (i := i) hN hv hd hcd) ha set_list hx) hs hw h1) fun E σ H ⟨F, A, q⟩ => by
    obtain ⟨l, u, e, hu, nF, nB, vs, eu, r⟩ := A.sl i _ hi
    subst eu
    refine ⟨F, A, nb.mono (fun d q1 v F1 H1 e1 r1 => ?_) (fun _ _ z => z) q⟩
    have A1 := A.go e1
    obtain ⟨hF1, hu1⟩ := ext_lst e1 nF hu
    refine ⟨.ref l, e, F1, A1, na.mono (fun k q2 w F2 H2 e2 r2 => ?_) (fun _ _ z => z) q1⟩
    obtain ⟨hF2, hu2⟩ := ext_lst e2 hF1 hu1
    have A2 := A1.go e2
    have q2 : (setAt ds k d).wp (fun ds' => flP G F (fun ds' : List D => S.set i (.own (.lst ds'))) sb E (.nx ds')) G.Er := q2
    unfold setAt at q2
    split at q2
    · rename_i kk
      split at q2
      · rename_i j hj
        refine ⟨l, vs, _, j, rfl, rp_int r2, hu2, by rw [r.length]; exact hj, ?_⟩
        have q3 : ∀ F' σ' H', Ex F F' → At G.Z G.B (S.set i (.own (.lst (ds.set j d)))) F' σ' H' → E.nx σ' H' := q2
        exact q3 F2 σ _ (e1.ex.trans e2.ex) (A2.put hi e ⟨_, rfl, ((r.ex e1.ex).ex e2.ex).set j (r1.ex e2.ex)⟩)
      · exact (show False from q2).elim
    · exact (show False from q2).elim
/-! while -/
def N.while {τ β : Type} (t : τ → N Bool) (body : τ → N (Fl τ τ)) : Nat → τ → N (Fl τ β)
  | 0, _ => .stuck
  | n + 1, s => (t s).bind fun b => if b = true then (body s).bind fun f => match f with
      | .nx s' => N.while t body n s'
      | .ct s' => N.while t body n s'
      | .bk s' => .ok (.nx s')
      | .rt d => .ok (.rt d)
    else .ok (.nx s)
theorem PT.ex {X : Cx} {e : Expr} {ι : Type} {u : ι → TT} (h : ∀ t, PT X e (u t)) : PT X e (fun σ H Q => ∃ t, u t σ H Q) := ⟨fun pins s σ H Q I ⟨t, q⟩ => (h t).run pins s σ H Q I q⟩
theorem ds_while {tn : τ → N Bool} {bn : τ → N (Fl τ τ)} (n : Nat) (t0 : τ) (hp : PassesOwn (model X.prog X.w) X.A X.env X.xe) (h0 : Wk S (sl t0)) (hc : ∀ t, PT X c (tV G (sl t) (tn t))) (hb : ∀ t, PSs X body (sV G (sl t) sl sl (bn t))) :
    PS X (.While c body [] pos) (sV G S sl sb (N.while tn bn n t0)) := by
  refine PS.imp (ps_while hp (PT.ex hc) (PSs.ex hb)) fun E σ H ⟨F, A, q⟩ => ?_
  refine ⟨fun m σ H => ∃ t F1, Ex F F1 ∧ At G.Z G.B (sl t) F1 σ H ∧ (N.while (β := β) tn bn m t).wp (flP G F sl sb E) G.Er, ⟨n, t0, F, Ex.refl F, A.weak h0, q⟩, ?_⟩
  rintro m σ H ⟨t, F1, e1, A1, q1⟩
  match m, q1 with
  | m + 1, q1 =>
    refine ⟨t, F1, A1, (tn t).mono (fun b q2 F2 H2 e2 => ?_) (fun _ _ z => z) q1⟩
    cases b with
    | true =>
      rw [if_pos rfl]
      have q2 : ((bn t).bind fun f => match f with
          | .nx s' => N.while (β := β) tn bn m s'
          | .ct s' => N.while tn bn m s'
          | .bk s' => .ok (.nx s')
          | .rt d => .ok (.rt d)).wp (flP G F sl sb E) G.Er := q2
      refine ⟨fun σ' H' => ∃ t F3, Ex F F3 ∧ At G.Z G.B (sl t) F3 σ' H' ∧ (N.while (β := β) tn bn m t).wp (flP G F sl sb E) G.Er, fun σ' H' h => ⟨m, Nat.lt_succ_self m, h⟩, t, F2, A1.go e2, (bn t).mono (fun f q3 => ?_) (fun _ _ z => z) q2⟩
      cases f with
      | nx t' => exact fun F3 σ3 H3 e3 A3 => ⟨t', F3, (e1.trans e2.ex).trans e3, A3, q3⟩
      | ct t' => exact fun F3 σ3 H3 e3 A3 => ⟨t', F3, (e1.trans e2.ex).trans e3, A3, q3⟩
      | bk t' => exact fun F3 σ3 H3 e3 A3 => q3 F3 σ3 H3 ((e1.trans e2.ex).trans e3) A3
      | rt d => exact q3
    | false =>
      have q2 : ∀ F' σ' H', Ex F F' → At G.Z G.B (sl t) F' σ' H' → E.nx σ' H' := q2
      exact q2 F2 σ H2 (e1.trans e2.ex) (A1.go e2)
/-! a, b = e1, e2 and a, b = e -/
def two (d : D) : N (D × D) := match d with
  | .tup [x, y] => .ok (x, y)
  | _ => .stuck
theorem ds_unp2 {i j : Nat} {x y : Str} {px py pt : Pos} {kt} (hc : X.calm = true) (hK : G.Z.K = X.K) (hN : X.N.Nodup) (ha : PE X a (eV G S na)) (hi : X.N[i]? = some x) (hj : X.N[j]? = some y)
    (hx : Loc X.env.scope x) (hy : Loc X.env.scope y) (hfx : X.fn x = true ∨ X.env.scope.names.lookup x = some .local := by first | exact .inl rfl | exact .inr rfl) (hfy : X.fn y = true ∨ X.env.scope.names.lookup y = some .local := by first | exact .inl rfl | exact .inr rfl)
    (hs : swapsWithSole [.Tuple [.Name x px, .Name y py] kt pt] a pos.line X.env = pure false := by rfl) (hw : swappedStores [.Tuple [.Name x px, .Name y py] kt pt] a X.env = pure none := by rfl)
    (hn : (assignEach [.Name x px, .Name y py] X.env).length = 2 := by rfl) (hst : (assignEach [.Name x px, .Name y py] X.env).findIdx? (·.1) = none := by rfl) :
    PS X (.Assign [.Tuple [.Name x px, .Name y py] kt pt] a pos) (sV G S (fun t : D × D => (S.set i (.dat t.1)).set j (.dat t.2)) sb (na.bind fun d => (two d).bind fun t => .ok (.nx t))) :=
  PS.imp (ps_asg ha (pg_tup (n := 2) hc (pgs_cons (pg_name (i := i) hN hi hx hfx) (pgs_cons (pg_name (i := j) hN hj hy hfy) pgs_nil)) hn hst) hs hw) fun E σ H ⟨F, A, q⟩ => ⟨F, A, na.mono (fun d q1 v F1 H1 e1 r1 => by
    have q1 : (two d).wp (fun t => flP G F (fun t : D × D => (S.set i (.dat t.1)).set j (.dat t.2)) sb E (.nx t)) G.Er := q1
    unfold two at q1
    split at q1
    · rename_i d1 d2
      cases r1 with
      | tup r l =>
        rename_i a vs
        have A1 := A.go e1
        cases l with
        | cons r1 l =>
          cases l with
          | cons r2 l =>
            cases l
            exact ⟨a, _, rfl, by rw [← hK]; exact sqT_of A1.ok r, rfl, _, _, rfl, _, _, rfl, rfl, (show ∀ F' σ' H', Ex F F' → _ → _ from q1) F1 _ H1 e1.ex ((A1.set r1).set r2)⟩
    · exact (show False from q1).elim) (fun _ _ z => z) q⟩
theorem ds_par2 {i j : Nat} {x y : Str} {px py pt : Pos} {kt k2 pt2} (hc : X.calm = true) (hN : X.N.Nodup) (hi : X.N[i]? = some x) (hj : X.N[j]? = some y) (hij : i ≠ j) (hx : X.env.scope.names.lookup x = some .local) (hy : X.env.scope.names.lookup y = some .local)
    (ha : PE X a (eV G S na)) (hb : PE X b (eV G S nb)) (h1 : starEach [a, b] X.env = (false, eval a X.env) :: starEach [b] X.env := by rfl) (h2 : starEach [b] X.env = (false, eval b X.env) :: starEach [] X.env := by rfl)
    (hw : swappedStores [.Tuple [.Name x px, .Name y py] kt pt] (.Tuple [a, b] k2 pt2) X.env = pure (some [x, y]) := by rfl)
    (hs : swapsWithSole [.Tuple [.Name x px, .Name y py] kt pt] (.Tuple [a, b] k2 pt2) pos.line X.env = pure false := by rfl) :
    PS X (.Assign [.Tuple [.Name x px, .Name y py] kt pt] (.Tuple [a, b] k2 pt2) pos) (sV G S (fun t : D × D => (S.set i (.dat t.1)).set j (.dat t.2)) sb (na.bind fun x => nb.bind fun y => .ok (.nx (x, y)))) :=
  PS.imp (ps_par hc hN hi hj hij hx hy (pa_cons ha (pa_cons hb pa_nil h2) h1) hw hs) fun E σ H ⟨F, A, q⟩ => ⟨F, A, na.mono (fun x q1 v F1 H1 e1 r1 => ⟨F1, A.go e1, nb.mono (fun y q2 u F2 H2 e2 r2 => by
    have q3 : ∀ F' σ' H', Ex F F' → At G.Z G.B ((S.set i (.dat x)).set j (.dat y)) F' σ' H' → E.nx σ' H' := q2
    exact ⟨v, u, rfl, q3 F2 _ H2 (e1.ex.trans e2.ex) ((((A.go e1).go e2).set (r1.ex e2.ex)).set r2)⟩) (fun _ _ z => z) q1⟩) (fun _ _ z => z) q⟩
/-! all(..), any(..), sum(..), min(..), max(..), sorted(..) of a list -/
def blsD : List D → Option (List Bool)
  | [] => some []
  | .bl i :: xs => (blsD xs).map (i :: ·)
  | _ :: _ => none
theorem blsD_rp {Z : Zt} {F : Ty} : ∀ {vs : List V} {xs : List D} {ks : List Bool}, RpL Z F vs xs → blsD xs = some ks → vs = ks.map V.bl
  | _, _, _, .nil, h => by unfold blsD at h; cases h; rfl
  | _, _, _, .cons (d := d) (ds := ds) r l, h => by
    cases d with
    | bl i =>
      unfold blsD at h
      cases q : blsD ds with
      | none => rw [q] at h; cases h
      | some ks =>
        rw [q] at h
        cases h
        rw [rp_bl r, blsD_rp l q]
        rfl
    | _ => unfold blsD at h; cases h
def dAll : D → N D
  | .lst xs => match blsD xs with
    | some bs => .ok (.bl (bs.all id))
    | none => .stuck
  | _ => .stuck
def dAny : D → N D
  | .lst xs => match blsD xs with
    | some bs => .ok (.bl (bs.any id))
    | none => .stuck
  | _ => .stuck
def dSum : D → N D
  | .lst xs => match intsD xs with
    | some ns => .ok (.int ns.sum)
    | none => .stuck
  | _ => .stuck
def dMin : D → N D
  | .lst xs => match intsD xs with
    | some ns => (N.asrt (0 < ns.length)).bind fun _ => (N.any fun m : Int => m ∈ ns ∧ ∀ y, y ∈ ns → m ≤ y).bind fun m => .ok (.int m)
    | none => .stuck
  | _ => .stuck
def dMax : D → N D
  | .lst xs => match intsD xs with
    | some ns => (N.asrt (0 < ns.length)).bind fun _ => (N.any fun m : Int => m ∈ ns ∧ ∀ y, y ∈ ns → y ≤ m).bind fun m => .ok (.int m)
    | none => .stuck
  | _ => .stuck
def dSortI : D → N D
  | .lst xs => match intsD xs with
    | some ns => (N.any fun ns' : List Int => ns'.Perm ns ∧ ns'.Pairwise (· ≤ ·)).bind fun ns' => .ok (.lst (ns'.map D.int))
    | none => .stuck
  | _ => .stuck
theorem Tot.any {α : Type} (P : α → Prop) : Tot (N.any P) := fun _ _ h => h
theorem dAll_tot (x : D) : Tot (dAll x) := by
  unfold dAll
  repeat (first | exact Tot.ok _ | exact Tot.stuck | split)
theorem dAny_tot (x : D) : Tot (dAny x) := by
  unfold dAny
  repeat (first | exact Tot.ok _ | exact Tot.stuck | split)
theorem dSum_tot (x : D) : Tot (dSum x) := by
  unfold dSum
  repeat (first | exact Tot.ok _ | exact Tot.stuck | split)
theorem dMin_tot (x : D) : Tot (dMin x) := by
  unfold dMin
  repeat (first | exact (Tot.asrt _).bind fun _ => (Tot.any _).bind fun _ => Tot.ok _ | exact Tot.stuck | split)
theorem dMax_tot (x : D) : Tot (dMax x) := by
  unfold dMax
  repeat (first | exact (Tot.asrt _).bind fun _ => (Tot.any _).bind fun _ => Tot.ok _ | exact Tot.stuck | split)
theorem dSortI_tot (x : D) : Tot (dSortI x) := by
  unfold dSortI
  repeat (first | exact (Tot.any _).bind fun _ => Tot.ok _ | exact Tot.stuck | split)
theorem de_all {p : Pos} (hc : X.calm = true) (hK : G.Z.K = X.K) (hm : X.mg "all" = none) (ha : PE X a (eV G S na)) (hg : Gl X "all" := by rfl) (he : starEach (a :: []) X.env = (false, eval a X.env) :: starEach [] X.env := by rfl) (hpl : (backTo pos (starEach [] X.env)).any (·.1) = false := by rfl) :
    PE X (.Call (.Name "all" p) [a] [] pos) (eV G S (na.bind dAll)) := de_b1 (cr_all hc) (fun F H xs vs Q ok l q => by
  obtain ⟨v, d, rfl, rfl, r, q⟩ := one_of l q
  unfold dAll at q
  split at q
  · split at q
    · rename_i bs hb
      cases r with
      | lst r l => exact ⟨_, bs, rfl, by rw [← blsD_rp l hb, ← hK]; exact RL.sq ok r, q _ F H (Ext.refl ok) (.bl _)⟩
    · exact (show False from q).elim
  · exact (show False from q).elim) dAll_tot hm (by decide +kernel) ha hg (by decide) (by decide) he hpl
theorem de_any {p : Pos} (hc : X.calm = true) (hK : G.Z.K = X.K) (hm : X.mg "any" = none) (ha : PE X a (eV G S na)) (hg : Gl X "any" := by rfl) (he : starEach (a :: []) X.env = (false, eval a X.env) :: starEach [] X.env := by rfl) (hpl : (backTo pos (starEach [] X.env)).any (·.1) = false := by rfl) :
    PE X (.Call (.Name "any" p) [a] [] pos) (eV G S (na.bind dAny)) := de_b1 (cr_any hc) (fun F H xs vs Q ok l q => by
  obtain ⟨v, d, rfl, rfl, r, q⟩ := one_of l q
  unfold dAny at q
  split at q
  · split at q
    · rename_i bs hb
      cases r with
      | lst r l => exact ⟨_, bs, rfl, by rw [← blsD_rp l hb, ← hK]; exact RL.sq ok r, q _ F H (Ext.refl ok) (.bl _)⟩
    · exact (show False from q).elim
  · exact (show False from q).elim) dAny_tot hm (by decide +kernel) ha hg (by decide) (by decide) he hpl
theorem de_sum {p : Pos} (hc : X.calm = true) (hK : G.Z.K = X.K) (hm : X.mg "sum" = none) (ha : PE X a (eV G S na)) (hg : Gl X "sum" := by rfl) (he : starEach (a :: []) X.env = (false, eval a X.env) :: starEach [] X.env := by rfl) (hpl : (backTo pos (starEach [] X.env)).any (·.1) = false := by rfl) :
    PE X (.Call (.Name "sum" p) [a] [] pos) (eV G S (na.bind dSum)) := de_b1 (cr_sum hc) (fun F H xs vs Q ok l q => by
  obtain ⟨v, d, rfl, rfl, r, q⟩ := one_of l q
  unfold dSum at q
  split at q
  · split at q
    · rename_i ns hb
      cases r with
      | lst r l => exact ⟨_, ns, rfl, by rw [← intsD_rp l hb, ← hK]; exact RL.sq ok r, q _ F H (Ext.refl ok) (.int _)⟩
    · exact (show False from q).elim
  · exact (show False from q).elim) dSum_tot hm (by decide +kernel) ha hg (by decide) (by decide) he hpl
theorem de_min {p : Pos} (hc : X.calm = true) (hK : G.Z.K = X.K) (hm : X.mg "min" = none) (ha : PE X a (eV G S na)) (hg : Gl X "min" := by rfl) (he : starEach (a :: []) X.env = (false, eval a X.env) :: starEach [] X.env := by rfl) (hpl : (backTo pos (starEach [] X.env)).any (·.1) = false := by rfl) :
    PE X (.Call (.Name "min" p) [a] [] pos) (eV G S (na.bind dMin)) := de_b1 (cr_min hc) (fun F H xs vs Q ok l q => by
  obtain ⟨v, d, rfl, rfl, r, q⟩ := one_of l q
  unfold dMin at q
  split at q
  · split at q
    · rename_i ns hb
      cases r with
      | lst r l =>
        obtain ⟨h0, q⟩ := q
        exact ⟨_, ns, rfl, by rw [← intsD_rp l hb, ← hK]; exact RL.sq ok r, h0, fun m h1 h2 => q m ⟨h1, h2⟩ _ F H (Ext.refl ok) (.int _)⟩
    · exact (show False from q).elim
  · exact (show False from q).elim) dMin_tot hm (by decide +kernel) ha hg (by decide) (by decide) he hpl
theorem de_max {p : Pos} (hc : X.calm = true) (hK : G.Z.K = X.K) (hm : X.mg "max" = none) (ha : PE X a (eV G S na)) (hg : Gl X "max" := by rfl) (he : starEach (a :: []) X.env = (false, eval a X.env) :: starEach [] X.env := by rfl) (hpl : (backTo pos (starEach [] X.env)).any (·.1) = false := by rfl) :
    PE X (.Call (.Name "max" p) [a] [] pos) (eV G S (na.bind dMax)) := de_b1 (cr_max hc) (fun F H xs vs Q ok l q => by
  obtain ⟨v, d, rfl, rfl, r, q⟩ := one_of l q
  unfold dMax at q
  split at q
  · split at q
    · rename_i ns hb
      cases r with
      | lst r l =>
        obtain ⟨h0, q⟩ := q
        exact ⟨_, ns, rfl, by rw [← intsD_rp l hb, ← hK]; exact RL.sq ok r, h0, fun m h1 h2 => q m ⟨h1, h2⟩ _ F H (Ext.refl ok) (.int _)⟩
    · exact (show False from q).elim
  · exact (show False from q).elim) dMax_tot hm (by decide +kernel) ha hg (by decide) (by decide) he hpl
theorem rpl_int {Z : Zt} {F : Ty} : ∀ ns : List Int, RpL Z F (ns.map V.int) (ns.map D.int)
  | [] => .nil
  | n :: ns => .cons (.int n) (rpl_int ns)
theorem de_sortI {p : Pos} (hK : G.Z.K = X.K) (hm : X.mg "sorted" = none) (ha : PE X a (eV G S na)) (hc : CallR X (.builtin "sorted") (rSortedI X.K)) (hg : Gl X "sorted" := by rfl) (he : starEach (a :: []) X.env = (false, eval a X.env) :: starEach [] X.env := by rfl) (hpl : (backTo pos (starEach [] X.env)).any (·.1) = false := by rfl) :
    PE X (.Call (.Name "sorted" p) [a] [] pos) (eV G S (na.bind dSortI)) := de_b1 hc (fun F H xs vs Q ok l q => by
  obtain ⟨v, d, rfl, rfl, r, q⟩ := one_of l q
  unfold dSortI at q
  split at q
  · split at q
    · rename_i ns hb
      cases r with
      | lst r l =>
        refine ⟨_, ns, rfl, by rw [← intsD_rp l hb, ← hK]; exact RL.sq ok r, fun ns' p h1 h2 hp => ?_⟩
        have hq : ∀ v F' H', Ext F H F' H' → Rp G.Z F' v (.lst (ns'.map D.int)) → Q v H' := q ns' ⟨h1, h2⟩
        obtain ⟨e4, r4⟩ := new_lst ok hp (rpl_int (Z := G.Z) (F := F) ns')
        exact hq _ _ _ e4 r4
    · exact (show False from q).elim
  · exact (show False from q).elim) dSortI_tot hm (by decide +kernel) ha hg (by decide) (by decide) he hpl
end
end M

set_option Elab.async false
set_option linter.all false
set_option maxRecDepth 100000
set_option maxHeartbeats 2000000
namespace M
open PySem L2
/-! ### reckoning with mirrors -/
theorem N.eq_of {α : Type} {a b : N α} (h : ∀ k e, a.wp k e ↔ b.wp k e) : a = b := by
  cases a with
  | mk wa ma =>
    cases b with
    | mk wb mb =>
      have e : wa = wb := funext fun k => funext fun x => propext (h k x)
      subst e
      rfl
theorem N.asrt_of {p : Prop} (h : p) : N.asrt p = N.ok () := N.eq_of fun k e => ⟨fun q => q.2, fun q => ⟨h, q⟩⟩
section
variable {α β γ τ τ1 : Type}
@[simp] theorem N.ok_seq (t : τ1) (m : τ1 → N (Fl τ β)) : N.seq (.ok (.nx t)) m = m t := rfl
@[simp] theorem N.rt_seq (d : D) (m : τ1 → N (Fl τ β)) : N.seq (.ok (.rt d)) m = .ok (.rt d) := rfl
@[simp] theorem N.err_seq (c : Nat) (x : D) (m : τ1 → N (Fl τ β)) : N.seq (.err c x) m = .err c x := rfl
@[simp] theorem N.bind_seq (n : N α) (f : α → N (Fl τ1 β)) (m : τ1 → N (Fl τ β)) : N.seq (n.bind f) m = n.bind fun x => N.seq (f x) m := rfl
theorem N.seq_seq {τ2 : Type} (n : N (Fl τ2 β)) (f : τ2 → N (Fl τ1 β)) (m : τ1 → N (Fl τ β)) : N.seq (N.seq n f) m = n.seq fun x => N.seq (f x) m := N.eq_of fun k e => by
  show n.wp _ e ↔ n.wp _ e
  constructor
  · exact n.mono (fun a z => by cases a <;> exact z) (fun _ _ z => z)
  · exact n.mono (fun a z => by cases a <;> exact z) (fun _ _ z => z)
@[simp] theorem N.rt_fin (d : D) : (N.ok (Fl.rt d) : N (Fl τ β)).fin = .ok d := rfl
@[simp] theorem N.nx_fin (t : τ) : (N.ok (Fl.nx t) : N (Fl τ β)).fin = .ok .non := rfl
@[simp] theorem N.err_fin (c : Nat) (x : D) : (N.err c x : N (Fl τ β)).fin = .err c x := rfl
@[simp] theorem N.bind_fin (n : N α) (f : α → N (Fl τ β)) : (n.bind f).fin = n.bind fun x => (f x).fin := rfl
@[simp] theorem N.tst_bl (b : Bool) : N.tst (.bl b) = .ok b := rfl
theorem N.ite_t {a b : α} : (if true = true then a else b) = a := if_pos rfl
theorem N.ite_f {a b : α} : (if false = true then a else b) = b := if_neg Bool.false_ne_true
theorem N.wp_ok (a : α) (k e) : (N.ok a).wp k e = k a := rfl
theorem N.wp_err (c : Nat) (x : D) (k : α → Prop) (e) : (N.err c x).wp k e = e c x := rfl
theorem N.wp_bind (n : N α) (f : α → N β) (k e) : (n.bind f).wp k e = n.wp (fun a => (f a).wp k e) e := rfl
theorem N.try_ok (a : α) (h : Nat → D → N α) : (N.ok a).tryC h = .ok a := rfl
theorem N.try_err (c : Nat) (x : D) (h : Nat → D → N α) : (N.err c x).tryC h = h c x := rfl
theorem N.ne_ok (a : α) : N.ne (N.ok a) = .ok a := rfl
theorem N.le1_of {xs : List α} (h : xs.length ≤ sizeLine) : N.le1 xs = .ok () := N.asrt_of h
theorem N.fits_of {xs : List α} (h : xs.length ≤ sizeLine) : N.fits xs = .ok () := N.asrt_of h
theorem size64 : 64 ≤ sizeLine := by rw [sizeLine_eq]; decide
/-- a loop by an invariant that counts what is left -/
theorem N.loop_wp {body : α → τ → N (Fl τ τ)} (I : Nat → τ → Prop) {k : Fl τ β → Prop} {e : Nat → D → Prop}
    (hb : ∀ x t n, I (n + 1) t → (body x t).wp (fun f => match f with | .nx t' => I n t' | .ct t' => I n t' | .bk t' => k (.nx t') | .rt d => k (.rt d)) e) (h0 : ∀ t, I 0 t → k (.nx t)) :
    ∀ (xs : List α) (t : τ), I xs.length t → (N.loop (β := β) body xs t).wp k e
  | [], t, h => h0 t h
  | x :: xs, t, h => (body x t).mono (fun f z => by
      cases f with
      | nx t' => exact N.loop_wp I hb h0 xs t' z
      | ct t' => exact N.loop_wp I hb h0 xs t' z
      | bk t' => exact z
      | rt d => exact z) (fun _ _ z => z) (hb x t xs.length h)
theorem N.loop_then {τ2 : Type} {body : α → τ → N (Fl τ τ)} {m : τ → N (Fl τ2 β)} (I : Nat → τ → Prop) {k : D → Prop} {e : Nat → D → Prop}
    (hb : ∀ x t n, I (n + 1) t → (body x t).wp (fun f => match f with | .nx t' => I n t' | .ct t' => I n t' | .bk t' => (m t').fin.wp k e | .rt d => k d) e) (h0 : ∀ t, I 0 t → (m t).fin.wp k e)
    (xs : List α) (t : τ) (h : I xs.length t) : (N.fin (N.seq (N.loop body xs t) m)).wp k e :=
  (N.loop (β := β) body xs t).mono (fun f z => by cases f <;> exact z) (fun _ _ z => z) (N.loop_wp (β := β) (k := fun f => match f with | .nx t => (m t).fin.wp k e | .rt d => k d | .bk b => False | .ct b => False) I hb h0 xs t h)
/-- a loop of which each turn goes on, as a fold -/
theorem N.loop_ok {body : α → τ → N (Fl τ τ)} {step : α → τ → τ} : ∀ (xs : List α) (t : τ), (∀ x ∈ xs, ∀ t, body x t = .ok (.nx (step x t))) → (N.loop (β := β) body xs t) = .ok (.nx (xs.foldl (fun t x => step x t) t))
  | [], t, _ => rfl
  | x :: xs, t, h => by
    show (body x t).bind _ = _
    rw [h x (List.mem_cons_self) t]
    exact N.loop_ok xs (step x t) fun y hy => h y (List.mem_cons_of_mem _ hy)
/-- the same where something is known of the items -/
theorem N.loop_wpM {body : α → τ → N (Fl τ τ)} (R : α → Prop) (I : Nat → τ → Prop) {k : Fl τ β → Prop} {e : Nat → D → Prop}
    (hb : ∀ x t n, R x → I (n + 1) t → (body x t).wp (fun f => match f with | .nx t' => I n t' | .ct t' => I n t' | .bk t' => k (.nx t') | .rt d => k (.rt d)) e) (h0 : ∀ t, I 0 t → k (.nx t)) :
    ∀ (xs : List α) (t : τ), (∀ x ∈ xs, R x) → I xs.length t → (N.loop (β := β) body xs t).wp k e
  | [], t, _, h => h0 t h
  | x :: xs, t, hr, h => (body x t).mono (fun f z => by
      cases f with
      | nx t' => exact N.loop_wpM R I hb h0 xs t' (fun y hy => hr y (List.mem_cons_of_mem _ hy)) z
      | ct t' => exact N.loop_wpM R I hb h0 xs t' (fun y hy => hr y (List.mem_cons_of_mem _ hy)) z
      | bk t' => exact z
      | rt d => exact z) (fun _ _ z => z) (hb x t xs.length (hr x List.mem_cons_self) h)
theorem N.loop_thenM {τ2 : Type} {body : α → τ → N (Fl τ τ)} {m : τ → N (Fl τ2 β)} (R : α → Prop) (I : Nat → τ → Prop) {k : D → Prop} {e : Nat → D → Prop}
    (hb : ∀ x t n, R x → I (n + 1) t → (body x t).wp (fun f => match f with | .nx t' => I n t' | .ct t' => I n t' | .bk t' => (m t').fin.wp k e | .rt d => k d) e) (h0 : ∀ t, I 0 t → (m t).fin.wp k e)
    (xs : List α) (t : τ) (hr : ∀ x ∈ xs, R x) (h : I xs.length t) : (N.fin (N.seq (N.loop body xs t) m)).wp k e :=
  (N.loop (β := β) body xs t).mono (fun f z => by cases f <;> exact z) (fun _ _ z => z) (N.loop_wpM (β := β) (k := fun f => match f with | .nx t => (m t).fin.wp k e | .rt d => k d | .bk b => False | .ct b => False) R I hb h0 xs t hr h)
theorem N.loop_nil {body : α → τ → N (Fl τ τ)} (t : τ) : (N.loop (β := β) body [] t) = .ok (.nx t) := rfl
theorem N.loop_go {body : α → τ → N (Fl τ τ)} {x : α} {xs : List α} {t t' : τ} (h : body x t = .ok (.nx t')) : (N.loop (β := β) body (x :: xs) t) = N.loop body xs t' := by
  show (body x t).bind _ = _
  rw [h]
  rfl
theorem N.loop_err {body : α → τ → N (Fl τ τ)} {x : α} {xs : List α} {t : τ} {c : Nat} {d : D} (h : body x t = .err c d) : (N.loop (β := β) body (x :: xs) t) = .err c d := by
  show (body x t).bind _ = _
  rw [h]
  rfl
/-- a comprehension whose tests and elements are known -/
theorem N.comp_ok {t : α → N Bool} {f : α → N D} {p : α → Bool} {g : α → D} : ∀ xs : List α, (∀ x ∈ xs, t x = .ok (p x)) → (∀ x ∈ xs, f x = .ok (g x)) → N.comp t f xs = .ok ((xs.filter p).map g)
  | [], _, _ => rfl
  | x :: xs, ht, hf => by
    show (N.ne (t x)).bind _ = _
    rw [ht x List.mem_cons_self, hf x List.mem_cons_self, N.comp_ok xs (fun y h => ht y (List.mem_cons_of_mem _ h)) (fun y h => hf y (List.mem_cons_of_mem _ h))]
    show (if p x = true then _ else _) = _
    cases h : p x with
    | true => rw [if_pos rfl, List.filter_cons_of_pos h]; rfl
    | false => rw [if_neg Bool.false_ne_true, List.filter_cons_of_neg (by rw [h]; exact Bool.false_ne_true)]
theorem N.comp_all {f : α → N D} {g : α → D} (xs : List α) (hf : ∀ x ∈ xs, f x = .ok (g x)) : N.comp (fun _ => .ok true) f xs = .ok (xs.map g) := by
  rw [N.comp_ok (p := fun _ => true) xs (fun _ _ => rfl) hf, List.filter_eq_self.mpr (fun _ _ => rfl)]
theorem handle_is {hs : List (Hd τ β)} {m : D → N (Fl τ β)} {i : Option Nat} {c : Nat} {ex : Nat → Nat → Bool} {nE : Nat} {x : D} (hc : c < nE) (he : ex c c = true) : handle ex nE c x (⟨c, i, m⟩ :: hs) = N.ne (m x) := by
  show (N.asrt (c < nE)).bind (fun _ => if ex c c = true then N.ne (m x) else handle ex nE c x hs) = _
  rw [N.asrt_of hc]
  show (if ex c c = true then N.ne (m x) else handle ex nE c x hs) = _
  rw [if_pos he]
end
theorem any_wp {n : Int} {k : D → Prop} {e : Nat → D → Prop} (h0 : 0 < n) (h1 : n < 1073741824) (h : ∀ r : Int, 0 ≤ r → r < n → k (.int r)) : (m_law_any (.dl 0) (.int n)).wp k e := ⟨⟨h0, h1⟩, fun r hr => h r hr.1 hr.2⟩
theorem any_bind {β : Type} {n : Int} {f : D → N β} {k : β → Prop} {e : Nat → D → Prop} (h0 : 0 < n) (h1 : n < 1073741824) (h : ∀ r : Int, 0 ≤ r → r < n → (f (.int r)).wp k e) : ((m_law_any (.dl 0) (.int n)).bind f).wp k e := any_wp h0 h1 h
theorem upTo_ok {n : Int} (h0 : 0 ≤ n) (h1 : n < 2 ^ 62) : N.upTo (.int n) = .ok ((List.range n.toNat).map fun i => ((i : Nat) : Int)) := by
  unfold N.upTo
  simp only []
  rw [N.asrt_of ⟨h1, by omega⟩]
  rfl
theorem iOpC_ok {C : Int → Int → Prop} {f : Int → Int → D} {i j : Int} (h : C i j) : iOpC C f (.int i) (.int j) = .ok (f i j) := by
  show (N.asrt (C i j)).bind (fun _ => .ok (f i j)) = _
  rw [N.asrt_of h]
  rfl
theorem iOp_ok {f : Int → Int → D} {i j : Int} : iOp f (.int i) (.int j) = .ok (f i j) := rfl
@[simp] theorem kit_self (a : String) : kitB a a = some true := by
  unfold kitB
  rw [if_pos (by simp)]
@[simp] theorem kit_ni : kitB "NoneType" "int" = some false := by decide +kernel
@[simp] theorem kit_bi : kitB "bool" "int" = some true := by decide +kernel
@[simp] theorem kit_si : kitB "str" "int" = some false := by decide +kernel
@[simp] theorem kit_ti : kitB "tuple" "int" = some false := by decide +kernel
@[simp] theorem kit_li : kitB "list" "int" = some false := by decide +kernel
@[simp] theorem kit_nb : kitB "NoneType" "bool" = some false := by decide +kernel
@[simp] theorem kit_ib : kitB "int" "bool" = some false := by decide +kernel
@[simp] theorem kit_sb : kitB "str" "bool" = some false := by decide +kernel
@[simp] theorem kit_tb : kitB "tuple" "bool" = some false := by decide +kernel
@[simp] theorem kit_lb : kitB "list" "bool" = some false := by decide +kernel
@[simp] theorem kit_ns : kitB "NoneType" "str" = some false := by decide +kernel
@[simp] theorem kit_bs : kitB "bool" "str" = some false := by decide +kernel
@[simp] theorem kit_is : kitB "int" "str" = some false := by decide +kernel
@[simp] theorem kit_ts : kitB "tuple" "str" = some false := by decide +kernel
@[simp] theorem kit_ls : kitB "list" "str" = some false := by decide +kernel
@[simp] theorem kit_nl : kitB "NoneType" "list" = some false := by decide +kernel
@[simp] theorem kit_bl : kitB "bool" "list" = some false := by decide +kernel
@[simp] theorem kit_il : kitB "int" "list" = some false := by decide +kernel
@[simp] theorem kit_sl : kitB "str" "list" = some false := by decide +kernel
@[simp] theorem kit_tl : kitB "tuple" "list" = some false := by decide +kernel
@[simp] theorem kit_nt : kitB "NoneType" "tuple" = some false := by decide +kernel
@[simp] theorem kit_bt : kitB "bool" "tuple" = some false := by decide +kernel
@[simp] theorem kit_it : kitB "int" "tuple" = some false := by decide +kernel
@[simp] theorem kit_st : kitB "str" "tuple" = some false := by decide +kernel
@[simp] theorem kit_lt : kitB "list" "tuple" = some false := by decide +kernel
end M

set_option Elab.async false
set_option linter.all false
set_option maxRecDepth 100000
set_option maxHeartbeats 2000000
namespace M
open PySem PySem.Spec PyProof.Rows L2
/-! ### what the head's run tells: defs and facts by names, and a Bool of our own -/
abbrev AlY : Type := He.AlD × Bool
def obsY (n : Nat) (fa : List He.Fa) (fn : List He.DefD) (ex : PySem.W.Frag → Bool) (g : Addr → Option Obj) : AlY := (He.obsD fa fn (He.frG g (He.asD g n)), ex (He.frG g (He.asD g n)))
def hookY (n : Nat) (fa : List He.Fa) (fn : List He.DefD) (ex : PySem.W.Frag → Bool) : PySem.W.Hook where
  α := AlY
  obs := fun s => obsY n fa fn ex s.heap.get?
  val := fun _ => (He.valD fn, true)
  says := fun _ h => ∃ K : PySem.W.Frag, K.In h ∧ He.SaysD fa fn K ∧ ex K = true
  of := fun _ _ e => ⟨_, He.frG_in, congrArg (fun z : AlY => z.1) e, congrArg (fun z : AlY => z.2) e⟩
  keeps := fun _ _ _ ⟨K, hK, c⟩ k => ⟨K, PySem.W.Frag.In.keeps hK k, c⟩
theorem obsY_eq {n : Nat} {fa : List He.Fa} {fn : List He.DefD} {ex : PySem.W.Frag → Bool} {g : Addr → Option Obj} {s : Shared} (h : ∀ a, g a = s.heap.get? a) : obsY n fa fn ex g = (hookY n fa fn ex).obs s := by
  have e : g = s.heap.get? := funext h
  rw [e] <;> rfl
/-- an own exception class as it stands -/
def clsB (K : PySem.W.Frag) (C : Addr) : Bool := match K.lookup C with
  | some ⟨.type "type", _, .cls cd, sl⟩ => (match cd.mro, sl.toList with
    | .ref C' :: bm, [_, _, _, _, some (.builtin n), _] => C' == C && n == "Exception.__new__" && !cd.hasDel && cd.hasDict && PySem.TErr.ownE bm
    | _, _ => false)
  | _ => false
theorem clsB_ok {K : PySem.W.Frag} {C : Addr} (h : clsB K C = true) : ∃ nm q N bs bm sn sub ab col dd k0 k1 k2 k3 k5, K.lookup C = some (excClassObj nm q C N bs bm true sn sub ab col dd k0 k1 k2 k3 k5 "Exception.__new__") ∧ PySem.TErr.ownE bm = true := by
  unfold clsB at h
  split at h
  · rename_i dd cd sl ho
    split at h
    · rename_i C' bm k0 k1 k2 k3 n k5 hm hs
      simp only [Bool.and_eq_true, beq_iff_eq, Bool.not_eq_true'] at h
      obtain ⟨⟨⟨⟨e1, e2⟩, hdel⟩, hdct⟩, hok⟩ := h
      subst e1 e2
      obtain ⟨nm, bs, mro, ns, qn, hd, sn, sub, ab, col, del⟩ := cd
      dsimp only at hm hdel hdct hok
      subst hm hdel hdct
      have hsl : sl = #[k0, k1, k2, k3, some (.builtin "Exception.__new__"), k5] := by
        obtain ⟨l⟩ := sl
        simp only at hs
        rw [hs]
      subst hsl
      exact ⟨nm, qn, ns, bs, bm, sn, sub, ab, col, dd, k0, k1, k2, k3, k5, ho, hok⟩
    · cases h
  · cases h
/-- what else is asked of such a class, whose field is f -/
def excB (K : PySem.W.Frag) (x f : Str) : Bool :=
  clsB K (He.ga K x) && (He.eqO (PySem.W.findIn K (.ref (He.ga K x)) "__setattr__") (some (some (.builtin "object.__setattr__"))) && (He.eqO (PySem.W.findIn K (.ref (He.ga K x)) "__getattribute__") (some (some (.builtin "BaseException.__getattribute__"))) &&
  (He.eqO (PySem.W.findIn K (.ref (He.ga K x)) "__getattr__") (some none) && (He.eqO (PySem.W.findIn K (.ref (He.ga K x)) f) (some none) && (He.eqO (PySem.W.findIn K (.ref (He.ga K x)) "__init__") (some (some (.ref (He.ma K (He.ga K x) "__init__")))) &&
  (decide (PySem.W.typeIn K (.ref (He.ma K (He.ga K x) "__init__")) = some (.type "function")) && (PySem.W.keepIn K (.ref (He.ga K x)) && (decide (PySem.W.subIn K (.ref (He.ga K x)) (.type "BaseException") = some true) &&
  (decide (PySem.W.typeIn K (.ref (He.ga K x)) = some (.type "type")) && PySem.W.hasDictIn K (He.ga K x))))))))))
theorem etxt_of {K : PySem.W.Frag} {h : Heap} {mg : Str → Option Value} {nm f : String} {qn : Str} {p1 p2 q1 q2 q3 q4 : Pos} {fd : FuncData} (X : K.In h) (G : h.Ns mainGlobals mg) (hf : PySem.TErr.Fld f) (hg : (He.Fa.glo (PySem.Str.ofString nm)).ok K = true)
    (hx : excB K (PySem.Str.ofString nm) (PySem.Str.ofString f) = true) (F : FunD K "__init__" qn (PySem.TErr.iA f p1 p2) (PySem.TErr.iB f q1 q2 q3 q4) (PySem.TErr.iS f) [] [] (He.ma K (He.ga K (PySem.Str.ofString nm)) "__init__") fd) :
    PySem.TErr.ETxt K mg nm f (He.ga K (PySem.Str.ofString nm)) (He.ma K (He.ga K (PySem.Str.ofString nm)) "__init__") := by
  obtain ⟨c1, hx⟩ := He.ba hx
  obtain ⟨c2, hx⟩ := He.ba hx
  obtain ⟨c3, hx⟩ := He.ba hx
  obtain ⟨c4, hx⟩ := He.ba hx
  obtain ⟨c5, hx⟩ := He.ba hx
  obtain ⟨c6, hx⟩ := He.ba hx
  obtain ⟨c7, hx⟩ := He.ba hx
  obtain ⟨c8, hx⟩ := He.ba hx
  obtain ⟨c9, hx⟩ := He.ba hx
  obtain ⟨c10, c11⟩ := He.ba hx
  obtain ⟨oc, od, dV, kV, doc, pm, an, cdv, ct, osl, e, lk, hcd, hD, hK⟩ := F.ex
  subst e
  rcases hD with ⟨_, e⟩ | ⟨e, _⟩
  · subst e
    exact { fld := hf, gC := He.glo_ok X G hg, cls := clsB_ok c1, sa := He.eqO_ok c2, ga := He.eqO_ok c3, gg := He.eqO_ok c4, noN := He.eqO_ok c5, iC := He.eqO_ok c6, tC := of_decide_eq_true c7, kC := c8, exC := of_decide_eq_true c9, tyC := of_decide_eq_true c10, hdC := c11,
            fn := ⟨qn, oc, od, kV, doc, pm, an, cdv, ct, osl, p1, p2, q1, q2, q3, q4, lk, hcd⟩ }
  · exact absurd rfl e
/-- a bare one that is raised -/
def bareB (K : PySem.W.Frag) (x : Str) : Bool := PySem.W.excIn K (He.ga K x) PySem.TErr.endE "Exception.__new__" && (PySem.W.keepIn K (.ref (He.ga K x)) && (decide (PySem.W.subIn K (.ref (He.ga K x)) (.type "BaseException") = some true) && decide (PySem.W.typeIn K (.ref (He.ga K x)) = some (.type "type"))))
theorem bareB_ok {K : PySem.W.Frag} {x : Str} (h : bareB K x = true) : PySem.W.excIn K (He.ga K x) PySem.TErr.endE "Exception.__new__" = true ∧ PySem.W.keepIn K (.ref (He.ga K x)) = true ∧ PySem.W.subIn K (.ref (He.ga K x)) (.type "BaseException") = some true ∧ PySem.W.typeIn K (.ref (He.ga K x)) = some (.type "type") := by
  obtain ⟨c1, h⟩ := He.ba h
  obtain ⟨c2, h⟩ := He.ba h
  obtain ⟨c3, c4⟩ := He.ba h
  exact ⟨c1, c2, of_decide_eq_true c3, of_decide_eq_true c4⟩
/-- which clause takes which error -/
def exB (K : PySem.W.Frag) (nm : Nat → Str) (ex : Nat → Nat → Bool) (nE nC : Nat) : Bool := (List.range nE).all fun c => (List.range nC).all fun d => decide (PySem.W.exmOne K (.ref (He.ga K (nm c))) (.ref (He.ga K (nm d))) = some (ex c d))
theorem exB_ok {K : PySem.W.Frag} {nm : Nat → Str} {ex : Nat → Nat → Bool} {nE nC : Nat} (h : exB K nm ex nE nC = true) (c d : Nat) (hc : c < nE) (hd : d < nC) : PySem.W.exmOne K (.ref (He.ga K (nm c))) (.ref (He.ga K (nm d))) = some (ex c d) := by
  have h1 := List.all_eq_true.mp h c (List.mem_range.mpr hc)
  exact of_decide_eq_true (List.all_eq_true.mp h1 d (List.mem_range.mpr hd))
theorem kt_of {K : PySem.W.Frag} {x : Str} {vs : List He.Dv} (h : He.tupB K x vs = true) : KT K (He.ga K x) (vs.map (He.Dv.v K)) := by
  rcases He.tupB_ok h (fun _ => none) with (z | ⟨o, z⟩) | z
  · cases z
  · cases z
  · exact z
/-! ### the law -/
/-- what the law promises of a script; tl: the tables of code objects, empty yet -/
def spLaw (K : PySem.W.Frag) (tl : List (Addr × Str)) : Sp := fun vs H Q _ => ∃ (a : Addr) (ns : List Int), vs = [.ref a] ∧ SqL K H a (ns.map V.int) ∧ ns.length ≤ 63 ∧ (∀ p ∈ tl, H p.1 = some (.tbl #[])) ∧ ∀ H', Q (.bl true) H'
/-- what is known at the start: the tables -/
def startF (tl : List (Addr × Str)) : Ty := fun a => (tl.lookup a).map pTab
theorem lookup_in {tl : List (Addr × Str)} {a : Addr} {q : Str} : tl.lookup a = some q → (a, q) ∈ tl := by
  induction tl with
  | nil => intro h; cases h
  | cons p r ih =>
    intro h
    obtain ⟨b, x⟩ := p
    by_cases z : a = b
    · subst z
      rw [List.lookup_cons_self] at h
      cases h
      exact List.mem_cons_self
    · rw [List.lookup_cons, show (a == b) = false from by simpa using z] at h
      exact List.mem_cons_of_mem _ (ih h)
theorem lookup_un {tl : List (Addr × Str)} (hu : ∀ p ∈ tl, ∀ q ∈ tl, p.1 = q.1 → p.2 = q.2) {a : Addr} {q : Str} (h : (a, q) ∈ tl) : tl.lookup a = some q := by
  cases e : tl.lookup a with
  | none =>
    exfalso
    rw [List.lookup_eq_none_iff] at e
    have := e _ h
    simp at this
  | some x =>
    have := hu _ (lookup_in e) _ h rfl
    exact congrArg some this
theorem startF_some {tl : List (Addr × Str)} {a : Addr} {p : HO → Prop} (h : startF tl a = some p) : ∃ q, (a, q) ∈ tl ∧ p = pTab q := by
  unfold startF at h
  obtain ⟨q, h1, h2⟩ := Option.map_eq_some_iff.mp h
  exact ⟨q, lookup_in h1, h2.symm⟩
theorem startF_ok {tl : List (Addr × Str)} (hu : ∀ p ∈ tl, ∀ q ∈ tl, p.1 = q.1 → p.2 = q.2) {H : Hp} (hH : ∀ p ∈ tl, H p.1 = some (.tbl #[])) : Okk (startF tl) H := by
  refine ⟨fun a p e => ?_, fun P q e => ?_, ⟨tl, fun P q => ⟨fun e => ?_, fun e => ?_⟩⟩⟩
  · obtain ⟨q, h1, rfl⟩ := startF_some e
    exact ⟨_, hH _ h1, .inl ⟨_, rfl⟩, fun ⟨_, z⟩ => (by cases z), fun _ => ⟨q, rfl⟩, fun _ _ z => (by unfold LamX.CodeO at z; cases z)⟩
  · obtain ⟨q', h1, _⟩ := startF_some e
    exact LamX.TabS.nil (hH _ h1)
  · obtain ⟨q', h1, h2⟩ := startF_some e
    rw [pTab_inj h2]; exact h1
  · unfold startF
    rw [lookup_un hu e]
    rfl
theorem law_start {Z : Zt} {m : D → N D} (hu : ∀ p ∈ Z.tl, ∀ q ∈ Z.tl, p.1 = q.1 → p.2 = q.2) (hm : ∀ ns : List Int, ns.length ≤ 63 → (m (.lst (ns.map D.int))).wp (fun d => d = .bl true) (fun _ _ => False)) (vs : List V) (H : Hp) (Q : VK) (E : XK) (h : spLaw Z.K Z.tl vs H Q E) : spN Z 1 (app1 m) vs H Q E := by
  obtain ⟨a, ns, rfl, hs, hl, hO, q⟩ := h
  refine ⟨rfl, ?_⟩
  have k0 := startF_ok hu hO
  have t0 : TL Z (startF Z.tl) := fun p hp => by
    unfold startF
    rw [lookup_un hu (show (p.1, p.2) ∈ Z.tl from hp)]
    rfl
  have fin : ∀ F, Ex (startF Z.tl) F → Okk F H → RL Z.K F a (ns.map V.int) → ∃ F ds, Okk F H ∧ TL Z F ∧ RpL Z F [.ref a] ds ∧ (app1 m ds).wp (fun d => ∀ v F' H', Ext F H F' H' → Rp Z F' v d → Q v H') (fun c x => ∀ cls dd F' H', Ext F H F' H' → ErrIs Z F' c x cls dd → E cls dd H') := fun F ex ok r =>
    ⟨F, [.lst (ns.map D.int)], ok, t0.ex ex, .cons (.lst r (rpl_int ns)) .nil, (m _).mono (fun d e v F' H' _ r => by subst e; rw [rp_bl r]; exact q H') (fun _ _ z => z.elim) (hm ns hl)⟩
  have nn : ∀ o, H a = some o → (∀ ps, o ≠ .tbl ps) → startF Z.tl a = none := fun o ho nt => by
    cases e : startF Z.tl a with
    | none => rfl
    | some p =>
      obtain ⟨q', h1, _⟩ := startF_some e
      have := hO _ h1
      rw [ho] at this
      exact (nt _ (Option.some.inj this)).elim
  rcases hs with (hr | ⟨o, hr⟩) | hk
  · have n := nn _ hr (fun _ z => by cases z)
    exact fin _ (ex_upd n) (k0.learn n hr ⟨fun _ z => (by cases z), fun _ _ z => (by unfold LamX.CodeO at z; cases z)⟩) (.inl (.inl updT_same))
  · have n := nn _ hr (fun _ z => by cases z)
    exact fin _ (ex_upd n) (k0.learn n hr ⟨fun _ z => (by cases z), fun _ _ z => (by unfold LamX.CodeO at z; cases z)⟩) (.inl (.inr ⟨o, updT_same⟩))
  · exact fin _ (Ex.refl _) k0 (.inr hk)
/-- a def's table, and what its code objects are called -/
def tlOf (K : PySem.W.Frag) (tf : List (He.Defn × Str)) : List (Addr × Str) := tf.map fun p => ((He.cT K p.1).2, p.2)
def tlB (K : PySem.W.Frag) (tf : List (He.Defn × Str)) : Bool := (tlOf K tf).all fun p => (tlOf K tf).all fun q => !decide (p.1 = q.1) || decide (p.2 = q.2)
theorem tlB_ok {K : PySem.W.Frag} {tf : List (He.Defn × Str)} (h : tlB K tf = true) : ∀ p ∈ tlOf K tf, ∀ q ∈ tlOf K tf, p.1 = q.1 → p.2 = q.2 := fun p hp q hq e => by
  have h1 := List.all_eq_true.mp (List.all_eq_true.mp h p hp) q hq
  rw [e] at h1
  simpa using h1
theorem lawAt {l : PySem.W.OpenLaw} {w : World} {K : PySem.W.Frag} {k : Nat} {x : Str} {mg : Str → Option Value} {fa : Addr} {h : Heap} {fas : List He.Fa} {fn : List He.DefD} {tf : List (He.Defn × Str)} {ex : PySem.W.Frag → Bool} (X : K.In h) (c : He.SaysX fas fn [] (tf.map (·.1)) ex w h K) {fd : FuncData}
    (hb : ∀ (s : Shared) (u : Value), BindsTo s fd ⟨[u], []⟩ [(x, u)]) (hF : ∀ base : Heap, K.In base → base.Ns mainGlobals mg → (∀ p ∈ tf, LamX.TabB base mg (He.cT K p.1).1 (He.cT K p.1).2) → FnOk l.prog w K mg base (L2.CX l.prog w) k fa fd [x] (spLaw K (tlOf K tf))) :
    LamX.LawAtS l w K (L2.CX l.prog w) k 63 x mg fa h := by
  have mem : ∀ p ∈ tf, He.cT K p.1 ∈ tf.map (fun p => He.cT K p.1) := fun p hp => List.mem_map.mpr ⟨p, hp, rfl⟩
  refine ⟨fd, tf.map fun p => He.cT K p.1, spLaw K (tlOf K tf), fun p hp => ?_, fun p hp => ?_, fun p hp => ?_, hb, fun H a ns hl _ hT hS => ⟨a, ns, rfl, hS, hl, fun p hp => ?_, fun _ => rfl⟩, fun base kin ns hT => hF base kin ns fun p hp => hT _ (mem p hp)⟩
  · obtain ⟨p', hp', rfl⟩ := List.mem_map.mp hp
    exact c.empty _ (List.mem_map.mpr ⟨p', hp', rfl⟩)
  · obtain ⟨p', hp', rfl⟩ := List.mem_map.mp hp
    exact c.out _ (List.mem_map.mpr ⟨p', hp', rfl⟩)
  · obtain ⟨p', hp', rfl⟩ := List.mem_map.mp hp
    exact PySem.W.codeHd_of_K X (c.hd _ (List.mem_map.mpr ⟨p', hp', rfl⟩))
  · obtain ⟨p', hp', rfl⟩ := List.mem_map.mp hp
    exact hT _ (mem p' hp')
theorem walk {l : PySem.W.OpenLaw} {k : Nat} {q : Program} {loose : List Str} {XP : (Str → Option Value) → Heap → Prop} {YP : World → Heap → Prop} {d : DefRec} {x : Str} (hn : l.most = some 63) (hdf : d.params.defaults = []) (hr : Room k callerA)
    (F : ∀ (w : World) (mg : Str → Option Value) (fa : Addr) (h : Heap), YP w h → h.Ns mainGlobals mg → mg d.name = some (.ref fa) → ∃ K : PySem.W.Frag, K.In h ∧ LamX.LawAtS l w K (L2.CX l.prog w) k 63 x mg fa h) :
    PySem.W.WalkO q loose XP YP l.row.toRowW d [] (fun f vs => PySem.call f vs) :=
  LamX.walk_ofTsE (CX := fun w => L2.CX l.prog w) hn (by decide) hdf hr F fun w H s e s' ⟨_, _, _, _, _, _, _, _, _, _, _, _, z⟩ => z
end M

set_option Elab.async false
set_option linter.all false
set_option maxRecDepth 100000
set_option maxHeartbeats 2000000
namespace M
open PySem L2
open PyProof.Rows (envOfC)
/-! ### a lambda handed to a def, called there -/
/-- what a lambda that was handed over does, asked behind the heap H0 -/
def LamR (Z : Zt) (F0 : Ty) (H0 : Hp) (nl : N D) (tl : XK → Hp → VK → Prop) : Prop := ∀ (E : XK) (F : Ty) (H : Hp) (Q : VK), Ext F0 H0 F H →
  nl.wp (fun d => ∀ v F' H', Ext F H F' H' → Rp Z F' v d → Q v H') (fun c x => ∀ cls dd F' H', Ext F H F' H' → ErrIs Z F' c x cls dd → E cls dd H') → tl E H Q
/-- what a def that gets a lambda makes of it, by its mirror -/
def TTm (Z : Zt) (m : N D → N D) : (XK → Hp → VK → Prop) → Hp → VK → Prop := fun tl H Q => ∃ F nl, Okk F H ∧ TL Z F ∧ LamR Z F H nl tl ∧ (m nl).wp (fun d => ∀ v F' H', Ext F H F' H' → Rp Z F' v d → Q v H') (fun _ _ => False)
theorem at_un {Z : Zt} {B : Bs} {F : Ty} {σ : St} {H : Hp} {n : Nat} (e : Ext B.F B.H F H) (fe : Ex B.Fe F) (hl : σ.length = n) (t : TL Z B.F) : At Z B (List.replicate n .un) F σ H := by
  refine ⟨e, fe, by rw [List.length_replicate]; exact hl, fun i s q => ?_, fun i j a l l' u u' c c' q1 => ?_, t⟩
  · rw [List.getElem?_replicate] at q
    split at q
    · cases q; trivial
    · cases q
  · rw [List.getElem?_replicate] at q1
    split at q1
    · cases q1
    · cases q1
/-- the slots have the names' number: no more is needed -/
theorem takes_len {X : Cx} {W : WX} (t : Takes X W) : Takes X (fun cls d σ H => σ.length = X.N.length → W cls d σ H) := fun u s' ⟨a, B, sI, pins, σ, H, cls, d, e, I, nb, up, sky, na, os, ag, w⟩ =>
  t u s' ⟨a, B, sI, pins, σ, H, cls, d, e, I, nb, up, sky, na, os, ag, w I.len⟩
theorem lam_code {F : Ty} {H : Hp} (k : Okk F H) {c : Addr} {q : Str} (h : H c = some (LamX.CodeO c q)) : F c = none := by
  cases e : F c with
  | none => rfl
  | some p =>
    obtain ⟨o, ho, _, _, _, z⟩ := k.at_ _ _ e
    rw [h] at ho
    cases ho
    exact (z c q rfl).elim
/-- work(), in the def that got the lambda -/
theorem de_act {Y : Cx} {G : Gx} {S : List Sl} {pn : List (Addr × Obj)} {xe : Value → Shared → Prop} {a q : Str} {f c' : Addr} {tl : XK → Hp → VK → Prop} {nl : N D} {p1 p2 : Pos}
    (act : ∀ (W : WX) (pn : List (Addr × Obj)) (xe : Value → Shared → Prop) (E : XK) (p1 p2 : Pos), Takes (Y.tr pn xe) W → (∀ cls d σ' H', E cls d H' → W cls d σ' H') →
      PE (Y.tr pn xe) (.Call (.Name a p1) [] [] p2) (fun σZ HZ Q => σZ[0]? = some (some (.ref f)) ∧ HZ c' = some (LamX.CodeO c' q) ∧ tl E HZ Q))
    (hl : LamR G.Z G.B.F G.B.H nl tl) (tk : Takes (Y.tr pn xe) G.W) (hs : S[0]? = some (.lam f c' q) := by rfl) (hSe : G.Se = List.replicate Y.N.length .un := by rfl) :
    PE (Y.tr pn xe) (.Call (.Name a p1) [] [] p2) (eV G S nl) :=
  PE.imp (act (fun cls d σ H => σ.length = Y.N.length → G.W cls d σ H) pn xe (fun cls d H' => ∀ σ' : St, σ'.length = Y.N.length → G.W cls d σ' H') p1 p2 (takes_len (X := Y.tr pn xe) tk) (fun cls d σ' H' h hn => h σ' hn)) fun σ H Q ⟨F, A, q1⟩ => by
    obtain ⟨h1, h2, _⟩ := A.sl 0 _ hs
    refine ⟨h1, h2, hl _ F H Q A.ext (nl.mono (fun d z => z) (fun c x z cls dd F' H' e er σ' hn => ?_) q1)⟩
    refine z cls dd F' σ' H' ?_ er
    rw [hSe]
    exact at_un (A.ext.trans e) (A.fe.trans e.ex) hn A.tl
/-- own slots are hidden from a lambda: they may be changed -/
def hideO : List Sl → List Sl
  | [] => []
  | .own _ :: S => .un :: hideO S
  | s :: S => s :: hideO S
theorem hide_len : ∀ S : List Sl, (hideO S).length = S.length
  | [] => rfl
  | s :: S => by cases s <;> (unfold hideO; rw [List.length_cons, List.length_cons, hide_len S])
theorem hide_get : ∀ (S : List Sl) (i : Nat) (s : Sl), (hideO S)[i]? = some s → s = .un ∨ (S[i]? = some s ∧ ∀ c, s ≠ .own c)
  | [], i, s, h => by unfold hideO at h; simp at h
  | t :: S, 0, s, h => by
    cases t <;> (unfold hideO at h; simp at h; subst h)
    all_goals first | exact .inl rfl | exact .inr ⟨by simp, fun c z => by cases z⟩
  | t :: S, i + 1, s, h => by
    have h' : (hideO S)[i]? = some s := by cases t <;> (unfold hideO at h; simpa using h)
    rcases hide_get S i s h' with z | ⟨z, n⟩
    · exact .inl z
    · exact .inr ⟨by simpa using z, n⟩
theorem at_hide {Z : Zt} {B : Bs} {S : List Sl} {F : Ty} {σ : St} {H : Hp} (A : At Z B S F σ H) : At Z ⟨F, H, F⟩ (hideO S) F σ H := by
  refine ⟨Ext.refl A.ok, Ex.refl F, by rw [hide_len]; exact A.len, fun i s q => ?_, fun i j a l l' u u' c c' q1 => ?_, A.tl'⟩
  · rcases hide_get S i s q with z | ⟨z, n⟩
    · subst z; trivial
    · have := A.sl i s z
      cases s with
      | own c => exact (n c rfl).elim
      | un => trivial
      | dat d => exact this
      | exc a d f x => exact this
      | lam f c q => exact this
  · rcases hide_get S i _ q1 with z | ⟨_, n⟩
    · cases z
    · exact (n c rfl).elim
/-- the def at g, that gets a lambda: it keeps the mirror m -/
structure Giv (P : Program) (w : World) (Z : Zt) (mg : Str → Option Value) (base : Heap) (x a : Str) (m : N D → N D) : Prop where
  ex : ∃ (g : Addr) (pg : Arguments) (bg : List Stmt) (sg : Scope) (dV kV doc pm cdv ct oc : Value) (an od : Option Addr) (osl : Array (Option Value)) (Ng : List Str),
    mg x = some (.ref g) ∧ PySem.W.keepIn Z.K (.ref g) = true ∧ Z.K.lookup g = some ⟨oc, od, .func (PySem.W.fnOf x x pg bg sg dV kV doc pm an cdv ct), osl⟩ ∧ PySem.W.codeIn Z.K cdv x = true ∧
    L2.Binds Z.K (PySem.W.fnOf x x pg bg sg dV kV doc pm an cdv ct) [a] [] ∧ FnScope Ng [a] sg ∧ Ng[0]? = some a ∧ Vis sg a ∧
    ∀ (X : Cx) (q : Str), X.prog = P → X.w = w → X.K = Z.K → X.mg = mg → X.base = base → LamX.GivesTo X Ng x sg g cdv bg a q (TTm Z m)
/-- x(lambda: body) -/
theorem de_lam {X : Cx} {G : Gx} {S : List Sl} {P : Program} {w : World} {Z : Zt} {mg : Str → Option Value} {base : Heap} {x a : Str} {m : N D → N D} {nl : N D} {c Pt : Addr} {k : Nat} {params : Arguments} {body : Expr} {scope : Scope} {p lpos pos : Pos} (C : Giv P w Z mg base x a m)
    (TB : LamX.TabB X.base X.mg c Pt) (hcode : X.env.code = .ref c) (hr : Room (k + 2) X.A) (L : LamX.LamS X.env.scope scope)
    (hF : G.B.F Pt = some (pTab (X.env.qual ++ "<lambda>")))
    (hbody : ∀ (A : Around) (outer : List Env) (s : Shared) (H : Hp) (E : XK) (f c' : Addr) (B : Bs), Room k (A.deeper (LamX.lamEnv X scope s.heap.objs.size f c')) → PE (LamX.lamCx X A outer s H E scope f c') body (eV ⟨G.Z, B, fun cls d _ H => E cls d H, List.replicate S.length .un⟩ (hideO S) nl))
    (h1 : X.prog = P := by rfl) (h2 : X.w = w := by rfl) (h3 : X.K = Z.K := by rfl) (h4 : X.mg = mg := by rfl) (h5 : X.base = base := by rfl) (h6 : G.Z = Z := by rfl)
    (hdef : defaultsOf params X.env = ([], []) := by rfl) (hbind : ∀ (q : Str) (cl : List (Str × Addr)) (pm cv ctv : Value), bindArgs (PySem.W.kla_fn "<lambda>" q params body scope cl pm cv ctv) ⟨[], []⟩ = pure [] := by intros; rfl)
    (hg : Gl X x := by rfl) (hdb : (x == ("__debug__" : Str)) = false := by decide) (hd : (a == ("__debug__" : Str)) = false := by decide) (hcd : (a == ("__classdict__" : Str)) = false := by decide) :
    PE X (.Call (.Name x p) [.Lambda params body scope lpos] [] pos) (eV G S (N.ne (m nl))) := by
  subst h1 h2 h4 h5 h6
  obtain ⟨g, pg, bg, sg, dV, kV, doc, pm, cdv, ct, oc, an, od, osl, Ng, e1, e2, e3, e4, e5, e6, e7, e8, e9⟩ := C.ex
  refine ⟨fun pins s σ H Q I ⟨F, A, q⟩ => ?_⟩
  obtain ⟨T, hT⟩ := A.ok.fin
  have hP : (Pt, X.env.qual ++ "<lambda>") ∈ T := (hT _ _).mp (A.ext.ex _ _ hF)
  have hu : ∀ p ∈ T, p.1 = Pt → p.2 = X.env.qual ++ "<lambda>" := fun p hp hpp => by
    have z := (hT p.1 p.2).mpr hp
    rw [hpp, A.ext.ex _ _ hF] at z
    exact (pTab_inj (Option.some.inj z)).symm
  have tabs : LamX.Tabs T H := fun p hp => A.ok.tb _ _ ((hT p.1 p.2).mpr hp)
  refine (LamX.pe_lamcall (T := T) (t := fun E σ H Q => ∃ B, eV ⟨G.Z, B, fun cls d _ H => E cls d H, List.replicate S.length .un⟩ (hideO S) nl σ H Q) hg e1 (by rw [h3]; exact e2) (by rw [h3]; exact e3) (by rw [h3]; exact e4) (by rw [h3]; exact e5) e6 e7 e8
    (e9 X _ rfl rfl h3 rfl rfl) TB hcode hP hu hr L hdef hbind (fun A outer s H E f c' hr' => PE.ex fun B => hbody A outer s H E f c' B hr') hdb hd hcd).run pins s σ H Q I ⟨tabs, fun H1 eN T1 => ?_⟩
  have ok1 : Okk F H1 := by
    refine ⟨fun b p z => ?_, fun P q z => T1 (P, q) ((hT P q).mp z), A.ok.fin⟩
    obtain ⟨o, ho, po, ht, htb, hco⟩ := A.ok.at_ b p z
    by_cases y : ∃ ps, o = .tbl ps
    · obtain ⟨q', hq⟩ := htb y
      subst hq
      obtain ⟨ps', hps, _⟩ := T1 (b, q') ((hT b q').mp z)
      exact ⟨.tbl ps', hps, .inl ⟨_, rfl⟩, fun ⟨_, w⟩ => (by cases w), fun _ => ⟨q', rfl⟩, fun _ _ w => (by unfold LamX.CodeO at w; cases w)⟩
    · exact ⟨o, eN b o ho (fun ps w => y ⟨ps, w⟩), po, ht, htb, hco⟩
  have ext1 : Ext F H F H1 := ⟨Ex.refl F, ok1, fun b o ho n pl => ⟨eN b o ho pl, .inl n⟩⟩
  have A1 := A.go ext1
  refine ⟨F, nl, ok1, A.tl', fun E F' H' Q' e' q' => ?_, (m nl).mono (fun d z v F' H' e r => z v F' H' (ext1.trans e) r) (fun _ _ z => z) q⟩
  refine ⟨⟨F', H', F'⟩, F', at_hide (A1.go e'), nl.mono (fun d z => z) (fun c x z cls dd F2 σ2 H2 A2 er => z cls dd F2 H2 A2.ext er) q'⟩
/-- such a def by its body's derivation -/
theorem giv_of {P : Program} {w : World} {Z : Zt} {mg : Str → Option Value} {base : Heap} {x a : Str} {st : Stmt} {g : Addr} {fd : FuncData} {Ng : List Str} {m : N D → N D} (F : FunD Z.K x x (defArgs st) (defBody st) (defScope st) [] [] g fd) (S : FnScope Ng [a] (defScope st)) (hm : mg x = some (.ref g))
    (hb : ∀ (kV doc pm : Value) (an : Option Addr) (cdv ct : Value) (us : List Value), us.length = ([a] : List Str).length → bindArgs (PySem.W.fnOf x x (defArgs st) (defBody st) (defScope st) .none kV doc pm an cdv ct) ⟨us, []⟩ = pure (([a] : List Str).zip us))
    (hN0 : Ng[0]? = some a := by rfl) (hva : Vis (defScope st) a := by first | exact Or.inl rfl | exact Or.inr (Or.inl rfl) | exact Or.inr (Or.inr rfl))
    (hbody : ∀ (X : Cx) (q : Str) (f c' : Addr) (s : Shared) (H : Hp) (cdg : Value) (tl : XK → Hp → VK → Prop) (F0 : Ty) (nl : N D), X.K = Z.K → X.mg = mg →
      (∀ (W : WX) (pn : List (Addr × Obj)) (xe : Value → Shared → Prop) (E : XK) (p1 p2 : Pos), Takes ((cxOf C8.CX0 X.prog X.w X.K X.mg X.base Ng x (defScope st) g cdg X.A X.stack s H C8.E0).tr pn xe) W → (∀ cls d σ' H', E cls d H' → W cls d σ' H') →
        PE ((cxOf C8.CX0 X.prog X.w X.K X.mg X.base Ng x (defScope st) g cdg X.A X.stack s H C8.E0).tr pn xe) (.Call (.Name a p1) [] [] p2) (fun σZ HZ Q => σZ[0]? = some (some (.ref f)) ∧ HZ c' = some (LamX.CodeO c' q) ∧ tl E HZ Q)) →
      LamR Z F0 H nl tl → ∃ (τ β : Type) (sl : τ → List Sl) (sb : β → List Sl) (nn : N (Fl τ β)), PSs (cxOf C8.CX0 X.prog X.w X.K X.mg X.base Ng x (defScope st) g cdg X.A X.stack s H C8.E0).nox (defBody st) (sV ⟨Z, ⟨F0, H, F0⟩, fun _ _ _ _ => False, List.replicate Ng.length .un⟩ (.lam f c' q :: List.replicate (Ng.length - 1) .un) sl sb nn) ∧ ∀ k e, (m nl).wp k e → nn.fin.wp k e) :
    Giv P w Z mg base x a m := by
  have kp := F.kp
  have bn := bind_all (ps := [a]) F hb
  obtain ⟨oc, od, dV, kV, doc, pm, an, cdv, ct, osl, e, lk, hcd, hD, hK⟩ := F.ex
  subst e
  rcases hD with ⟨_, e⟩ | ⟨e, _⟩
  · subst e
    refine ⟨g, defArgs st, defBody st, defScope st, .none, kV, doc, pm, cdv, ct, oc, an, od, osl, Ng, hm, kp, lk, hcd, bn, S, hN0, hva, ?_⟩
    intro X q e1 e2 e3 e4 e5 f c' s H Q tl act hco ⟨F0, nl, ok, t0, hl, hq⟩
    obtain ⟨τ, β, sl, sb, nn, hps, hqq⟩ := hbody X q f c' s H cdv tl F0 nl e3 e4 act hl
    refine ⟨_, hps, F0, ?_, ?_⟩
    · have hn : Ng.length ≠ 0 := fun z => by
        have := List.length_eq_zero_iff.mp z
        rw [this] at hN0
        cases hN0
      refine ⟨Ext.refl ok, Ex.refl F0, ?_, fun i s' z => ?_, fun i j a l l' u u' c1 c2 z1 => ?_, t0⟩
      · show (L2.start Ng [V.ref f]).length = _
        unfold L2.start
        simp only [List.length_append, List.length_map, List.length_cons, List.length_nil, List.length_replicate]
        omega
      · match i, z with
        | 0, z =>
          simp at z
          subst z
          exact ⟨rfl, hco, lam_code ok hco⟩
        | i + 1, z =>
          simp only [List.getElem?_cons_succ, List.getElem?_replicate] at z
          split at z
          · cases z; trivial
          · cases z
      · match i, z1 with
        | 0, z1 => simp at z1
        | i + 1, z1 =>
          simp only [List.getElem?_cons_succ, List.getElem?_replicate] at z1
          split at z1
          · cases z1
          · cases z1
    · refine nn.mono (fun fl q2 => ?_) (fun c x z => z.elim) (hqq _ _ hq)
      cases fl with
      | nx t => exact fun F1 σ H1 _ A => q2 .non F1 H1 A.ext .non
      | rt d => exact fun v F1 H1 e1 r1 => q2 v F1 H1 e1 r1
      | bk t => exact (show False from q2).elim
      | ct t => exact (show False from q2).elim
  · exact absurd rfl e
end M

set_option Elab.async false
set_option linter.all false
set_option maxRecDepth 100000
set_option maxHeartbeats 2000000
namespace M
open PySem L2
open PyProof.Rows (envOfC)
/-! ### instances of own classes -/
def attrOf (ks : List Str) (fs : List D) (f : Str) : Option D := (ks.zip fs).lookup f
/-- e.f by data -/
def dFld (at_ : Nat → List Str) (f : Str) : D → N D
  | .obj c fs => match attrOf (at_ c) fs f with
    | some d => .ok d
    | none => .stuck
  | _ => .stuck
theorem attr_rp {Z : Zt} {F : Ty} {f : Str} : ∀ {ks : List Str} {vs : List V} {ds : List D} {d : D}, RpL Z F vs ds → attrOf ks ds f = some d → ∃ v, (ks.zip vs).lookup f = some v ∧ Rp Z F v d
  | [], _, _, _, _, h => by unfold attrOf at h; simp at h
  | _ :: _, _, _, _, .nil, h => by unfold attrOf at h; simp at h
  | k :: ks, _, _, d, .cons (v := v) r l, h => by
    unfold attrOf at h
    rw [List.zip_cons_cons, List.lookup_cons] at h ⊢
    cases z : f == k with
    | true =>
      simp only [z] at h
      cases h
      exact ⟨v, rfl, r⟩
    | false =>
      simp only [z] at h
      exact attr_rp l h
theorem dFld_tot (at_) (f) (x : D) : Tot (dFld at_ f x) := by
  unfold dFld
  split
  · split
    · exact Tot.ok _
    · exact Tot.stuck
  · exact Tot.stuck
/-- what a class of the text must have, to be asked by isinstance -/
structure InsK (K : PySem.W.Frag) (C : Addr) : Prop where
  cl : L2.Cls K C
  ha : PySem.W.findIn K (.ref C) "__class__" = some (some (.builtin "object.__class__"))
  hn : PySem.W.specialIn K (.builtin "object.__class__") "__get__" = some (some (.builtin "getset_descriptor.__get__"))
  htk : PySem.W.takesIn K (.builtin "object.__class__") = some true
  hm : PySem.W.mroIn K C (.type "object") = some true
section
variable {X : Cx} {G : Gx} {S : List Sl} {a b c e : Expr} {na nb : N D} {pos : Pos} {τ β : Type} {sl : τ → List Sl} {sb : β → List Sl}
theorem de_fld {f : Str} {at_ : Nat → List Str} (hat : G.Z.at_ = at_) (hA : ∀ c fs d, attrOf (at_ c) fs f = some d → L2.Cls X.K (G.Z.cs c) ∧ NoAttr X.K (G.Z.cs c) f) (ha : PE X a (eV G S na)) (hb : attributeBase a f X.env (eval a X.env) = eval a X.env := by rfl) :
    PE X (.Attribute a f pos) (eV G S (na.bind (dFld at_ f))) :=
  PE.imp (pe_fld ha hb) fun σ H Q ⟨F, A, q⟩ => ⟨F, A, na.mono (fun d q1 v F1 H1 e1 r1 => by
    unfold dFld at q1
    subst hat
    split at q1
    · rename_i c fs
      split at q1
      · rename_i d hd
        cases r1 with
        | obj r n l =>
          obtain ⟨w, hw, rw'⟩ := attr_rp l hd
          obtain ⟨h1, h2⟩ := hA _ _ _ hd
          exact ⟨_, _, _, _, w, rfl, tup_of (A.go e1).ok r, h1, h2, hw, q1 w F1 H1 e1 rw'⟩
      · exact q1.elim
    · exact q1.elim) (fun _ _ z => z) q⟩
/-! isinstance(e, C), C an own class -/
def dIsC (cl : List Nat) (ci : Nat) (d : D) : N D := match d with
  | .obj c _ => (N.asrt (c ∈ cl)).bind fun _ => .ok (.bl (decide (c = ci)))
  | d => match tyN d with
    | some _ => .ok (.bl false)
    | none => .stuck
def tyNs : List String := ["NoneType", "bool", "int", "str", "tuple", "list", "dict"]
theorem tyN_in {d : D} {t : String} (h : tyN d = some t) : t ∈ tyNs := by
  unfold tyN at h
  unfold tyNs
  split at h <;> first | (cases h; simp; done) | cases h
theorem de_isC (hK : G.Z.K = X.K) {x : Str} {p pT : Pos} {cl : List Nat} {ci : Nat} (hm : X.mg "isinstance" = none) (hmC : X.mg x = some (.ref (G.Z.cs ci))) (hkC : PySem.W.keepIn X.K (.ref (G.Z.cs ci)) = true)
    (hI : ∀ c ∈ cl, InsK X.K (G.Z.cs c) ∧ PySem.W.kitOne X.K (.ref (G.Z.cs c)) (.ref (G.Z.cs ci)) = some (decide (c = ci))) (hT : ∀ t ∈ tyNs, PySem.W.kitOne X.K (.type t) (.ref (G.Z.cs ci)) = some false) (ha : PE X a (eV G S na))
    (hg : Gl X "isinstance" := by rfl) (hgC : Gl X x := by rfl) (hdC : (x == ("__debug__" : Str)) = false := by decide)
    (he : starEach (a :: .Name x pT :: []) X.env = (false, eval a X.env) :: starEach [.Name x pT] X.env := by rfl) (he2 : starEach (.Name x pT :: []) X.env = (false, eval (.Name x pT) X.env) :: starEach [] X.env := by rfl) (hpl : (backTo pos (starEach [.Name x pT] X.env)).any (·.1) = false := by rfl) :
    PE X (.Call (.Name "isinstance" p) [a, .Name x pT] [] pos) (eV G S (na.bind (dIsC cl ci))) :=
  PE.imp (pe_callB call_isi hg hm (by decide +kernel) (pa_cons ha (pa_cons (pe_glob (v := .ref (G.Z.cs ci)) hgC hmC rfl hdC) pa_nil he2) he) (by decide) (by decide) he hpl) fun σ H Q ⟨F, A, q⟩ => ⟨F, A, na.mono (fun d q1 v F1 H1 e1 r1 => by
    have key : ∀ {t : String}, tyN d = some t → Q (.bl false) H1 → rIsi X.K [v, .ref (G.Z.cs ci)] H1 Q := fun {t} ht q2 =>
      ⟨v, .ref (G.Z.cs ci), .type t, .ref (G.Z.cs ci), false, rfl, .own _, by rw [← hK]; exact tyX_of (A.go e1).ok r1 ht, hT t (tyN_in ht), q2⟩
    unfold dIsC at q1
    split at q1
    · rename_i c fs
      obtain ⟨hc, q1⟩ := q1
      obtain ⟨hi, hk⟩ := hI c hc
      cases r1 with
      | obj r n l => exact ⟨_, .ref (G.Z.cs ci), .ref (G.Z.cs c), .ref (G.Z.cs ci), _, rfl, .own _, .base (.ins (tup_of (A.go e1).ok r) hi.cl hi.ha hi.hn hi.htk hi.hm), hk, q1 _ F1 H1 e1 (.bl _)⟩
    · split at q1
      · rename_i t ht
        exact key ht (q1 _ F1 H1 e1 (.bl _))
      · exact q1.elim) (fun _ _ z => z) q⟩
end
/-! ### making one -/
/-- the promise of __init__: what it makes of the arguments, as an object's data; H1: the heap ahead of the making -/
def spInit (Z : Zt) (c n : Nat) (m : List D → N D) : Sp := fun vs H Q E => vs.length = n + 1 ∧ ∃ (x dx : Addr) (ws : List V) (H1 : Hp) (F : Ty) (ds : List D), vs = .ref x :: ws ∧ H = upd (upd H1 dx (.own x)) x (.ins (Z.cs c) dx []) ∧ H1 x = none ∧ H1 dx = none ∧ dx ≠ x ∧
  Okk F H1 ∧ TL Z F ∧ RpL Z F ws ds ∧ (m ds).wp (fun d => ∀ F' H', Ext F H1 F' H' → Rp Z F' (.ref x) d → Q .non H') (fun c x => ∀ cls dd F' H', Ext F H1 F' H' → ErrIs Z F' c x cls dd → E cls dd H')
/-- what the body's end says of the object -/
def N.made {τ β : Type} (at_ : List Str) (c : Nat) (kv : τ → List (Str × D)) (n : N (Fl τ β)) : N D := n.bind fun f => match f with
  | .nx t => (N.asrt ((kv t).map (·.1) = at_)).bind fun _ => .ok (.obj c ((kv t).map (·.2)))
  | _ => .stuck
theorem at_start1 {Z : Zt} {F : Ty} {H : Hp} {x : Addr} {vs : List V} {ds : List D} {Nn : List Str} (ok : Okk F H) (t : TL Z F) (r : RpL Z F vs ds) : At Z ⟨F, H, F⟩ (.un :: sls ds (Nn.length - (vs.length + 1))) F (L2.start Nn (.ref x :: vs)) H := by
  have h := at_start (Z := Z) (Nn := List.replicate (vs.length + (Nn.length - (vs.length + 1))) ("" : Str)) ok t r
  have e1 : (List.replicate (vs.length + (Nn.length - (vs.length + 1))) ("" : Str)).length - vs.length = Nn.length - (vs.length + 1) := by rw [List.length_replicate]; omega
  have e2 : L2.start Nn (.ref x :: vs) = some (.ref x) :: L2.start (List.replicate (vs.length + (Nn.length - (vs.length + 1))) ("" : Str)) vs := by
    unfold L2.start
    rw [e1]
    rfl
  rw [e1] at h
  rw [e2]
  refine ⟨h.ext, h.fe, by rw [List.length_cons, List.length_cons, h.len], fun i s q => ?_, fun i j a l l' u u' c c' q1 q2 e1 e2 w1 w2 a1 a2 => ?_, h.tl⟩
  · cases i with
    | zero => simp at q; subst q; trivial
    | succ i => exact h.sl i s (by simpa using q)
  · cases i with
    | zero => simp at q1
    | succ i =>
      cases j with
      | zero => simp at q2
      | succ j => exact congrArg Nat.succ (h.dis i j a l l' u u' c c' (by simpa using q1) (by simpa using q2) (by simpa using e1) (by simpa using e2) w1 w2 a1 a2)
section
variable {P : Program} {w : World} {mg : Str → Option Value} {base : Heap}
theorem init_ok {Z : Zt} {qual : Str} {st : Stmt} {f : Addr} {fd : FuncData} {Nn ps : List Str} {k c n : Nat} {m : List D → N D} {dvs : List V} (F : FunD Z.K "__init__" qual (defArgs st) (defBody st) (defScope st) dvs [] f fd) (S : FnScope Nn ps (defScope st)) (ar : Arity n m) (hn : ps.length = n + 1)
    (hbody : ∀ (cdv : Value) (A : Around) (outer : List Env) (s : Shared) (H : Hp) (E : XK) (x : Addr) (B : Bs) (ds : List D), Room k (A.deeper (envOfC qual (defScope st) s.heap.objs.size f cdv)) → Takes (cxOf (L2.CX P w) P w Z.K mg base Nn qual (defScope st) f cdv A outer s H E) (fun cls d _ H => E cls d H) → ds.length = n →
      ∃ (τ β : Type) (sl : τ → List Sl) (sb : β → List Sl) (kv : τ → List (Str × D)) (S' : τ → List Sl) (nn : N (Fl τ β)), (∀ t, sl t = .own (.ins x c (kv t)) :: S' t) ∧
        PSs (cxOf (L2.CX P w) P w Z.K mg base Nn qual (defScope st) f cdv A outer s H E) (defBody st) (sV ⟨Z, B, fun cls d _ H => E cls d H, List.replicate Nn.length .un⟩ (.own (.ins x c []) :: sls ds (Nn.length - (n + 1))) sl sb nn) ∧ ∀ k e, (m ds).wp k e → (nn.made (Z.at_ c) c kv).wp k e) :
    FnOk P w Z.K mg base (L2.CX P w) (k + 1) f fd ps (spInit Z c n m) := by
  obtain ⟨oc, od, dV, kV, doc, pm, an, cdv, ct, osl, rfl, lk, hcd, _, _⟩ := F.ex
  refine fn_of lk hcd S (fun vs H Q E h => by rw [hn]; exact h.1) fun A outer s H vs Q E hr h => ?_
  obtain ⟨hl, x, dx, ws, H1, F0, ds, rfl, rfl, nx, nd, hne, ok0, t0, r0, q0⟩ := h
  have hd : ds.length = n := ar ds _ _ q0
  have hw : ws.length = n := r0.length.trans hd
  obtain ⟨τ, β, sl, sb, kv, S', nn, hsl, hps, hq⟩ := hbody cdv A outer s (upd (upd H1 dx (.own x)) x (.ins (Z.cs c) dx [])) E x ⟨F0, H1, F0⟩ ds hr (takes_of rfl rfl rfl rfl) hd
  have A0 := at_start1 (Z := Z) (Nn := Nn) (x := x) ok0 t0 r0
  have e1 : Ext F0 H1 F0 (upd H1 dx (.own x)) := Ext.own ok0 nd
  have n2 : upd H1 dx (.own x) x = none := by rw [upd_ne (fun z => hne z.symm)]; exact nx
  have e2 := e1.trans (Ext.own (o := .ins (Z.cs c) dx []) e1.ok n2)
  have A1 := A0.newOwnX (i := 0) (p := x) (c := .ins x c []) (u := .ins (Z.cs c) dx []) e2 upd_same (fun a ha => by
    have ha' : a = x ∨ a = dx := by simpa [fpU] using ha
    rcases ha' with z | z
    · subst z; exact frsh_none nx
    · subst z; exact frsh_none nd) (ok0.none nx) ⟨rfl, dx, [], rfl, ⟨rfl, .nil⟩, by rw [upd_ne hne, upd_same], ok0.none nd, A0.fresh nd, hne⟩
  refine ⟨_, hps, ⟨F0, ?_, ?_⟩⟩
  · have e3 : (L2.start Nn (.ref x :: ws)).set 0 (some (V.ref x)) = L2.start Nn (.ref x :: ws) := rfl
    rw [e3] at A1
    have e4 : Nn.length - (n + 1) = Nn.length - (ws.length + 1) := by rw [hw]
    rw [e4]
    exact A1
  · have q1 := hq _ _ q0
    refine nn.mono (fun fl q2 => ?_) (fun c' x' q2 => ?_) q1
    · cases fl with
      | nx t =>
        intro F σ H2 _ A2
        obtain ⟨hk, q2⟩ := (show (kv t).map (·.1) = Z.at_ c ∧ _ from q2)
        rw [hsl t] at A2
        obtain ⟨l, u, el, hu, nF, nB, el', dx', vs', rfl, rr, h1, h2, h3, h4⟩ := A2.own (i := 0) rfl
        subst el'
        have z := zip_eq rr.1
        have A3 := A2.learn1 (d := .obj c ((kv t).map (·.2))) rfl el hu (.obj (dx := dx') (xs := vs'.map (·.2)) (by rw [updT_same, ← hk, ← z]) (by rw [← hk, ← rr.1, List.length_map, List.length_map]) (rr.2.ex (ex_upd nF)))
        obtain ⟨v, ev, rv⟩ := A3.dat (i := 0) rfl
        rw [el] at ev
        cases ev
        exact q2 _ H2 A3.ext rv
      | rt d => exact (show False from q2).elim
      | bk t => exact (show False from q2).elim
      | ct t => exact (show False from q2).elim
    · intro cls dd F σ H2 A2 er
      exact q2 cls dd F H2 A2.ext er
end
/-! ### attributes of the one that is made -/
def putD (f : Str) (d : D) : List (Str × D) → List (Str × D)
  | [] => [(f, d)]
  | (g, x) :: r => if g = f then (g, d) :: r else (g, x) :: putD f d r
theorem rpkv_putF {Z : Zt} {F : Ty} {f : Str} {v : V} {d : D} (r : Rp Z F v d) : ∀ {vs : List (Str × V)} {ds : List (Str × D)}, RpKV Z F vs ds → RpKV Z F (putF f v vs) (putD f d ds)
  | [], [], _ => rpkv_mk rfl r rpkv_nil
  | [], _ :: _, h => by have := rpkv_len h; simp at this
  | _ :: _, [], h => by have := rpkv_len h; simp at this
  | p :: vs, q :: ds, h => by
    obtain ⟨e, rr, h'⟩ := rpkv_cons h
    obtain ⟨g, x⟩ := p
    obtain ⟨g', y⟩ := q
    simp only at e rr
    subst e
    unfold putF putD
    by_cases z : g = f
    · rw [if_pos z, if_pos z]; exact rpkv_mk rfl r h'
    · rw [if_neg z, if_neg z]; exact rpkv_mk rfl rr (rpkv_putF r h')
theorem rpkv_look {Z : Zt} {F : Ty} {f : Str} {d : D} : ∀ {vs : List (Str × V)} {ds : List (Str × D)}, RpKV Z F vs ds → ds.lookup f = some d → ∃ v, vs.lookup f = some v ∧ Rp Z F v d
  | [], [], _, h => by simp at h
  | [], _ :: _, h, _ => by have := rpkv_len h; simp at this
  | _ :: _, [], h, _ => by have := rpkv_len h; simp at this
  | p :: vs, q :: ds, h, hd => by
    obtain ⟨e, rr, h'⟩ := rpkv_cons h
    obtain ⟨g, x⟩ := p
    obtain ⟨g', y⟩ := q
    simp only at e rr
    subst e
    rw [List.lookup_cons] at hd ⊢
    cases z : f == g with
    | true => simp only [z] at hd; cases hd; exact ⟨x, rfl, rr⟩
    | false => simp only [z] at hd; exact rpkv_look h' hd
section
variable {X : Cx} {G : Gx} {S : List Sl} {a b c e : Expr} {na nb : N D} {pos : Pos} {τ β : Type} {sl : τ → List Sl} {sb : β → List Sl}
/-- self.f = e -/
theorem ds_fld {i : Nat} {x f : Str} {px pos' : Pos} {o : Addr} {c : Nat} {kvs : List (Str × D)} (hi : S[i]? = some (.own (.ins o c kvs)) := by rfl) (hN : X.N[i]? = some x := by rfl) (hC : L2.Cls X.K (G.Z.cs c)) (hn : NoAttr X.K (G.Z.cs c) f) (ha : PE X a (eV G S na))
    (hv : Vis X.env.scope x := by first | exact Or.inl rfl | exact Or.inr (Or.inl rfl) | exact Or.inr (Or.inr rfl)) (hd : (x == ("__debug__" : Str)) = false := by decide) (hcd : (x == ("__classdict__" : Str)) = false := by decide)
    (hs : swapsWith a (some (.Attribute (.Name x px) f pos')) pos.line X.env = pure false := by rfl) :
    PS X (.Assign [.Attribute (.Name x px) f pos'] a pos) (sV G S (fun d => S.set i (.own (.ins o c (putD f d kvs)))) sb (na.bind fun d => (N.asrt (kvs.length < 1000)).bind fun _ => .ok (.nx d))) :=
  PS.imp (ps_fld (pe_var (i := i) hN hv hd hcd) ha hs) fun E σ H ⟨F, A, q⟩ => ⟨F, A, na.mono (fun d q1 v F1 H1 e1 r1 => by
    obtain ⟨hz, q1⟩ := q1
    have A1 := A.go e1
    obtain ⟨l, u, el, hu, nF, nB, el', dx, vs, rfl, rr, h1, h2, h3, h4⟩ := A1.own hi
    subst el'
    refine ⟨.ref l, el, l, _, dx, vs, rfl, hu, hC, hn, by rw [rpkv_len rr]; exact hz, q1 F1 σ _ e1.ex (A1.chg hi el hu fp_self upd_same (fun b hb => hb) ?_)⟩
    exact ⟨rfl, dx, _, rfl, rpkv_putF r1 rr, by rw [upd_ne h4]; exact h1, h2, h3, h4⟩) (fun _ _ z => z) q⟩
/-- self.f -/
theorem de_fldO {i : Nat} {x f : Str} {px : Pos} {o : Addr} {c : Nat} {kvs : List (Str × D)} (hi : S[i]? = some (.own (.ins o c kvs)) := by rfl) (hN : X.N[i]? = some x := by rfl) (hC : L2.Cls X.K (G.Z.cs c)) (hn : NoAttr X.K (G.Z.cs c) f)
    (hv : Vis X.env.scope x := by first | exact Or.inl rfl | exact Or.inr (Or.inl rfl) | exact Or.inr (Or.inr rfl)) (hd : (x == ("__debug__" : Str)) = false := by decide) (hcd : (x == ("__classdict__" : Str)) = false := by decide)
    (hb : attributeBase (.Name x px) f X.env (eval (.Name x px) X.env) = eval (.Name x px) X.env := by rfl) :
    PE X (.Attribute (.Name x px) f pos) (eV G S (match kvs.lookup f with | some d => .ok d | none => .stuck)) :=
  PE.imp (pe_fld (pe_var (i := i) hN hv hd hcd) hb) fun σ H Q ⟨F, A, q⟩ => by
    obtain ⟨l, u, el, hu, nF, nB, el', dx, vs, rfl, rr, h1, h2, h3, h4⟩ := A.own hi
    cases z : kvs.lookup f with
    | none => rw [z] at q; exact q.elim
    | some d =>
      rw [z] at q
      obtain ⟨v, hv, rv⟩ := rpkv_look rr z
      exact ⟨.ref l, el, l, _, dx, vs, v, rfl, hu, hC, hn, hv, q v F H (Ext.refl A.ok) rv⟩
end
/-! ### the call of a class -/
structure MkI (P : Program) (w : World) (Z : Zt) (mg : Str → Option Value) (base : Heap) (x : Str) (c k np : Nat) (ks : List Str) (gD : List D → List D → List D) (n : Nat) (m : List D → N D) : Prop where
  ex : ∃ (f : Addr) (fd : FuncData) (ps : List Str) (g : List Value → List Value → List Value) (gV : List V → List V → List V), FnOk P w Z.K mg base (L2.CX P w) k f fd ps (spInit Z c n m) ∧ Mk Z.K (Z.cs c) f ∧ mg x = some (.ref (Z.cs c)) ∧
    KBn Z.K fd ps (np + 1) ks g gV ∧ ∀ F vs ds zs es, RpL Z F vs ds → RpL Z F zs es → vs.length = np → zs.length = ks.length → ∃ ws, (∀ v, gV (v :: vs) zs = v :: ws) ∧ RpL Z F ws (gD ds es)
  ar : Arity n m
section
variable {X : Cx} {G : Gx} {S : List Sl} {a b c e : Expr} {na nb : N D} {pos : Pos}
theorem runI {c k np n : Nat} {ks : List Str} {m : List D → N D} {f : Addr} {fd : FuncData} {ps : List Str} {g : List Value → List Value → List Value} {gV : List V → List V → List V} {F F1 : Ty} {H0 H1 : Hp} {σ : St} {pins : List (Addr × Obj)} {s : Shared} {Q : VK} {us ws : List Value} {vs zs xs : List V} {ds : List D}
    (Fn : FnOk X.prog X.w X.K X.mg X.base (L2.CX X.prog X.w) k f fd ps (spInit G.Z c n m)) (ar : Arity n m) (M : Mk X.K (G.Z.cs c) f) (hr : Room (k + 1) X.A) (hb : KBn X.K fd ps (np + 1) ks g gV) (tk : Takes X G.W) (hw : Wk S G.Se) (A : At G.Z G.B S F σ H0) (e1 : Ext F H0 F1 H1)
    (I : Inv X pins σ H1 s) (r : Vals vs us) (rz : Vals zs ws) (l1 : vs.length = np) (l2 : zs.length = ks.length) (hg : ∀ v : V, gV (v :: vs) zs = v :: xs) (rx : RpL G.Z F1 xs ds) (q : (m ds).wp (fun d => ∀ v F' H', Ext F H0 F' H' → Rp G.Z F' v d → Q v H') G.Er) :
    wpAny (model X.prog X.w) X.A (call (.ref (G.Z.cs c)) us (ks.zip ws)) (EP X pins σ Q) X.xe s := by
  have A1 := A.go e1
  let x : Addr := s.heap.objs.size + 1
  let dx : Addr := s.heap.objs.size
  have nx : H1 x = none := I.hok.fresh (Nat.le_succ _)
  have nd : H1 dx = none := I.hok.fresh (Nat.le_refl _)
  have ne : dx ≠ x := Nat.ne_of_lt (Nat.lt_succ_self _)
  have I2 := Inv.made (C := G.Z.cs c) I
  have rr := hb.rel (.cons rfl r : Vals (V.ref x :: vs) (Value.ref x :: us)) rz
  rw [hg] at rr
  have hsp : spInit G.Z c n m (.ref x :: xs) (upd (upd H1 dx (.own x)) x (.ins (G.Z.cs c) dx [])) (fun v H3 => v = .non ∧ Q (.ref x) H3) (WE G.W σ) :=
    ⟨by rw [List.length_cons, rx.length, ar ds _ _ q], x, dx, xs, H1, F1, ds, rfl, rfl, nx, nd, ne, A1.ok, A1.tl', rx, (m ds).mono (fun d q2 F2 H2 e2 r2 => ⟨rfl, q2 _ F2 H2 (e1.trans e2) r2⟩) (fun c' y z cls dd F2 H2 e2 er => z cls dd F2 σ H2 ((A1.go e2).weak hw) er) q⟩
  have n1 : (Value.ref x :: us).length = np + 1 := by rw [List.length_cons, ← r.length, l1]
  refine wpAny_call (make_map (f := f) I.kIn M.makes M.init (beq_iff_eq.mp M.fn) (codeAny_mono (Fn.run _ X.stack _ _ ⟨Value.ref x :: us, ks.zip ws⟩ (g (Value.ref x :: us) ws) (.ref x :: xs) _ (WE G.W σ) (hr.make (G.Z.cs c) us (ks.zip ws)) (I2.env0.make (G.Z.cs c) us (ks.zip ws)) (hb.to _ (Value.ref x :: us) ws I2.kIn n1 (rz.length.symm.trans l2)) rr hsp) fun res s' hq => ?_))
  cases res with
  | error err => exact passAt tk σ pins _ _ err s' I2 hq
  | ok fl =>
    cases fl with
    | ret u =>
      obtain ⟨v, H3, I3, rv, hv, q3⟩ := I2.after hq
      subst hv
      exact ⟨rv, .ref x, H3, I3, rfl, q3⟩
    | next => exact False.elim hq
    | brk => exact False.elim hq
    | cont => exact False.elim hq
/-- C(e, ..) -/
theorem de_make {P : Program} {w : World} {Z : Zt} {mg : Str → Option Value} {base : Heap} {x : Str} {c k np n : Nat} {gD : List D → List D → List D} {m : List D → N D} {p : Pos} {es : List Expr} {na : N (List D)} (C : MkI P w Z mg base x c k np [] gD n m) (hr : Room (k + 1) X.A) (tk : Takes X G.W) (hw : Wk S G.Se)
    (ha : PA X (e :: es) (aV G S na)) (hg : Gl X x := by rfl) (hdb : (x == ("__debug__" : Str)) = false := by decide) (he : starEach (e :: es) X.env = (false, eval e X.env) :: starEach es X.env := by rfl) (hpl : (backTo pos (starEach es X.env)).any (·.1) = false := by rfl)
    (h1 : X.prog = P := by rfl) (h2 : X.w = w := by rfl) (h3 : X.K = Z.K := by rfl) (h4 : X.mg = mg := by rfl) (h5 : X.base = base := by rfl) (h6 : G.Z = Z := by rfl) :
    PE X (.Call (.Name x p) (e :: es) [] pos) (eV G S (na.bind fun ds => (N.asrt (ds.length = np)).bind fun _ => m (gD ds []))) := by
  subst h1 h2 h4 h5 h6
  obtain ⟨f, fd, ps, g, gV, Fn, Mm, hm, hb, hd⟩ := C.ex
  rw [← h3] at Fn Mm hb
  refine ⟨fun pins s σ H Q I ⟨F, A, q⟩ => ?_⟩
  refine wpAny_Call_Name_kw (ld_glob I hg hm ?_ hdb)
  refine PySem.W.callWith_K (h₀ := X.base) I.ok.mod.kin Mm.kp (thn (ha.run pos pins s σ H (fun vs H1 => ∃ F1 ds, Ext F H F1 H1 ∧ RpL G.Z F1 vs ds ∧ ds.length = np ∧ (m (gD ds [])).wp (fun d => ∀ v F' H', Ext F H F' H' → Rp G.Z F' v d → Q v H') G.Er) I ⟨F, A, na.mono (fun ds q1 vs F1 H1 e1 r1 => ⟨F1, ds, e1, r1, q1.1, q1.2⟩) (fun _ _ z => z) q⟩)
    fun us s1 ⟨vs, H1, I1, r, F1, ds, e1, r1, l1, q1⟩ => ⟨I1.kIn, ?_⟩) he hpl
  have l2 : vs.length = np := r1.length.trans l1
  obtain ⟨xs, hx, rx⟩ := hd F1 vs ds [] [] r1 .nil l2 rfl
  exact runI (ks := []) (ws := []) (zs := []) (xs := xs) Fn C.ar Mm hr hb tk hw A e1 I1 r .nil l2 rfl hx rx q1
/-- C(k = e, ..) -/
theorem de_makeK {P : Program} {w : World} {Z : Zt} {mg : Str → Option Value} {base : Heap} {x : Str} {c k n : Nat} {ks : List Str} {gD : List D → List D → List D} {m : List D → N D} {p : Pos} {kws : List Keyword} {nk : N (List D)} (C : MkI P w Z mg base x c k 0 ks gD n m) (hr : Room (k + 1) X.A) (tk : Takes X G.W) (hw : Wk S G.Se)
    (hkw : PK X kws (aV G S nk)) (hg : Gl X x := by rfl) (hdb : (x == ("__debug__" : Str)) = false := by decide) (hall : (backToKw pos (keywordEach kws X.env)).all (·.1.isSome) = true := by rfl) (hks : (backToKw pos (keywordEach kws X.env)).filterMap (·.1) = ks := by rfl)
    (hpl : ((backTo pos (starEach [] X.env)).any (·.1) || (backToKw pos (keywordEach kws X.env)).any (·.1.isNone)) = false := by rfl)
    (h1 : X.prog = P := by rfl) (h2 : X.w = w := by rfl) (h3 : X.K = Z.K := by rfl) (h4 : X.mg = mg := by rfl) (h5 : X.base = base := by rfl) (h6 : G.Z = Z := by rfl) :
    PE X (.Call (.Name x p) [] kws pos) (eV G S (nk.bind fun es => (N.asrt (es.length = ks.length)).bind fun _ => m (gD [] es))) := by
  subst h1 h2 h4 h5 h6
  obtain ⟨f, fd, ps, g, gV, Fn, Mm, hm, hb, hd⟩ := C.ex
  rw [← h3] at Fn Mm hb
  refine ⟨fun pins s σ H Q I ⟨F, A, q⟩ => ?_⟩
  refine wpAny_Call_Name_kw (ld_glob I hg hm ?_ hdb)
  refine PySem.W.callWith_KW0 (h₀ := X.base) I.ok.mod.kin Mm.kp hall (thn (hkw.run pos pins s σ H (fun vs H1 => ∃ F1 ds, Ext F H F1 H1 ∧ RpL G.Z F1 vs ds ∧ ds.length = ks.length ∧ (m (gD [] ds)).wp (fun d => ∀ v F' H', Ext F H F' H' → Rp G.Z F' v d → Q v H') G.Er) I ⟨F, A, nk.mono (fun ds q1 vs F1 H1 e1 r1 => ⟨F1, ds, e1, r1, q1.1, q1.2⟩) (fun _ _ z => z) q⟩)
    fun us s1 ⟨vs, H1, I1, r, F1, ds, e1, r1, l1, q1⟩ => ⟨I1.kIn, ?_⟩) hpl
  have l2 : vs.length = ks.length := r1.length.trans l1
  rw [hks]
  obtain ⟨xs, hx, rx⟩ := hd F1 [] [] vs ds .nil r1 rfl l2
  exact runI (us := []) (vs := []) (ws := us) (zs := vs) (xs := xs) Fn C.ar Mm hr hb tk hw A e1 I1 .nil r rfl l2 hx rx q1
end
end M

set_option Elab.async false
set_option linter.all false
set_option maxRecDepth 100000
set_option maxHeartbeats 2000000
namespace M
open PySem PySem.Spec PyProof.Rows L2
/-! ### == and != of instances -/
/-- the type of a datum is known: no class below C -/
structure TyE (K : PySem.W.Frag) (C : Addr) : Prop where
  bt : ∀ t ∈ tyNs, PySem.W.notFirst K C (.type t) = true
  own : ∀ C', C' = C → PySem.W.notFirst K C (.ref C') = true
def rOwnI (K : PySem.W.Frag) (C : Addr) (sp : Sp) : R2 := fun x y H Q => ∃ a dx fs tb, x = .ref a ∧ H a = some (.ins C dx fs) ∧ TyX K H y tb ∧ PySem.W.notFirst K C tb = true ∧ sp [x, y] H Q (fun _ _ _ => False)
section
variable {X : Cx} {C g : Addr} {sp : Sp} {k : Nat} {fd : FuncData} {ps : List Str}
theorem passF {P : Program} {w : World} : ∀ (outer : List Env) (H : Hp) (s : Shared) (e : Value) (s' : Shared), L2.CX P w outer H s (fun _ _ _ => False) e s' → False := fun _ _ _ _ _ ⟨_, _, _, _, _, _, _, _, _, _, _, _, z⟩ => z
theorem op_ownI (hs : PySem.W.findIn X.K (.ref C) (cmpInfo .Eq).2.1 = some (some (.ref g))) (hf : PySem.W.isFn X.K (.ref g) = true) (Fn : FnOk X.prog X.w X.K X.mg X.base (L2.CX X.prog X.w) k g fd ps sp) (hb : Binds X.K fd ps []) (hr : Room k X.A) : OpR X (compareOp .Eq) (rOwnI X.K C sp) := by
  intro pins s σ H x y v u Q I rx ry h
  obtain ⟨a, dx, fs, tb, rfl, ha, ty, hn, q⟩ := h
  cases (show v = Value.ref a from rx)
  obtain ⟨mA, O, _⟩ := ins_get I.hok ha
  obtain ⟨od, J, _⟩ := O.look
  obtain ⟨Pp, Zk, p, hx⟩ := kit_of I ry ty
  obtain ⟨m, hF⟩ := I.fr
  show wpAny _ _ (richCompare .Eq (.ref a) u) _ _ _
  refine PySem.W.cmp_K (op := .Eq) hr.units0 hF I.ok.mod.kin J (Zk.ty _ _ I.kIn p) hn hs hf ?_
  refine wpAny_mono (run_fn (us := [.ref a, u]) (vs := [.ref a, y]) (dvs := []) Fn hr hb .nil (fun _ _ _ _ _ _ _ z => (passF _ _ _ _ _ z).elim) I (.cons rfl (.cons ry .nil)) q) (fun r s' z => ?_) fun _ _ z => z
  obtain ⟨z', H', I', rz, qz⟩ := z
  exact SlX.cmpback rz ⟨z', H', I', rz, qz⟩
end
/-- such a class with its own __eq__, without __ne__ -/
def eqB (K : PySem.W.Frag) (C f : Addr) : Bool := match K.lookup C with
  | some ⟨.type "type", _, .cls cd, sl⟩ => (match cd.mro, sl.toList with
    | .ref C' :: bm, [_, _, _, _, some (.builtin _), _] => C' == C && (decide (bm = [.type "object"]) && (!cd.hasDel && (match K.lookup cd.ns with
      | some ⟨_, _, .dict es _, _⟩ => (es.all fun e => match e.key with | .str _ _ => true | _ => false) && (decide (nsFind es "__eq__" = some (.ref f)) && decide (nsFind es "__ne__" = none))
      | _ => false)))
    | _, _ => false)
  | _ => false
theorem eqB_ok {K : PySem.W.Frag} {C f : Addr} (h : eqB K C f = true) : ∃ nm q N bs hdct sn sub ab col dd k0 k1 k2 k3 k5 nid on es ep, K.lookup C = some (excClassObj nm q C N bs [.type "object"] hdct sn sub ab col dd k0 k1 k2 k3 k5 nid) ∧ K.lookup N = some on ∧ on.data = .dict es ep ∧ StrKeys es ∧ nsFind es "__eq__" = some (.ref f) ∧ nsFind es "__ne__" = none := by
  unfold eqB at h
  split at h
  · rename_i dd cd sl ho
    split at h
    · rename_i C' bm k0 k1 k2 k3 n k5 hm hs
      obtain ⟨h1, h⟩ := He.ba h
      obtain ⟨h2, h⟩ := He.ba h
      obtain ⟨h3, h⟩ := He.ba h
      split at h
      · rename_i nc nd es ep nsl hns
        obtain ⟨h4, h⟩ := He.ba h
        obtain ⟨h5, h6⟩ := He.ba h
        obtain ⟨nm, bs, mro, ns, qn, hd, sn, sub, ab, col, del⟩ := cd
        dsimp only at hm h3 hns
        obtain rfl : C' = C := by simpa using h1
        obtain rfl : bm = [.type "object"] := of_decide_eq_true h2
        obtain rfl : del = false := by simpa using h3
        subst hm
        have hsl : sl = #[k0, k1, k2, k3, some (.builtin n), k5] := by
          obtain ⟨l⟩ := sl
          simp only at hs
          rw [hs]
        subst hsl
        refine ⟨nm, qn, ns, bs, hd, sn, sub, ab, col, dd, k0, k1, k2, k3, k5, n, _, es, ep, ho, hns, rfl, fun e he => ?_, of_decide_eq_true h5, of_decide_eq_true h6⟩
        have z := Array.all_eq_true_iff_forall_mem.mp h4 e he
        split at z
        · rename_i x t hk; exact ⟨x, t, hk⟩
        · cases z
      · cases h
    · cases h
  · cases h
def rNeI (C : Addr) (sp : Sp) : R2 := fun x y H Q => ∃ a dx fs b dy gs, x = .ref a ∧ y = .ref b ∧ H a = some (.ins C dx fs) ∧ H b = some (.ins C dy gs) ∧ sp [x, y] H (fun v H' => ∃ c, v = .bl c ∧ Q (.bl (!c)) H') (fun _ _ _ => False)
section
variable {X : Cx} {C g : Addr} {sp : Sp} {k : Nat} {fd : FuncData} {ps : List Str}
theorem op_neI (hq : eqB X.K C g = true) (hf : PySem.W.isFn X.K (.ref g) = true) (Fn : FnOk X.prog X.w X.K X.mg X.base (L2.CX X.prog X.w) k g fd ps sp) (hb : Binds X.K fd ps []) (hr : Room (k + 1) X.A) : OpR X (compareOp .NotEq) (rNeI C sp) := by
  intro pins s σ H x y v u Q I rx ry h
  obtain ⟨a, dx, fs, b, dy, gs, rfl, rfl, ha, hb', q⟩ := h
  cases (show v = Value.ref a from rx)
  cases (show u = Value.ref b from ry)
  obtain ⟨mA, O, _⟩ := ins_get I.hok ha
  obtain ⟨od, J, _⟩ := O.look
  obtain ⟨mB, O', _⟩ := ins_get I.hok hb'
  obtain ⟨od', J', _⟩ := O'.look
  obtain ⟨nm, qn, N, bs, hdct, sn, sub, ab, col, dd, k0, k1, k2, k3, k5, nid, on, es, ep, hC, hN, hd, hk, h1, h2⟩ := eqB_ok hq
  have KX := I.kIn
  obtain ⟨of', hfo, hfc⟩ : ∃ of' : Obj, X.K.lookup g = some of' ∧ of'.cls = .type "function" := by
    exact Option.map_eq_some_iff.mp (beq_iff_eq.mp hf)
  have own : s.heap.OwnEqNoNe a C g "object" [.type "object"] :=
    ⟨_, of', nm, qn, N, bs, hdct, sn, sub, ab, col, dd, k0, k1, k2, k3, k5, nid, nsFind es, _, J.at_, J.cls, KX _ _ hC, ⟨on, es, ep, KX _ _ hN, hd, hk, fun _ => rfl⟩, h1, KX _ _ hfo, hfc, PySem.F.cmp_object.mro, PySem.F.cmp_object.eq.lookup, h2⟩
  obtain ⟨hp, gg, d, tk, os⟩ := s
  refine compareOp_ne_ownEq PySem.F.cmp_object own J'.at_ J'.cls (by have := hr.un; omega) ?_
  refine wpAny_mono (wpAny_call (codeAny_mono (Fn.run X.A.in1 X.stack _ H ⟨[.ref a, .ref b], []⟩ [.ref a, .ref b] [.ref a, .ref b] _ (fun _ _ _ => False) hr.in1 I.env0.in1 (hb _ [.ref a, .ref b] I.kIn (by rw [List.append_nil]; exact Fn.len _ _ _ _ q)) (.cons rfl (.cons rfl .nil)) q) fun r s' hq => ?_)) (fun _ _ z => z) fun _ _ z => z
  cases r with
  | error e => exact (passF _ _ _ _ _ hq).elim
  | ok fl =>
    cases fl with
    | ret u =>
      obtain ⟨v, H', I', rv, c, hv, q'⟩ := I.after hq
      subst hv
      exact ⟨c, rv, .bl (!c), H', I', rfl, q'⟩
    | next => exact False.elim hq
    | brk => exact False.elim hq
    | cont => exact False.elim hq
end
/-- == by the class's own def -/
def dEqI (cl : List Nat) (c : Nat) (m : D → D → N D) (x y : D) : N D := match x with
  | .obj c' _ => (N.asrt (c' = c ∧ (match y with | .obj d _ => d = c | y => (tyN y).isSome = true))).bind fun _ => N.ne (m x y)
  | _ => .stuck
def dNeI (c : Nat) (m : D → D → N D) (x y : D) : N D := match x, y with
  | .obj c' _, .obj c'' _ => (N.asrt (c' = c ∧ c'' = c)).bind fun _ => (N.ne (m x y)).bind fun d => match d with
    | .bl b => .ok (.bl (!b))
    | _ => .stuck
  | _, _ => .stuck
theorem Tot.ne {α : Type} (n : N α) : Tot (N.ne n) := fun _ _ h => h
theorem dEqI_tot (cl) (c) (m) (x y : D) : Tot (dEqI cl c m x y) := by
  unfold dEqI
  split
  · exact (Tot.asrt _).bind fun _ => Tot.ne _
  · exact Tot.stuck
theorem dNeI_tot (c) (m) (x y : D) : Tot (dNeI c m x y) := by
  unfold dNeI
  split
  · refine (Tot.asrt _).bind fun _ => (Tot.ne _).bind fun d => ?_
    split
    · exact Tot.ok _
    · exact Tot.stuck
  · exact Tot.stuck
/-- the class's own __eq__, in reach -/
structure EqC (P : Program) (w : World) (Z : Zt) (mg : Str → Option Value) (base : Heap) (c k : Nat) (m : D → D → N D) : Prop where
  ex : ∃ (g : Addr) (fd : FuncData) (ps : List Str), FnOk P w Z.K mg base (L2.CX P w) k g fd ps (spN Z 2 (app2 m)) ∧ Binds Z.K fd ps [] ∧ PySem.W.findIn Z.K (.ref (Z.cs c)) (cmpInfo .Eq).2.1 = some (some (.ref g)) ∧ PySem.W.isFn Z.K (.ref g) = true ∧ eqB Z.K (Z.cs c) g = true
  ty : (∀ t ∈ tyNs, PySem.W.notFirst Z.K (Z.cs c) (.type t) = true) ∧ PySem.W.notFirst Z.K (Z.cs c) (.ref (Z.cs c)) = true
  ins : InsK Z.K (Z.cs c)
section
variable {X : Cx} {G : Gx} {S : List Sl} {a b : Expr} {na nb : N D} {pos : Pos} {P : Program} {w : World} {Z : Zt} {mg : Str → Option Value} {base : Heap} {c k : Nat} {m : D → D → N D}
theorem sp_eq {F : Ty} {H : Hp} {x y : D} {v u : V} {Q : VK} (ok : Okk F H) (t : TL Z F) (rx : Rp Z F v x) (ry : Rp Z F u y) (q : (N.ne (m x y)).wp (fun d => ∀ w F' H', Ext F H F' H' → Rp Z F' w d → Q w H') (fun _ _ => False)) : spN Z 2 (app2 m) [v, u] H Q (fun _ _ _ => False) :=
  ⟨rfl, F, [x, y], ok, t, .cons rx (.cons ry .nil), (m x y).mono (fun _ z => z) (fun _ _ z => z.elim) q⟩
theorem eqI_in {cl : List Nat} (C : EqC P w Z mg base c k m) (hr : Room k X.A)
    (h1 : X.prog = P := by rfl) (h2 : X.w = w := by rfl) (h3 : X.K = Z.K := by rfl) (h4 : X.mg = mg := by rfl) (h5 : X.base = base := by rfl) (h6 : G.Z = Z := by rfl) :
    ∃ r, OpR X (compareOp .Eq) r ∧ ∀ σ H Q, eV G S (na.bind fun x => nb.bind fun y => dEqI cl c m x y) σ H Q → tOp r (eV G S na) (eV G S nb) σ H Q := by
  subst h1 h2 h4 h5 h6
  obtain ⟨g, fd, ps, Fn, hbi, hs, hf, _⟩ := C.ex
  obtain ⟨hT, hO⟩ := C.ty
  have hI := C.ins
  rw [← h3] at Fn hbi hs hf hT hO hI
  refine ⟨_, op_ownI hs hf Fn hbi hr, fun σ H Q ⟨F, A, q⟩ => ?_⟩
  refine ⟨F, A, na.mono (fun x q1 v F1 H1 e1 r1 => ⟨F1, A.go e1, nb.mono (fun y q2 u F2 H2 e2 r2 => ?_) (fun _ _ z => z) q1⟩) (fun _ _ z => z) q⟩
  have A2 := (A.go e1).go e2
  have r1 := r1.ex e2.ex
  have q2 := dEqI_tot cl c m x y _ _ q2
  unfold dEqI at q2
  split at q2
  · rename_i c' fs
    obtain ⟨⟨rfl, hy⟩, q2⟩ := q2
    have q3 : spN G.Z 2 (app2 m) [v, u] H2 Q (fun _ _ _ => False) := sp_eq A2.ok A2.tl' r1 r2 ((N.ne (m _ y)).mono (fun d z w F' H' e r => z w F' H' ((e1.trans e2).trans e) r) (fun _ _ z => z) q2)
    cases r1 with
    | obj r n l =>
      split at hy
      · rename_i d ds
        subst hy
        cases r2 with
        | obj r' n' l' => exact ⟨_, _, _, _, rfl, tup_of A2.ok r, .base (.ins (tup_of A2.ok r') hI.cl hI.ha hI.hn hI.htk hI.hm), hO, q3⟩
      · obtain ⟨t, ht⟩ := Option.isSome_iff_exists.mp hy
        exact ⟨_, _, _, _, rfl, tup_of A2.ok r, by rw [h3]; exact tyX_of A2.ok r2 ht, hT t (tyN_in ht), q3⟩
  · exact (show False from q2).elim
theorem de_eqI {cl : List Nat} (C : EqC P w Z mg base c k m) (hr : Room k X.A) (ha : PE X a (eV G S na)) (hb : PE X b (eV G S nb))
    (h1 : X.prog = P := by rfl) (h2 : X.w = w := by rfl) (h3 : X.K = Z.K := by rfl) (h4 : X.mg = mg := by rfl) (h5 : X.base = base := by rfl) (h6 : G.Z = Z := by rfl) :
    PE X (.Compare a [.Eq] [b] pos) (eV G S (na.bind fun x => nb.bind fun y => dEqI cl c m x y)) := by
  obtain ⟨r, ho, hi⟩ := eqI_in (cl := cl) (S := S) (na := na) (nb := nb) C hr h1 h2 h3 h4 h5 h6
  exact PE.imp (pe_cmpR ho ha hb (nomark _)) hi
theorem dt_eqI {cl : List Nat} (C : EqC P w Z mg base c k m) (hr : Room k X.A) (ha : PE X a (eV G S na)) (hb : PE X b (eV G S nb))
    (h1 : X.prog = P := by rfl) (h2 : X.w = w := by rfl) (h3 : X.K = Z.K := by rfl) (h4 : X.mg = mg := by rfl) (h5 : X.base = base := by rfl) (h6 : G.Z = Z := by rfl) :
    PT X (.Compare a [.Eq] [b] pos) (tV G S ((na.bind fun x => nb.bind fun y => dEqI cl c m x y).bind N.tst)) := by
  obtain ⟨r, ho, hi⟩ := eqI_in (cl := cl) (S := S) (na := na) (nb := nb) C hr h1 h2 h3 h4 h5 h6
  exact PT.imp (pt_cmpR ho ha hb (nomark _)) fun σ H Q h => hi σ H _ (tst_run (na := na.bind fun x => nb.bind fun y => dEqI cl c m x y) h)
theorem neI_in (C : EqC P w Z mg base c k m) (hr : Room (k + 1) X.A)
    (h1 : X.prog = P := by rfl) (h2 : X.w = w := by rfl) (h3 : X.K = Z.K := by rfl) (h4 : X.mg = mg := by rfl) (h5 : X.base = base := by rfl) (h6 : G.Z = Z := by rfl) :
    ∃ r, OpR X (compareOp .NotEq) r ∧ ∀ σ H Q, eV G S (na.bind fun x => nb.bind fun y => dNeI c m x y) σ H Q → tOp r (eV G S na) (eV G S nb) σ H Q := by
  subst h1 h2 h4 h5 h6
  obtain ⟨g, fd, ps, Fn, hbi, hs, hf, hq⟩ := C.ex
  rw [← h3] at Fn hbi hs hf hq
  refine ⟨_, op_neI hq hf Fn hbi hr, fun σ H Q ⟨F, A, q⟩ => ?_⟩
  refine ⟨F, A, na.mono (fun x q1 v F1 H1 e1 r1 => ⟨F1, A.go e1, nb.mono (fun y q2 u F2 H2 e2 r2 => ?_) (fun _ _ z => z) q1⟩) (fun _ _ z => z) q⟩
  have A2 := (A.go e1).go e2
  have r1 := r1.ex e2.ex
  have q2 := dNeI_tot c m x y _ _ q2
  unfold dNeI at q2
  split at q2
  · rename_i c1 fs c2 gs
    obtain ⟨⟨rfl, rfl⟩, q2⟩ := q2
    have q3 : spN G.Z 2 (app2 m) [v, u] H2 (fun v H' => ∃ c, v = .bl c ∧ Q (.bl (!c)) H') (fun _ _ _ => False) := sp_eq A2.ok A2.tl' r1 r2 ((N.ne (m _ _)).mono (fun d z w F' H' e r => by
      cases d with
      | bl b => exact ⟨b, rp_bl r, z _ F' H' ((e1.trans e2).trans e) (.bl _)⟩
      | _ => exact (show False from z).elim) (fun _ _ z => z) q2)
    cases r1 with
    | obj r n l =>
      cases r2 with
      | obj r' n' l' => exact ⟨_, _, _, _, _, _, rfl, rfl, tup_of A2.ok r, tup_of A2.ok r', q3⟩
  · exact (show False from q2).elim
theorem de_neI (C : EqC P w Z mg base c k m) (hr : Room (k + 1) X.A) (ha : PE X a (eV G S na)) (hb : PE X b (eV G S nb))
    (h1 : X.prog = P := by rfl) (h2 : X.w = w := by rfl) (h3 : X.K = Z.K := by rfl) (h4 : X.mg = mg := by rfl) (h5 : X.base = base := by rfl) (h6 : G.Z = Z := by rfl) :
    PE X (.Compare a [.NotEq] [b] pos) (eV G S (na.bind fun x => nb.bind fun y => dNeI c m x y)) := by
  obtain ⟨r, ho, hi⟩ := neI_in (S := S) (na := na) (nb := nb) C hr h1 h2 h3 h4 h5 h6
  exact PE.imp (pe_cmpR ho ha hb (nomark _)) hi
theorem dt_neI (C : EqC P w Z mg base c k m) (hr : Room (k + 1) X.A) (ha : PE X a (eV G S na)) (hb : PE X b (eV G S nb))
    (h1 : X.prog = P := by rfl) (h2 : X.w = w := by rfl) (h3 : X.K = Z.K := by rfl) (h4 : X.mg = mg := by rfl) (h5 : X.base = base := by rfl) (h6 : G.Z = Z := by rfl) :
    PT X (.Compare a [.NotEq] [b] pos) (tV G S ((na.bind fun x => nb.bind fun y => dNeI c m x y).bind N.tst)) := by
  obtain ⟨r, ho, hi⟩ := neI_in (S := S) (na := na) (nb := nb) C hr h1 h2 h3 h4 h5 h6
  exact PT.imp (pt_cmpR ho ha hb (nomark _)) fun σ H Q h => hi σ H _ (tst_run (na := na.bind fun x => nb.bind fun y => dNeI c m x y) h)
end
end M

set_option Elab.async false
set_option linter.all false
set_option maxRecDepth 100000
set_option maxHeartbeats 2000000
namespace L2
open PySem PySem.Spec PyProof.Rows
/-! ### dict comprehensions whatever the keys -/
/-- a comprehension puts a pair into a dict -/
theorem dset_put {X : Cx} {pins : List (Addr × Obj)} {σ : St} {H G : Hp} {s : Shared} {E : Value → Shared → Prop} {d : Addr} {y v : V} {u r : Value} {Q : Unit → Shared → Prop} (hu : X.A.units + 2 < cLine) (I : Inv X pins σ H s) (g : DPut H d y v G) (ry : RelV y u) (rv : RelV v r)
    (h : ∀ t, Inv X pins σ G t → Q () t) : wpAny (model X.prog X.w) X.A (dictSet d u r) Q E s := by
  rcases g with ⟨kvs, k, eD, rfl, hl, rfl⟩ | ⟨kvs, k, b, eD, rfl, eb, hl, rfl⟩
  · exact d_dictSet I eD hl ry rv h
  · cases (show u = Value.ref b from ry)
    obtain ⟨hz, hsm, xs, rel, dd⟩ := dt_of I.hok eD
    have l1 : xs.length ≤ sizeLine := by have := Paired.length rel; omega
    have l2 : (putK kvs k v).length ≤ sizeLine := by have := length_putK kvs k v; omega
    have room : (tupleKind (mixKind X.prog X.w)).room X.A := by
      show X.A.units < cLine
      omega
    refine wpAny_dictSet_heap (hsz := l1) room (key_of I.hok eb) dd fun h2 dd2 same => h _ ?_
    obtain ⟨o2, es2, ep2, q1, q2, q3, q4, q5, q6⟩ := dd2
    refine d_write I (by rw [eD]; exact True.intro) same ⟨o2, q1⟩ ⟨l2, hsm, _, (rel.put k eb rv).keeps fun c ys ec => ?_, o2, es2, ep2, q1, q2, q3, q4, q6⟩
    rw [upd_ne (ne_of ec eD (fun z => nomatch z))]
    exact ec
/-- the new dict begins as o0 -/
def tDx (o0 : HO) (wi : TI) (g : TG) (tt : TT) (tk tv : TE) (vs : List Nat) : TE := fun σ H Q => wi σ H fun J H1 => ∀ d, H1 d = none → ∃ W : Nat → Nat → Hp → Prop, (∃ m, W 0 m (upd H1 d o0)) ∧ ∀ i m H, W i m H →
  (J.stop i H ∧ Q (.ref d) H) ∨ (J.go i H ∧ ∃ Nx : Hp → Prop, (∀ H', Nx H' → ∃ m', m' < m ∧ W (i + 1) m' H') ∧ ∀ x H', J.yld i H x H' → g x (wipe σ vs) H' fun σ2 H2 => wipe σ2 vs = wipe σ vs ∧ tt σ2 H2 fun b H3 =>
    if b = true then tk σ2 H3 fun y H4 => tv σ2 H4 fun z H5 => ∃ H6, DPut H5 d y z H6 ∧ Nx H6 else Nx H3)
section
variable {X : Cx}
theorem pe_dx {o0 : HO} {kx vx tg iter : Expr} {ifs : List Expr} {scope : Scope} {own : List (Str × Nat)} {pos : Pos} {wi : TI} {g : TG} {tt : TT} {tk tv : TE} (h0 : o0 = .dK [] ∨ o0 = .dT []) (hu : X.A.units + 2 < cLine) (calm : X.calm = true) (hN : X.N.Nodup) (hi : PI X tg iter wi) (ok : BlkOk X.N X.env.scope scope own)
    (hg : ∀ s H C cl fp, PG (X.blk s H scope (compEnvC scope cl C X.env) fp) tg g) (ht : ∀ s H C cl fp, PTs (X.blk s H scope (compEnvC scope cl C X.env) fp) ifs tt) (hk : ∀ s H C cl fp, PE (X.blk s H scope (compEnvC scope cl C X.env) fp) kx tk)
    (he : ∀ s H C cl fp, PE (X.blk s H scope (compEnvC scope cl C X.env) fp) vx tv) (hs : ∀ x, foldedSetIterable iter X.env x = pure x := by intro _; rfl) :
    PE X (.DictComp kx vx [⟨tg, iter, ifs, 0⟩] scope pos) (tDx o0 wi g tt tk tv (own.map (·.2))) := by
  refine ⟨fun pins sA σ H Q I h => ?_⟩
  rw [arm_eval_DictComp]
  have fr : ∀ y ∈ scope.names, y.2 = .free → ∃ c, X.env.cells.lookup y.1 = some c := fun y hy e => (ok.free y hy e).elim (fun k => I.ok.has _ (.inl k)) fun k => I.ok.has _ (.inr k)
  refine wpAny_comprehension_free (use := none) rfl hs (closure_ok fr) ok.kind (fun y hy e => by rw [ok.uniq y hy, e]) (thn (hi.run pins sA σ H _ I h) fun xv sB hx => thn hx fun itv sC hC => ?_)
  obtain ⟨it, fp, tn, J, HC, rfl, IC, T, stC, fC, q⟩ := hC
  refine wpAny_newObj_type (newEnv_comp ?_)
  obtain ⟨d, hd⟩ : ∃ d, d = sC.heap.objs.size := ⟨_, rfl⟩
  rw [← hd]
  obtain ⟨W, ⟨m0, w0⟩, turn⟩ := q d (IC.hok.fresh (Nat.le_of_eq hd.symm))
  -- the new dict stands
  obtain ⟨sD, hsD⟩ : ∃ sD : Shared, sD = { sC with heap := sC.heap.push { cls := .type "dict", data := .dict #[] } } := ⟨_, rfl⟩
  have hpD : sD.heap = sC.heap.push { cls := .type "dict", data := .dict #[] } := by rw [hsD]
  obtain ⟨HD, hHD⟩ : ∃ HD, HD = upd HC d o0 := ⟨_, rfl⟩
  have ID : Inv X pins σ HD sD := by
    rw [hHD, hsD]
    refine IC.laid (t' := sC.toks) (fun b o e => Heap.get?_push_of_some _ e) (Nat.le_of_eq hd.symm) ?_
    rw [hd]
    rcases h0 with rfl | rfl
    · exact dk_empty sC.heap IC.big
    · exact dt_empty sC.heap IC.big
  have small : ∀ b ∈ fp, b < sC.heap.objs.size := fun b hb => let ⟨_, e, _⟩ := T.obj _ _ stC b hb; Heap.lt_size e
  have fD : ∀ b ∈ fp, FpOk X pins HD b ∧ b < sD.heap.objs.size := fun b hb => by
    have lt := small b hb
    refine ⟨⟨?_, (fC b hb).2⟩, by rw [hpD, Heap.size_push]; exact Nat.lt_succ_of_lt lt⟩
    rw [hHD, upd_ne (by rw [hd]; exact Nat.ne_of_lt lt)]
    exact (fC b hb).1
  have stD : tn 0 sD.heap := T.keep _ _ _ stC fun b _ o e => by rw [hpD]; exact Heap.get?_push_of_some _ e
  have IE0 := block_start ID ok hN fD
  rw [← hHD] at w0
  -- the block
  obtain ⟨ce, hce⟩ : ∃ ce, ce = compEnvC scope (cellsFrom (sD.heap.objs.size + 1) scope.names (cloFrom X.env.cells scope.names [])) sD.heap.objs.size X.env := ⟨_, rfl⟩
  have pg := hg sD HD sD.heap.objs.size (cellsFrom (sD.heap.objs.size + 1) scope.names (cloFrom X.env.cells scope.names [])) fp
  have pt := ht sD HD sD.heap.objs.size (cellsFrom (sD.heap.objs.size + 1) scope.names (cloFrom X.env.cells scope.names [])) fp
  have pk := hk sD HD sD.heap.objs.size (cellsFrom (sD.heap.objs.size + 1) scope.names (cloFrom X.env.cells scope.names [])) fp
  have pe := he sD HD sD.heap.objs.size (cellsFrom (sD.heap.objs.size + 1) scope.names (cloFrom X.env.cells scope.names [])) fp
  rw [← hce] at IE0 pg pt pk pe
  have cL : ce.locals = sD.heap.objs.size := by
    rw [hce]
    rfl
  obtain ⟨sE, hsE⟩ : ∃ sE : Shared, sE = { sD with heap := pushCells (sD.heap.push { cls := .type "dict", data := .dict #[] }) scope.names } := ⟨_, rfl⟩
  have IE : Inv (X.blk sD HD scope ce fp) [] (wipe σ (own.map (·.2))) HD sE := by rw [hsE]; exact IE0
  have stE : tn 0 sE.heap := T.keep _ _ _ stD fun b _ o e => by rw [hsE]; exact pushCells_keeps _ _ _ _ (Heap.get?_push_of_some _ e)
  have fok : ∀ {σ' : St} {H' : Hp} {s' : Shared}, Inv (X.blk sD HD scope ce fp) [] σ' H' s' → (∀ b ∈ fp, H' b = none) → ∀ b ∈ fp, FpOk (X.blk sD HD scope ce fp) [] H' b := fun I' n b hb =>
    ⟨n b hb, (I'.ok.exf b hb).1, I'.ok.exfs b hb, .inl hb, fun x c e => (I'.ok.exf b hb).2 x c e, fun p hp => by simp at hp⟩
  have loop : codeAny (model X.prog X.w) X.A (.compLoop (.DictComp kx vx [⟨tg, iter, ifs, 0⟩] scope pos) 0 (.ref it) (.ref d) ce) (compPost (model X.prog X.w) X.A X.xe none (EP X pins σ Q) (.ref d) sD.heap.objs.size) sE := by
    refine compLoop_anyD (fun n s' => ∃ i H', Inv (X.blk sD HD scope ce fp) [] (wipe σ (own.map (·.2))) H' s' ∧ tn i s'.heap ∧ (∀ b ∈ fp, H' b = none) ∧ W i n H') ?_ m0 ⟨0, HD, IE, stE, fun b hb => (fD b hb).1.1, w0⟩
    rintro n sF ⟨i, HF, IF, stF, nF, wF⟩
    rcases turn i n HF wF with ⟨stop, done⟩ | ⟨go, Nx, hNx, step⟩
    · refine thnF (T.done (X.blk sD HD scope ce fp) rfl rfl rfl calm i [] sF _ HF (fun _ _ => False) IF (fok IF nF) stF stop) fun r sG ⟨hr, IG⟩ => ?_
      subst hr
      have IX : Inv X pins σ HF sG := ID.call' (ch := fp) IG.os IG.base IG.hok IG.bare fun b hb => let z := (fD b hb).1.2; ⟨z.2.2.1, z.1, z.2.2.2.1, z.2.2.2.2⟩
      have nC : HF sD.heap.objs.size = none := by rw [← cL]; exact IG.free
      obtain ⟨m, hn, _⟩ := IG.loc
      have hn2 : sG.heap.Ns sD.heap.objs.size m := by rw [← cL]; exact hn
      obtain ⟨k0, k1, _, k3, k4, k5⟩ := ID.fpOk (Nat.le_refl sD.heap.objs.size) nC
      exact ⟨m, hn2, fun h2 sb => ⟨.ref d, HF, IX.turned (t' := sG.toks) (fun b o hb e => (sb.2 b hb).trans e) k0 k1 k3 k4 k5, rfl, done⟩⟩
    · refine thnF (T.item (X.blk sD HD scope ce fp) rfl rfl rfl calm i [] sF _ HF (fun _ _ => False) IF (fok IF nF) stF go) fun r sG ⟨u, hr, hG⟩ => ?_
      subst hr
      refine thnF hG fun _ sH ⟨x, HH, IH, rH, yH, stH, nH⟩ => ?_
      refine thnF (pg.run _ sH _ HH x u _ (IH.pinned (fok IH nH) (T.obj _ _ stH)) rH (step x HH yH)) fun _ sI ⟨σI, HI, II, hwI, qI⟩ => ?_
      refine thnF (pt.run _ sI σI HI _ II qI) fun b sJ ⟨HJ, IJ, qJ⟩ => ?_
      have fin : ∀ {s' : Shared} {H' : Hp}, Inv (X.blk sD HD scope ce fp) ([] ++ pinsAt fp sH.heap) σI H' s' → Nx H' → ∃ m, m < n ∧ ∃ i H', Inv (X.blk sD HD scope ce fp) [] (wipe σ (own.map (·.2))) H' s' ∧ tn i s'.heap ∧ (∀ b ∈ fp, H' b = none) ∧ W i m H' := fun {s' H'} I' nx => by
        obtain ⟨m', hm, w'⟩ := hNx H' nx
        have pin : ∀ b ∈ fp, ∀ o, sH.heap.get? b = some o → s'.heap.get? b = some o ∧ H' b = none := fun b hb o e => let z := I'.pin (b, o) (List.mem_append_right _ (List.mem_append_right _ (mem_pinsAt hb e))); ⟨z.1, z.2.1⟩
        refine ⟨m', hm, i + 1, H', (I'.unpinned (pins := [])).weak (by rw [← hwI, wipe_length]) (fun j v e => (wipe_some (by rw [hwI]; exact e)).1), T.keep _ _ _ stH fun b hb o e => (pin b hb o e).1, fun b hb => ?_, w'⟩
        obtain ⟨o, e, _⟩ := T.obj _ _ stH b hb
        exact (pin b hb o e).2
      cases b with
      | false => exact fin IJ qJ
      | true =>
        refine thnF (pk.run _ sJ σI HJ _ IJ qJ) fun z sK ⟨yk, HK, IK, rK, qK⟩ => ?_
        refine thnF (pe.run _ sK σI HK _ IK qK) fun z2 sL ⟨yv, HL, IL, rL, HM, put, nx⟩ => ?_
        exact dset_put (X := X.blk sD HD scope ce fp) hu IL put rK rL fun sM IM => fin IM nx
  have start := codeAny_compStart_dict loop (T.self X.A 0 _ _ _ stE loop)
  subst hsE
  subst hce
  subst hsD
  exact start
end
end L2

set_option Elab.async false
set_option linter.all false
set_option maxRecDepth 100000
set_option maxHeartbeats 2000000
namespace M
open PySem L2
/-! ### what is walked over, and what takes the items: for loops and comprehensions of any kind -/
/-- the iterator J gives the data ds, one behind another -/
structure Kp (F1 F : Ty) (H : Hp) : Prop where
  ex : Ex F1 F
  ok : Okk F H
def WalkD (G : Gx) (J : It) (ds : List D) (F1 : Ty) (H1 : Hp) : Prop := ∀ (F : Ty) (H : Hp), Kp F1 F H → ∀ i, (∀ d, ds[i]? = some d → J.go i H ∧ ∀ x H', J.yld i H x H' → ∃ F', Ext F H F' H' ∧ Rp G.Z F' x d) ∧ (ds.length ≤ i → J.stop i H)
structure Src (X : Cx) (G : Gx) (S : List Sl) (tg iter : Expr) (n : N (List D)) : Prop where
  ex : ∃ wi, PI X tg iter wi ∧ ∀ (σ : St) (H : Hp) (R : It → Hp → Prop), (∃ F, At G.Z G.B S F σ H ∧ n.wp (fun ds => ∀ F1 H1, Ext F H F1 H1 → ∀ J, WalkD G J ds F1 H1 → R J H1) G.Er) → wi σ H R
  fo : ∀ v, foldedSetIterable iter X.env v = pure v
/-- a target: it takes what dec makes of an item into the slots, as sa says; js: the slots -/
structure Pat (G : Gx) (js : List Nat) {P : Type} (dec : D → Option P) (sa : List Sl → P → List Sl) (g : TG) : Prop where
  run : ∀ (S : List Sl) (F : Ty) (σ : St) (H : Hp) (v : V) (d : D) (p : P) (K : St → Hp → Prop), At G.Z G.B S F σ H → Rp G.Z F v d → dec d = some p → (∀ σ2, L2.wipe σ2 js = L2.wipe σ js → At G.Z G.B (sa S p) F σ2 H → K σ2 H) → g v σ H K
  ind : ∀ σ : St, L2.wipe (L2.wipe σ js) js = L2.wipe σ js
def decAll {P : Type} (dec : D → Option P) : List D → Option (List P)
  | [] => some []
  | d :: ds => match dec d, decAll dec ds with
    | some p, some ps => some (p :: ps)
    | _, _ => none
def N.decs {P : Type} (dec : D → Option P) (ds : List D) : N (List P) := match decAll dec ds with
  | some ps => .ok ps
  | none => .stuck
theorem decAll_len {P : Type} {dec : D → Option P} : ∀ {ds : List D} {ps : List P}, decAll dec ds = some ps → ds.length = ps.length
  | [], ps, h => by unfold decAll at h; cases h; rfl
  | d :: ds, ps, h => by
    unfold decAll at h
    split at h
    · rename_i p qs h1 h2
      cases h
      rw [List.length_cons, List.length_cons, decAll_len h2]
    · cases h
theorem decAll_get {P : Type} {dec : D → Option P} : ∀ {ds : List D} {ps : List P} {i : Nat} {p : P}, decAll dec ds = some ps → ps[i]? = some p → ∃ d, ds[i]? = some d ∧ dec d = some p
  | [], ps, i, p, h, hp => by unfold decAll at h; cases h; simp at hp
  | d :: ds, ps, i, p, h, hp => by
    unfold decAll at h
    split at h
    · rename_i p0 qs h1 h2
      cases h
      cases i with
      | zero => simp at hp; subst hp; exact ⟨d, rfl, h1⟩
      | succ i => exact decAll_get (i := i) h2 (by simpa using hp)
    · cases h
section
variable {X : Cx} {G : Gx} {S : List Sl}
theorem pat_name (j : Nat) : Pat G [j] (fun d => some d) (fun S d => S.set j (.dat d)) (gName j) :=
  ⟨fun S F σ H v d p K A r e k => by
    cases e
    refine k _ ?_ (A.set r)
    show (σ.set j (some v)).set j none = σ.set j none
    rw [List.set_set], fun σ => by
    show (σ.set j none).set j none = σ.set j none
    rw [List.set_set]⟩
def dec2 : D → Option (D × D)
  | .tup [a, b] => some (a, b)
  | .ktup [a, b] => some (a, b)
  | _ => none
def dec3 : D → Option (D × D × D)
  | .tup [a, b, c] => some (a, b, c)
  | .ktup [a, b, c] => some (a, b, c)
  | _ => none
theorem sqT_rp {F : Ty} {H : Hp} {v : V} {xs : List D} (ok : Okk F H) (r : Rp G.Z F v (.tup xs) ∨ Rp G.Z F v (.ktup xs)) : ∃ a vs, v = .ref a ∧ SqT G.Z.K H a vs ∧ RpL G.Z F vs xs := by
  rcases r with r | r
  · cases r with
    | tup r l => exact ⟨_, _, rfl, sqT_of ok r, l⟩
  · cases r with
    | ktup r l => exact ⟨_, _, rfl, .inr r, l⟩
theorem set_none {σ : St} {i j : Nat} {u v : V} (h : i ≠ j) : (((σ.set i (some u)).set j (some v)).set j none).set i none = (σ.set j none).set i none := by
  rw [List.set_set, List.set_comm _ _ h, List.set_set, List.set_comm _ _ h.symm]
theorem dec2_rp {F : Ty} {H : Hp} {v : V} {d : D} {p : D × D} (ok : Okk F H) (r : Rp G.Z F v d) (e : dec2 d = some p) : ∃ a v1 v2, v = .ref a ∧ SqT G.Z.K H a [v1, v2] ∧ Rp G.Z F v1 p.1 ∧ Rp G.Z F v2 p.2 := by
  have key : ∀ {xs : List D}, xs = [p.1, p.2] → (Rp G.Z F v (.tup xs) ∨ Rp G.Z F v (.ktup xs)) → ∃ a v1 v2, v = .ref a ∧ SqT G.Z.K H a [v1, v2] ∧ Rp G.Z F v1 p.1 ∧ Rp G.Z F v2 p.2 := fun {xs} hx h => by
    subst hx
    obtain ⟨a, vs, rfl, sq, l⟩ := sqT_rp ok h
    cases l with
    | cons r1 l =>
      cases l with
      | cons r2 l =>
        cases l
        exact ⟨a, _, _, rfl, sq, r1, r2⟩
  unfold dec2 at e
  split at e
  · cases e; exact key rfl (.inl r)
  · cases e; exact key rfl (.inr r)
  · cases e
theorem pat_two (hK : G.Z.K = X.K) {i j : Nat} (hij : i ≠ j) : Pat G [i, j] dec2 (fun S p => (S.set i (.dat p.1)).set j (.dat p.2)) (gTup X.K 2 (gCons (gName i) (gCons (gName j) gNil))) :=
  ⟨fun S F σ H v d p K A r e k => by
    obtain ⟨a, v1, v2, rfl, sq, r1, r2⟩ := dec2_rp A.ok r e
    refine ⟨a, [v1, v2], rfl, by rw [← hK]; exact sq, rfl, v1, [v2], rfl, v2, [], rfl, rfl, k _ ?_ ((A.set r1).set r2)⟩
    show (((σ.set i (some v1)).set j (some v2)).set j none).set i none = (σ.set j none).set i none
    exact set_none hij, fun σ => by
    show (((σ.set j none).set i none).set j none).set i none = (σ.set j none).set i none
    rw [List.set_comm _ _ hij, List.set_set, List.set_set]⟩
/-! sources -/
theorem walk_seqL {F1 : Ty} {H1 : Hp} {a : Addr} {vs : List V} {ds : List D} (hK : G.Z.K = X.K) (r : RL G.Z.K F1 a vs) (l : RpL G.Z F1 vs ds) : WalkD G (Itl X.K a) ds F1 H1 := fun F H e i => by
  have sq : SqL X.K H a vs := by rw [← hK]; exact RL.sq e.ok (r.ex e.ex)
  refine ⟨fun d hd => ?_, fun hi => ⟨vs, sq, by rw [l.length]; exact hi⟩⟩
  obtain ⟨v, hv, rv⟩ := l.get hd
  refine ⟨⟨vs, v, sq, hv⟩, fun x H' ⟨e1, e2⟩ => ?_⟩
  subst e1
  have := e2 vs sq
  rw [hv] at this
  cases this
  exact ⟨F, Ext.refl e.ok, rv.ex e.ex⟩
theorem walk_seqT {F1 : Ty} {H1 : Hp} {a : Addr} {vs : List V} {ds : List D} (hK : G.Z.K = X.K) (r : F1 a = some (is (.tup vs)) ∨ KT G.Z.K a vs) (l : RpL G.Z F1 vs ds) : WalkD G (Itt X.K a) ds F1 H1 := fun F H e i => by
  have sq : SqT X.K H a vs := by
    rw [← hK]
    rcases r with r | r
    · exact sqT_of e.ok (e.ex _ _ r)
    · exact .inr r
  refine ⟨fun d hd => ?_, fun hi => ⟨vs, sq, by rw [l.length]; exact hi⟩⟩
  obtain ⟨v, hv, rv⟩ := l.get hd
  refine ⟨⟨vs, v, sq, hv⟩, fun x H' ⟨e1, e2⟩ => ?_⟩
  subst e1
  have := e2 vs sq
  rw [hv] at this
  cases this
  exact ⟨F, Ext.refl e.ok, rv.ex e.ex⟩
/-- a list or a tuple -/
theorem src_seq {tg a : Expr} {na : N D} (hK : G.Z.K = X.K) (ha : PE X a (eV G S na)) (hs : ∀ v, foldedSetIterable a X.env v = pure v := by intro _; rfl) : Src X G S tg a (na.bind seqOf) :=
  ⟨⟨_, pi_seq ha, fun σ H R ⟨F, A, q⟩ => ⟨F, A, na.mono (fun d q1 v F1 H1 e1 r1 => by
    have A1 := A.go e1
    cases r1 with
    | tup r l => exact ⟨_, rfl, .inr ⟨⟨_, by rw [← hK]; exact sqT_of A1.ok r⟩, q1 F1 H1 e1 _ (walk_seqT hK (.inl r) l)⟩⟩
    | ktup r l => exact ⟨_, rfl, .inr ⟨⟨_, by rw [← hK]; exact .inr r⟩, q1 F1 H1 e1 _ (walk_seqT hK (.inr r) l)⟩⟩
    | lst r l => exact ⟨_, rfl, .inl ⟨⟨_, by rw [← hK]; exact RL.sq A1.ok r⟩, q1 F1 H1 e1 _ (walk_seqL hK r l)⟩⟩
    | _ => exact (show False from q1).elim) (fun _ _ z => z) q⟩⟩, hs⟩
/-- runD one behind another -/
def runD (lo : Int) (n : Nat) : List D := (List.range n).map fun i => .int (lo + ((i : Nat) : Int))
theorem walk_rng {lo : Int} {n : Nat} {F1 : Ty} {H1 : Hp} : WalkD G (Itr lo n) (runD lo n) F1 H1 := fun F H e i => by
  refine ⟨fun d hd => ?_, fun hi => by unfold runD at hi; rw [List.length_map, List.length_range] at hi; exact hi⟩
  unfold runD at hd
  rw [List.getElem?_map] at hd
  obtain ⟨k, hk, e1⟩ := Option.map_eq_some_iff.mp hd
  obtain ⟨hlt, hki⟩ := List.getElem?_eq_some_iff.mp hk
  rw [List.length_range] at hlt
  rw [List.getElem_range] at hki
  subst hki e1
  refine ⟨hlt, fun x H' ⟨e2, e3⟩ => ?_⟩
  subst e2 e3
  exact ⟨F, Ext.refl e.ok, .int _⟩
def N.rng1 (d : D) : N (List D) := match d with
  | .int n => (N.asrt (-(2 ^ 62) ≤ n ∧ n < 2 ^ 62)).bind fun _ => .ok (runD 0 n.toNat)
  | _ => .stuck
def N.rng2 (d e : D) : N (List D) := match d, e with
  | .int a, .int b => (N.asrt (-(2 ^ 62) ≤ a ∧ a < 2 ^ 62 ∧ -(2 ^ 62) ≤ b ∧ b < 2 ^ 62)).bind fun _ => .ok (runD a (b - a).toNat)
  | _, _ => .stuck
theorem src_rng1 {tg a : Expr} {na : N D} {p pos : Pos} (hm : X.mg "range" = none) (ha : PE X a (eV G S na)) (hg : Gl X "range" := by rfl) (h1 : starEach [a] X.env = [(false, eval a X.env)] := by rfl)
    (hs : ∀ v, foldedSetIterable (.Call (.Name "range" p) [a] [] pos) X.env v = pure v := by intro _; rfl) : Src X G S tg (.Call (.Name "range" p) [a] [] pos) (na.bind N.rng1) :=
  ⟨⟨_, pi_range1 hg hm (da_cons ha da_nil h1) h1, fun σ H R ⟨F, A, q⟩ => ⟨F, A, na.mono (fun d q1 vs F1 H1 e1 r1 => by
    unfold N.rng1 at q1
    split at q1
    · rename_i n
      obtain ⟨⟨b1, b2⟩, q1⟩ := q1
      cases r1 with
      | cons r l =>
        cases l
        rw [rp_int r]
        exact ⟨n, rfl, b1, b2, q1 F1 H1 e1 _ walk_rng⟩
    · exact (show False from q1).elim) (fun _ _ z => z) q⟩⟩, hs⟩
theorem src_rng2 {tg a b : Expr} {na nb : N D} {p pos : Pos} (hm : X.mg "range" = none) (ha : PE X a (eV G S na)) (hb : PE X b (eV G S nb)) (hg : Gl X "range" := by rfl) (h1 : starEach [a, b] X.env = [(false, eval a X.env), (false, eval b X.env)] := by rfl) (h2 : starEach [b] X.env = [(false, eval b X.env)] := by rfl)
    (hs : ∀ v, foldedSetIterable (.Call (.Name "range" p) [a, b] [] pos) X.env v = pure v := by intro _; rfl) : Src X G S tg (.Call (.Name "range" p) [a, b] [] pos) (na.bind fun x => nb.bind fun y => N.rng2 x y) :=
  ⟨⟨_, pi_range2 hg hm (da_cons ha (da_cons hb da_nil h2) (by rw [h1, h2])) h1 h2, fun σ H R ⟨F, A, q⟩ => ⟨F, A, na.mono (fun d q1 => nb.mono (fun e q2 vs F1 H1 e1 r1 => by
    replace q2 : (N.rng2 d e).wp (fun ds => ∀ F1 H1, Ext F H F1 H1 → ∀ J, WalkD G J ds F1 H1 → R J H1) G.Er := q2
    unfold N.rng2 at q2
    split at q2
    · rename_i lo hi
      obtain ⟨hbs, q2⟩ := q2
      cases r1 with
      | cons ra l =>
        cases l with
        | cons rb l =>
          cases l
          rw [rp_int ra, rp_int rb]
          exact ⟨lo, hi, rfl, hbs, q2 F1 H1 e1 _ walk_rng⟩
    · exact (show False from q2).elim) (fun _ _ z => z) q1) (fun _ _ z => z) q⟩⟩, hs⟩
def numD (ds : List D) : List D := (numbered ds).map fun p => .tup [.int p.1, p.2]
theorem numD_get {ds : List D} {i : Nat} {d : D} (h : (numD ds)[i]? = some d) : ∃ x, ds[i]? = some x ∧ d = .tup [.int (i : Nat), x] := by
  unfold numD numbered at h
  rw [List.getElem?_map, List.getElem?_map, List.getElem?_zipIdx] at h
  cases e : ds[i]? with
  | none => rw [e] at h; simp at h
  | some x =>
    rw [e] at h
    simp at h
    exact ⟨x, rfl, h.symm⟩
theorem numD_len {ds : List D} : (numD ds).length = ds.length := by
  unfold numD numbered
  rw [List.length_map, List.length_map, List.length_zipIdx]
theorem walk_en {J : It} {F1 : Ty} {H1 : Hp} {vs : List V} {ds : List D} (l : RpL G.Z F1 vs ds) (hg : ∀ F H, Kp F1 F H → ∀ i x, vs[i]? = some x → J.go i H) (hy : ∀ F H, Kp F1 F H → ∀ i v H', J.yld i H v H' → ∀ x, vs[i]? = some x → ∃ T, v = .ref T ∧ H T = none ∧ H' = upd H T (.tup [.int (i : Nat), x]))
    (hs : ∀ F H, Kp F1 F H → ∀ i, vs.length ≤ i → J.stop i H) : WalkD G J (numD ds) F1 H1 := fun F H e i => by
  refine ⟨fun d hd => ?_, fun hi => hs F H e i (by rw [numD_len] at hi; rw [l.length]; exact hi)⟩
  obtain ⟨x, hx, rfl⟩ := numD_get hd
  obtain ⟨v, hv, rv⟩ := l.get hx
  refine ⟨hg F H e i v hv, fun y H' hyld => ?_⟩
  obtain ⟨T, rfl, nT, rfl⟩ := hy F H e i y H' hyld v hv
  have e2 : Ext F H (updT F T (is (.tup [.int (i : Nat), v]))) (upd H T (.tup [.int (i : Nat), v])) := Ext.new e.ok nT rfl
  exact ⟨_, e2, .tup updT_same (.cons (.int _) (.cons (rv.ex (e.ex.trans e2.ex)) .nil))⟩
/-- enumerate(e) -/
theorem src_en {a : Expr} {na : N D} {p pos tpos : Pos} {elts : List Expr} {kk : Nat} (hK : G.Z.K = X.K) (hm : X.mg "enumerate" = none) (ha : PE X a (eV G S na)) (hg : Gl X "enumerate" := by rfl) (h1 : starEach [a] X.env = [(false, eval a X.env)] := by rfl)
    (hs : ∀ v, foldedSetIterable (.Call (.Name "enumerate" p) [a] [] pos) X.env v = pure v := by intro _; rfl) : Src X G S (.Tuple elts kk tpos) (.Call (.Name "enumerate" p) [a] [] pos) (na.bind fun d => (enOf d).bind fun xs => .ok (numD xs)) :=
  ⟨⟨_, pi_en hg hm (da_cons ha da_nil h1) h1, fun σ H R ⟨F, A, q⟩ => ⟨F, A, na.mono (fun d q1 vs F1 H1 e1 r1 => by
    have A1 := A.go e1
    cases r1 with
    | cons r l0 =>
      cases l0
      cases r with
      | tup r l =>
        rename_i a vs xs
        have sq : ∀ F H, Kp F1 F H → SqT X.K H a vs := fun F H e => by rw [← hK]; exact sqT_of e.ok (e.ex _ _ r)
        exact ⟨a, rfl, .inr ⟨⟨vs, tup_of A1.ok r⟩, q1 F1 H1 e1 _ (walk_en l (fun F H e i x hx => ⟨vs, x, sq F H e, hx⟩) (fun F H e i v H' ⟨T, u, h1, h2, h3, h4⟩ x hx => by
          have := h4 vs (sq F H e)
          rw [hx] at this
          cases this
          exact ⟨T, h1, h2, h3⟩) (fun F H e i hi => ⟨vs, sq F H e, hi⟩))⟩⟩
      | lst r l =>
        rename_i a vs xs
        have sq : ∀ F H, Kp F1 F H → SqL X.K H a vs := fun F H e => by rw [← hK]; exact RL.sq e.ok (r.ex e.ex)
        exact ⟨a, rfl, .inl ⟨⟨vs, sq F1 H1 ⟨Ex.refl F1, A1.ok⟩⟩, q1 F1 H1 e1 _ (walk_en l (fun F H e i x hx => ⟨vs, x, sq F H e, hx⟩) (fun F H e i v H' ⟨T, u, h1, h2, h3, h4⟩ x hx => by
          have := h4 vs (sq F H e)
          rw [hx] at this
          cases this
          exact ⟨T, h1, h2, h3⟩) (fun F H e i hi => ⟨vs, sq F H e, hi⟩))⟩⟩
      | _ => exact (show False from q1).elim) (fun _ _ z => z) q⟩⟩, hs⟩
end
/-! list comprehensions -/
section
variable {X : Cx} {G : Gx} {S : List Sl} {pos : Pos} {tg iter elt : Expr} {ifs : List Expr} {scope : Scope} {own : List (Str × Nat)} {n : N (List D)} {P : Type} {dec : D → Option P} {sa : List Sl → P → List Sl} {g : TG} {tn : P → N Bool} {fn : P → N D} {m : Nat}
def TTg (G : Gx) (m : Nat) (S : List Sl) (js : List Nat) (sa : List Sl → P → List Sl) (tn : P → N Bool) : TT := fun σ H Q => ∃ y : P, tV (G.in m) (sa (wipeS S js) y) (tn y) σ H Q
def TEg (G : Gx) (m : Nat) (S : List Sl) (js : List Nat) (sa : List Sl → P → List Sl) (fn : P → N D) : TE := fun σ H Q => ∃ y : P, eV (G.in m) (sa (wipeS S js) y) (fn y) σ H Q
def N.lcG (n : N (List D)) (dec : D → Option P) (tn : P → N Bool) (fn : P → N D) : N D := n.bind fun ds => (N.decs dec ds).bind fun ps => (N.fits ps).bind fun _ => (N.comp tn fn ps).bind fun ys => .ok (.lst ys)
theorem lcG_run (js : List Nat) (hs : Src X G S tg iter n) (hp : Pat G js dec sa g) (wi : TI) (hw : ∀ (σ : St) (H : Hp) (R : It → Hp → Prop), (∃ F, At G.Z G.B S F σ H ∧ n.wp (fun ds => ∀ F1 H1, Ext F H F1 H1 → ∀ J, WalkD G J ds F1 H1 → R J H1) G.Er) → wi σ H R) {σ : St} {H : Hp} {Q : VK} (h : eV G S (N.lcG n dec tn fn) σ H Q) :
    tLc wi g (TTg G m S js sa tn) (TEg G m S js sa fn) js σ H Q := by
  obtain ⟨F, A, q⟩ := h
  refine hw σ H _ ⟨F, A, n.mono (fun ds q1 F1 H1 e1 J wk => ?_) (fun _ _ z => z) q⟩
  have A1 := A.go e1
  replace q1 : (N.decs dec ds).wp (fun ps => ((N.fits ps).bind fun _ => (N.comp tn fn ps).bind fun ys => .ok (.lst ys)).wp (fun d => ∀ v F' H', Ext F H F' H' → Rp G.Z F' v d → Q v H') G.Er) G.Er := q1
  unfold N.decs at q1
  split at q1
  · rename_i ps hd
    obtain ⟨hz, q1⟩ := q1
    have hlen := decAll_len hd
    intro Dl hD
    refine ⟨fun i m G0 => m = ps.length - i ∧ i ≤ ps.length ∧ CW G F1 H1 Dl tn fn (KQ G F H Q) G.Er ps.length i (ps.drop i) G0, ⟨ps.length, by simp, Nat.zero_le _, F1, [], [], Ext.own A1.ok hD, A1.ok.none hD, upd_same, .nil, Nat.zero_le _, q1⟩, ?_⟩
    rintro i k H' ⟨rfl, hi, cw⟩
    obtain ⟨F', av, ad, e', hF', hA', r', hl', q'⟩ := id cw
    by_cases hlt : i < ps.length
    · obtain ⟨d, hdi, hdec⟩ := decAll_get hd (List.getElem?_eq_getElem hlt)
      obtain ⟨go, yld⟩ := (wk F' H' ⟨e'.ex, e'.ok⟩ i).1 d hdi
      refine .inr ⟨go, CW G F1 H1 Dl tn fn (KQ G F H Q) G.Er ps.length (i + 1) (ps.drop (i + 1)), fun H2 nx => ⟨_, by omega, rfl, hlt, nx⟩, fun x H2 hy => ?_⟩
      obtain ⟨F2, e2, rx⟩ := yld x H2 hy
      obtain ⟨hF2, hA2⟩ := ext_lst e2 hF' hA'
      rw [List.drop_eq_getElem_cons hlt] at q'
      refine hp.run _ _ _ _ x d _ _ (((A1.go e').go e2).wipe js) rx hdec fun σ2 hw2 A2 => ⟨hw2.trans (hp.ind σ), ?_⟩
      exact comp_turn (n := m) (K := KQ G F H Q) (tt := TTg G m S js sa tn) (te := TEg G m S js sa fn) hD (e'.trans e2) hF2 hA2 (r'.ex e2.ex) hl' hlt hz A2 q' (fun H Q z => ⟨_, z⟩) (fun H Q z => ⟨_, z⟩)
    · have ei : i = ps.length := by omega
      subst ei
      refine .inl ⟨(wk F' H' ⟨e'.ex, e'.ok⟩ ps.length).2 (by rw [hlen]; exact Nat.le_refl _), ?_⟩
      rw [List.drop_length] at cw
      exact comp_end e1 hD cw
  · exact (show False from q1).elim
/-- [elt for tg in iter if ..] -/
theorem de_lcG (hc : X.calm = true) (hN : X.N.Nodup) (hs : Src X G S tg iter n) (hp : Pat G (own.map (·.2)) dec sa g) (ok : BlkOk X.N X.env.scope scope own)
    (hg : ∀ s H C cl fp, PG (X.blk s H scope (compEnvC scope cl C X.env) fp) tg g)
    (ht : ∀ s H C cl fp (y : P), PTs (X.blk s H scope (compEnvC scope cl C X.env) fp) ifs (tV (G.in m) (sa (wipeS S (own.map (·.2))) y) (tn y)))
    (he : ∀ s H C cl fp (y : P), PE (X.blk s H scope (compEnvC scope cl C X.env) fp) elt (eV (G.in m) (sa (wipeS S (own.map (·.2))) y) (fn y))) :
    PE X (.ListComp elt [⟨tg, iter, ifs, 0⟩] scope pos) (eV G S (N.lcG n dec tn fn)) := by
  obtain ⟨wi, hi, hw⟩ := hs.ex
  exact PE.imp (pe_lc (own := own) (g := g) hc hN hi ok hg (tt := TTg G m S (own.map fun x : Str × Nat => x.2) sa tn) (te := TEg G m S (own.map fun x : Str × Nat => x.2) sa fn) (fun s H C cl fp => PTs.ex fun y : P => ht s H C cl fp y) (fun s H C cl fp => PE.ex fun y : P => he s H C cl fp y) hs.fo) fun σ H Q h => lcG_run (own.map (·.2)) hs hp wi hw h
variable {τ β : Type} {sl : τ → List Sl} {sb : β → List Sl}
/-- y = [elt for tg in iter if ..] -/
theorem ds_lcG {i : Nat} {y : Str} {py pos' : Pos} (hc : X.calm = true) (hN : X.N.Nodup) (hs : Src X G S tg iter n) (hp : Pat G (own.map (·.2)) dec sa g) (hy : X.N[i]? = some y) (hyl : X.env.scope.names.lookup y = some .local) (hkind : X.env.scope.kind = .function) (hl : (py.line == pos'.line) = true)
    (hany : (scope.names.any fun (n, k) => n == y && (k == .local || k == .cell)) = false) (ok : BlkOk X.N X.env.scope scope own)
    (hg : ∀ s H C cl fp, PG (X.blk s H scope (compEnvC scope cl C X.env) fp) tg g)
    (ht : ∀ s H C cl fp (y : P), PTs (X.blk s H scope (compEnvC scope cl C X.env) fp) ifs (tV (G.in m) (sa (wipeS S (own.map (·.2))) y) (tn y)))
    (he : ∀ s H C cl fp (y : P), PE (X.blk s H scope (compEnvC scope cl C X.env) fp) elt (eV (G.in m) (sa (wipeS S (own.map (·.2))) y) (fn y))) :
    PS X (.Assign [.Name y py] (.ListComp elt [⟨tg, iter, ifs, 0⟩] scope pos') pos) (sV G S (fun d => S.set i (.dat d)) sb ((N.lcG n dec tn fn).bind fun d => .ok (.nx d))) := by
  obtain ⟨wi, hi, hw⟩ := hs.ex
  exact PS.imp (ps_setLc (own := own) (g := g) (tt := TTg G m S (own.map fun x : Str × Nat => x.2) sa tn) (te := TEg G m S (own.map fun x : Str × Nat => x.2) sa fn) hc hN hy hyl (sw_true hkind hyl hl hany) hi ok hg (fun s H C cl fp => PTs.ex fun v : P => ht s H C cl fp v) (fun s H C cl fp => PE.ex fun v : P => he s H C cl fp v) hs.fo) fun E σ H ⟨F, A, q⟩ =>
    lcG_run (m := m) (own.map fun x : Str × Nat => x.2) hs hp wi hw (Q := fun v H' => E.nx (σ.set i (some v)) H') ⟨F, A, N.mono (N.lcG n dec tn fn)
      (k := fun d => flP G F (fun d => S.set i (.dat d)) sb E (.nx d)) (fun d z v F' H' e' r' => z F' _ H' e'.ex ((A.go e').set r')) (fun _ _ z => z) q⟩
/-- for tg in iter -/
theorem ds_forG {body : List Stmt} (t0 : τ) (bn : P → τ → N (Fl τ τ)) (po : PassesOwn (model X.prog X.w) X.A X.env X.xe) (hc : X.calm = true) {js : List Nat} (hs : Src X G S tg iter n) (hp : Pat G js dec sa g) (hg : PG X tg g) (h0 : Wk S (sl t0))
    (hb : ∀ (p : P) (t : τ), PSs X body (sV G (sa (sl t) p) sl sl (bn p t))) :
    PS X (.For tg iter body [] pos) (sV G S sl sb (n.bind fun ds => (N.decs dec ds).bind fun ps => N.loop bn ps t0)) := by
  obtain ⟨wi, hi, hw⟩ := hs.ex
  refine PS.imp (ps_for (g := g) (tb := fun E σ H => ∃ p : P × τ, sV G (sa (sl p.2) p.1) sl sl (bn p.1 p.2) E σ H) po hc hi hg (PSs.ex fun p : P × τ => hb p.1 p.2) hs.fo) fun E σ H ⟨F, A, q⟩ => ?_
  refine hw σ H _ ⟨F, A, n.mono (fun ds q1 F1 H1 e1 J wk => ?_) (fun _ _ z => z) q⟩
  have A1 := A.go e1
  replace q1 : (N.decs dec ds).wp (fun ps => (N.loop (β := β) bn ps t0).wp (flP G F sl sb E) G.Er) G.Er := q1
  unfold N.decs at q1
  split at q1
  · rename_i ps hd
    have hlen := decAll_len hd
    refine ⟨fun i m σ' H' => m = ps.length - i ∧ i ≤ ps.length ∧ LW G F1 sl sb E bn (ps.drop i) σ' H', ⟨ps.length, by simp, Nat.zero_le _, ⟨t0, F1, Ex.refl F1, A1.weak h0, (N.loop bn _ t0).mono (fun f z => flP.ex G e1.ex z) (fun _ _ z => z) q1⟩⟩, ?_⟩
    rintro i k σ' H' ⟨rfl, hi, lw⟩
    obtain ⟨t, F', e', A', q'⟩ := id lw
    by_cases hlt : i < ps.length
    · obtain ⟨d, hdi, hdec⟩ := decAll_get hd (List.getElem?_eq_getElem hlt)
      obtain ⟨go, yld⟩ := (wk F' H' ⟨e', A'.ok⟩ i).1 d hdi
      refine .inr ⟨go, LW G F1 sl sb E bn (ps.drop (i + 1)), fun σ2 H2 nx => ⟨_, by omega, rfl, hlt, nx⟩, fun x H2 hy => ?_⟩
      obtain ⟨F2, e2, rx⟩ := yld x H2 hy
      rw [List.drop_eq_getElem_cons hlt] at q'
      exact hp.run _ _ _ _ x d _ _ (A'.go e2) rx hdec fun σ2 hw2 A2 => ⟨(_, t), loop_turn (e'.trans e2.ex) A2 q'⟩
    · have ei : i = ps.length := by omega
      subst ei
      refine .inl ⟨(wk F' H' ⟨e', A'.ok⟩ ps.length).2 (by rw [hlen]; exact Nat.le_refl _), ?_⟩
      rw [List.drop_length] at q'
      exact q' F' σ' H' e' A'
  · exact (show False from q1).elim
end
end M

set_option Elab.async false
set_option linter.all false
set_option maxRecDepth 100000
set_option maxHeartbeats 2000000
namespace M
open PySem L2
/-! ### dict comprehensions, keys tuples of ints and texts -/
def kT (d : D) : N (List Key) := match d with
  | .tup xs => match keysOf xs with
    | some ks => .ok ks
    | none => .stuck
  | _ => .stuck
def N.dcomp {α : Type} (t : α → N Bool) (k f : α → N D) : List α → List (List Key × D) → N (List (List Key × D))
  | [], acc => .ok acc
  | x :: xs, acc => (N.ne (t x)).bind fun b => if b = true then (N.ne (k x)).bind fun d => (N.ne (f x)).bind fun v => (N.ne (kT d)).bind fun ks => N.dcomp t k f xs (dput acc ks v) else N.dcomp t k f xs acc
theorem dput_len {κ : Type} [DecidableEq κ] (kvs : List (κ × D)) (k : κ) (v : D) : (dput kvs k v).length ≤ kvs.length + 1 := by
  unfold dput
  split
  · rw [List.length_map]; exact Nat.le_succ _
  · rw [List.length_append, List.length_singleton]; exact Nat.le_refl _
section
variable {X : Cx} {G : Gx} {S : List Sl} {pos : Pos} {tg iter kx vx : Expr} {ifs : List Expr} {scope : Scope} {own : List (Str × Nat)} {n : N (List D)} {P : Type} {dec : D → Option P} {sa : List Sl → P → List Sl} {g : TG} {tn : P → N Bool} {kn fn : P → N D} {m : Nat}
def CWd (G : Gx) (F1 : Ty) (H1 : Hp) (Dl : Addr) (tn : P → N Bool) (kn fn : P → N D) (K : List (List Key × D) → Prop) (Er : Nat → D → Prop) (i : Nat) (xs : List P) : Hp → Prop := fun H => ∃ F kvs kds, Ext F1 H1 F H ∧ F Dl = none ∧ H Dl = some (.dT kvs) ∧ RpKV G.Z F kvs kds ∧
  kds.length ≤ i ∧ (N.dcomp tn kn fn xs kds).wp K Er
theorem ext_dTp {F1 F : Ty} {H1 H : Hp} {Dl : Addr} {o : HO} (e : Ext F1 H1 F H) (n : H1 Dl = none) (hF : F Dl = none) {kvs : List (List Key × V)} (hA : H Dl = some (.dT kvs)) : Ext F1 H1 F (upd H Dl o) := by
  refine ⟨e.ex, e.ok.put hF hA (fun _ _ z => by unfold LamX.CodeO at z; cases z), fun b u q nb pl => ?_⟩
  · have z : b ≠ Dl := fun z => by subst z; rw [n] at q; cases q
    rw [upd_ne z]; exact e.kp b u q nb pl
theorem ext_dTk {F F2 : Ty} {H H2 : Hp} {Dl : Addr} {kvs : List (List Key × V)} (e : Ext F H F2 H2) (hF : F Dl = none) (hA : H Dl = some (.dT kvs)) : F2 Dl = none ∧ H2 Dl = some (.dT kvs) := by
  obtain ⟨h, n⟩ := e.kp _ _ hA hF (fun _ z => by cases z)
  rcases n with n | ⟨_, xs, z⟩
  · exact ⟨n, h⟩
  · cases z
def N.dcG (n : N (List D)) (dec : D → Option P) (tn : P → N Bool) (kn fn : P → N D) : N D := n.bind fun ds => (N.decs dec ds).bind fun ps => (N.fits ps).bind fun _ => (N.dcomp tn kn fn ps []).bind fun kvs => .ok (.dtt (kvs.map (·.1)) (kvs.map (·.2)))
theorem dcG_run (js : List Nat) (hp : Pat G js dec sa g) (wi : TI) (hw : ∀ (σ : St) (H : Hp) (R : It → Hp → Prop), (∃ F, At G.Z G.B S F σ H ∧ n.wp (fun ds => ∀ F1 H1, Ext F H F1 H1 → ∀ J, WalkD G J ds F1 H1 → R J H1) G.Er) → wi σ H R) {σ : St} {H : Hp} {Q : VK} (h : eV G S (N.dcG n dec tn kn fn) σ H Q) :
    tDx (.dT []) wi g (TTg G m S js sa tn) (TEg G m S js sa kn) (TEg G m S js sa fn) js σ H Q := by
  obtain ⟨F, A, q⟩ := h
  refine hw σ H _ ⟨F, A, n.mono (fun ds q1 F1 H1 e1 J wk => ?_) (fun _ _ z => z) q⟩
  have A1 := A.go e1
  let K : List (List Key × D) → Prop := fun kvs => ∀ v F' H', Ext F H F' H' → Rp G.Z F' v (.dtt (kvs.map (·.1)) (kvs.map (·.2))) → Q v H'
  replace q1 : (N.decs dec ds).wp (fun ps => ((N.fits ps).bind fun _ => N.dcomp tn kn fn ps []).wp K G.Er) G.Er := q1
  unfold N.decs at q1
  split at q1
  · rename_i ps hd
    obtain ⟨hz, q1⟩ := q1
    have hlen := decAll_len hd
    intro Dl hD
    refine ⟨fun i m H' => m = ps.length - i ∧ i ≤ ps.length ∧ CWd G F1 H1 Dl tn kn fn K G.Er i (ps.drop i) H', ⟨ps.length, by simp, Nat.zero_le _, F1, [], [], Ext.own A1.ok hD, A1.ok.none hD, upd_same, rpkv_nil, Nat.zero_le _, q1⟩, ?_⟩
    rintro i k H' ⟨rfl, hi, cw⟩
    obtain ⟨F', kvs, kds, e', hF', hA', r', hl', q'⟩ := id cw
    by_cases hlt : i < ps.length
    · obtain ⟨d, hdi, hdec⟩ := decAll_get hd (List.getElem?_eq_getElem hlt)
      obtain ⟨go, yld⟩ := (wk F' H' ⟨e'.ex, e'.ok⟩ i).1 d hdi
      refine .inr ⟨go, CWd G F1 H1 Dl tn kn fn K G.Er (i + 1) (ps.drop (i + 1)), fun H2 nx => ⟨_, by omega, rfl, hlt, nx⟩, fun x H2 hy => ?_⟩
      obtain ⟨F2, e2, rx⟩ := yld x H2 hy
      obtain ⟨hF2, hA2⟩ := ext_dTk e2 hF' hA'
      rw [List.drop_eq_getElem_cons hlt] at q'
      refine hp.run _ _ _ _ x d _ _ (((A1.go e').go e2).wipe js) rx hdec fun σ2 hw2 A2 => ⟨hw2.trans (hp.ind σ), ?_⟩
      refine ⟨_, F2, A2, (tn _).mono (fun b q2 F3 H3 e3 => ?_) (fun _ _ z => z.elim) q'⟩
      obtain ⟨hF3, hA3⟩ := ext_dTk e3 hF2 hA2
      cases b with
      | false => exact ⟨F3, kvs, kds, (e'.trans e2).trans e3, hF3, hA3, rpkv_ex (e2.ex.trans e3.ex) r', by omega, q2⟩
      | true =>
        refine ⟨_, F3, A2.go e3, (kn _).mono (fun dk q3 y F4 H4 e4 r4 => ?_) (fun _ _ z => z.elim) q2⟩
        obtain ⟨hF4, hA4⟩ := ext_dTk e4 hF3 hA3
        refine ⟨_, F4, (A2.go e3).go e4, (fn _).mono (fun dv q4 z F5 H5 e5 r5 => ?_) (fun _ _ z => z.elim) q3⟩
        obtain ⟨hF5, hA5⟩ := ext_dTk e5 hF4 hA4
        replace q4 : (kT dk).wp (fun ks => (N.dcomp tn kn fn (ps.drop (i + 1)) (dput kds ks dv)).wp K G.Er) (fun _ _ => False) := q4
        unfold kT at q4
        split at q4
        · rename_i xs
          split at q4
          · rename_i ks hks
            cases r4 with
            | tup rt lt =>
              rename_i b us
              have hb : H5 b = some (.tup (ks.map kV)) := by
                rw [← keysOf_rp lt hks]
                exact tup_of e5.ok (e5.ex _ _ rt)
              refine ⟨_, DPut.t hA5 hb (by rw [rpkv_len r']; omega), F5, _, dput kds ks dv, ext_dTp (((e'.trans e2).trans (e3.trans e4)).trans e5) hD hF5 hA5, hF5, upd_same, rpkv_put ks r5 (rpkv_ex (((e2.ex.trans e3.ex).trans e4.ex).trans e5.ex) r'), Nat.le_trans (dput_len _ _ _) (by omega), q4⟩
          · exact q4.elim
        · exact q4.elim
    · have ei : i = ps.length := by omega
      subst ei
      refine .inl ⟨(wk F' H' ⟨e'.ex, e'.ok⟩ ps.length).2 (by rw [hlen]; exact Nat.le_refl _), ?_⟩
      rw [List.drop_length] at q'
      have z := zip_eq r'.1
      have e2 : Ext F1 H1 (updT F' Dl (is (.dT kvs))) H' := by
        refine ⟨e'.ex.trans (ex_upd hF'), e'.ok.learn hF' hA' ⟨fun _ z => (by cases z), fun _ _ z => (by unfold LamX.CodeO at z; cases z)⟩, fun b u w nb pl => ?_⟩
        have hb : b ≠ Dl := fun y => by subst y; rw [hD] at w; cases w
        rw [updT_ne hb]; exact e'.kp b u w nb pl
      refine q' (.ref Dl) _ H' (e1.trans e2) (.dtt (xs := kvs.map (·.2)) (by rw [updT_same, ← z]) ?_ (r'.2.ex (ex_upd hF')))
      have := congrArg List.length r'.1
      simpa using this
  · exact (show False from q1).elim
/-- {k: v for tg in iter if ..} -/
theorem de_dcG {k : Nat} (hr : Room k X.A) (hc : X.calm = true) (hN : X.N.Nodup) (hs : Src X G S tg iter n) (hp : Pat G (own.map fun x : Str × Nat => x.2) dec sa g) (ok : BlkOk X.N X.env.scope scope own)
    (hg : ∀ s H C cl fp, PG (X.blk s H scope (compEnvC scope cl C X.env) fp) tg g)
    (ht : ∀ s H C cl fp (y : P), PTs (X.blk s H scope (compEnvC scope cl C X.env) fp) ifs (tV (G.in m) (sa (wipeS S (own.map fun x : Str × Nat => x.2)) y) (tn y)))
    (hk : ∀ s H C cl fp (y : P), PE (X.blk s H scope (compEnvC scope cl C X.env) fp) kx (eV (G.in m) (sa (wipeS S (own.map fun x : Str × Nat => x.2)) y) (kn y)))
    (he : ∀ s H C cl fp (y : P), PE (X.blk s H scope (compEnvC scope cl C X.env) fp) vx (eV (G.in m) (sa (wipeS S (own.map fun x : Str × Nat => x.2)) y) (fn y))) :
    PE X (.DictComp kx vx [⟨tg, iter, ifs, 0⟩] scope pos) (eV G S (N.dcG n dec tn kn fn)) := by
  obtain ⟨wi, hi, hw⟩ := hs.ex
  exact PE.imp (pe_dx (o0 := .dT []) (own := own) (g := g) (.inr rfl) (by have := hr.un; omega) hc hN hi ok hg (tt := TTg G m S (own.map fun x : Str × Nat => x.2) sa tn) (tk := TEg G m S (own.map fun x : Str × Nat => x.2) sa kn) (tv := TEg G m S (own.map fun x : Str × Nat => x.2) sa fn) (fun s H C cl fp => PTs.ex fun y : P => ht s H C cl fp y) (fun s H C cl fp => PE.ex fun y : P => hk s H C cl fp y) (fun s H C cl fp => PE.ex fun y : P => he s H C cl fp y) hs.fo) fun σ H Q h => dcG_run (own.map fun x : Str × Nat => x.2) hp wi hw h
end
end M

set_option Elab.async false
set_option linter.all false
set_option maxRecDepth 100000
set_option maxHeartbeats 2000000
namespace M
open PySem L2
/-! ### dicts as data -/
def memB {κ : Type} [DecidableEq κ] (ks : List κ) (k : κ) : Bool := ks.any fun x => decide (x = k)
theorem val_zip {κ : Type} [DecidableEq κ] {ks : List κ} {vs : List V} (k : κ) (h : vs.length = ks.length) : (valV (ks.zip vs) k).isSome = memB ks k := by
  induction ks generalizing vs with
  | nil => cases vs <;> simp [valV, memB]
  | cons k0 ks ih =>
    cases vs with
    | nil => simp at h
    | cons v vs =>
      simp only [List.length_cons, Nat.add_right_cancel_iff] at h
      by_cases e : k0 = k
      · subst e
        rw [List.zip_cons_cons, valV_pos rfl]
        simp [memB]
      · rw [List.zip_cons_cons, valV_neg e, ih h]
        simp [memB, e]
def dinB (neg : Bool) (x y : D) : N D := match y with
  | .dtt ks _ => (kT x).bind fun k => .ok (.bl (neg != memB ks k))
  | .dkk ks _ => match keyOf x with
    | some k => .ok (.bl (neg != memB ks k))
    | none => .stuck
  | _ => .stuck
theorem kT_tot (x : D) : Tot (kT x) := by
  unfold kT
  split
  · split
    · exact Tot.ok _
    · exact Tot.stuck
  · exact Tot.stuck
theorem dinB_tot (neg) (x y : D) : Tot (dinB neg x y) := by
  unfold dinB
  split
  · exact (kT_tot _).bind fun _ => Tot.ok _
  · split
    · exact Tot.ok _
    · exact Tot.stuck
  · exact Tot.stuck
def rDin (neg : Bool) : R2 := fun x y H Q => ∃ a o, y = .ref a ∧ DGet H a x o ∧ Q (.bl (neg != o.isSome)) H
section
variable {X : Cx} {G : Gx} {S : List Sl} {a b : Expr} {na nb : N D} {pos : Pos}
theorem op_din (hu : X.A.units + 1 < cLine) : OpR X (compareOp .In) (rDin false) := fun pins s σ H x y v u Q I rx ry ⟨a, o, e, g, q⟩ => by
  subst e
  cases (show u = Value.ref a from ry)
  refine d_in hu I g rx fun s' I' => ⟨.bl _, H, I', rfl, ?_⟩
  simpa using q
theorem op_dnin (hu : X.A.units + 1 < cLine) : OpR X (compareOp .NotIn) (rDin true) := fun pins s σ H x y v u Q I rx ry ⟨a, o, e, g, q⟩ => by
  subst e
  cases (show u = Value.ref a from ry)
  refine d_notIn hu I g rx fun s' I' => ⟨.bl _, H, I', rfl, ?_⟩
  simpa using q
theorem keyOf_rp {Z : Zt} {F : Ty} {v : V} {x : D} {k : Key} (r : Rp Z F v x) (h : keyOf x = some k) : v = kV k := by
  cases r <;> first | (simp [keyOf] at h; done) | (simp [keyOf] at h; subst h; rfl)
theorem kT_rp {Z : Zt} {F : Ty} {H : Hp} {v : V} {x : D} {P : List Key → Prop} (ok : Okk F H) (r : Rp Z F v x) (h : (kT x).wp P (fun _ _ => False)) : ∃ b k, v = .ref b ∧ H b = some (.tup (k.map kV)) ∧ P k := by
  unfold kT at h
  split at h
  · rename_i xs
    split at h
    · rename_i ks hks
      cases r with
      | tup rt lt => exact ⟨_, ks, rfl, by rw [← keysOf_rp lt hks]; exact tup_of ok rt, h⟩
    · exact h.elim
  · exact h.elim
theorem r2_din (neg : Bool) : R2D G (rDin neg) (dinB neg) := by
  intro F H x y v u Q ok rx ry q
  unfold dinB at q
  split at q
  · rename_i ks vs
    cases ry with
    | dtt r n l =>
      rename_i a us
      obtain ⟨b, k, rfl, hb, q1⟩ := kT_rp ok rx q
      refine ⟨a, _, rfl, DGet.t (tup_of ok r) hb, ?_⟩
      rw [val_zip k n]
      exact q1 _ F H (Ext.refl ok) (.bl _)
  · rename_i ks vs
    cases ry with
    | dkk r n l =>
      rename_i a us
      split at q
      · rename_i k hk
        rw [keyOf_rp rx hk]
        refine ⟨a, _, rfl, DGet.k (tup_of ok r), ?_⟩
        rw [val_zip k n]
        exact q _ F H (Ext.refl ok) (.bl _)
      · exact q.elim
  · exact q.elim
theorem un1 {k : Nat} {A : Around} (h : Room k A) : A.units + 1 < cLine := by have := h.un; omega
/-! ### lists put together, repeated -/
def dCatL : D → D → N D
  | .lst xs, .lst ys => (N.asrt (xs.length + ys.length ≤ sizeLine)).bind fun _ => .ok (.lst (xs ++ ys))
  | _, _ => .stuck
def dRepL : D → D → N D
  | .lst xs, .int k => (N.asrt (-(2 ^ 63) ≤ k ∧ k < 2 ^ 63 ∧ xs.length * k.toNat ≤ sizeLine)).bind fun _ => .ok (.lst (List.replicate k.toNat xs).flatten)
  | .tup xs, .int k => (N.asrt (xs ≠ [] ∧ 2 ≤ k ∧ k ≤ 1000 ∧ xs.length ≤ 1000)).bind fun _ => .ok (.tup (List.replicate k.toNat xs).flatten)
  | _, _ => .stuck
theorem dCatL_tot (x y : D) : Tot (dCatL x y) := by
  unfold dCatL
  split
  · exact (Tot.asrt _).bind fun _ => Tot.ok _
  · exact Tot.stuck
theorem dRepL_tot (x y : D) : Tot (dRepL x y) := by
  unfold dRepL
  split
  · exact (Tot.asrt _).bind fun _ => Tot.ok _
  · exact (Tot.asrt _).bind fun _ => Tot.ok _
  · exact Tot.stuck
/-- two lists, locked or not -/
def rCatS (K : PySem.W.Frag) : R2 := fun x y H Q => ∃ l b xs zs, x = .ref l ∧ y = .ref b ∧ SqL K H l xs ∧ SqL K H b zs ∧ xs.length + zs.length ≤ sizeLine ∧ ∀ p, H p = none → Q (.ref p) (upd H p (.lst (xs ++ zs)))
theorem op_catS : OpR X (binaryOp .Add) (rCatS X.K) := by
  intro pins s σ H x y v u Q I rx ry ⟨l, b, xs, zs, e1, e2, h1, h2, hz, q⟩
  subst e1 e2
  cases (show v = Value.ref l from rx)
  cases (show u = Value.ref b from ry)
  obtain ⟨i1, r1, ⟨o1, n1, g1, c1, dn1, d1⟩, l1⟩ := I.list h1
  obtain ⟨i2, r2, ⟨o2, n2, g2, c2, dn2, d2⟩, l2⟩ := I.list h2
  obtain ⟨k1, dd1, da1, sl1⟩ := o1
  obtain ⟨k2, dd2, da2, sl2⟩ := o2
  simp only at c1 dn1 d1 c2 dn2 d2
  subst c1 dn1 d1 c2 dn2 d2
  have hs : i1.toArray.size + i2.toArray.size ≤ sizeLine := by rw [List.size_toArray, List.size_toArray, ← r1.length, ← r2.length]; exact hz
  have ea : i1.toArray ++ i2.toArray = (i1 ++ i2).toArray := by simp
  refine PySem.concat_meets ⟨_, g1, rfl⟩ ⟨_, g2, rfl⟩ PySem.noFill_list_add PySem.seq_list_add PySem.F.slot_list_add PySem.F.entry_list_add (PySem.F.args_list_add_2 _ _) (PyProof.Rows.list_addW l b i1.toArray i2.toArray n1 n2 none none sl1 sl2 hs) ⟨g1, g2, ?_⟩
  rw [ea]
  exact ⟨.ref _, _, I.lnew (t' := s.toks) (r1.append r2) (by rw [List.length_append]; exact hz), rfl, q _ I.fresh⟩
theorem r2_catL : R2D G (rCatS G.Z.K) dCatL := by
  intro F H x y v u Q ok rx ry q
  unfold dCatL at q
  split at q
  · obtain ⟨hz, q⟩ := q
    cases rx with
    | lst r l =>
      cases ry with
      | lst r' l' =>
        refine ⟨_, _, _, _, rfl, rfl, RL.sq ok r, RL.sq ok r', by rw [l.length, l'.length]; exact hz, fun p hp => ?_⟩
        obtain ⟨e2, r2⟩ := new_lst ok hp (l.append l')
        exact q _ _ _ e2 r2
  · exact q.elim
theorem de_catL (hK : G.Z.K = X.K) (ha : PE X a (eV G S na)) (hb : PE X b (eV G S nb)) : PE X (.BinOp a .Add b pos) (eV G S (na.bind fun x => nb.bind fun y => dCatL x y)) := de_op op_catS (by rw [← hK]; exact r2_catL) dCatL_tot ha hb
theorem de_din {k : Nat} (hr : Room k X.A) (ha : PE X a (eV G S na)) (hb : PE X b (eV G S nb)) (hm : behindInMarks .In b = false := by rfl) : PE X (.Compare a [.In] [b] pos) (eV G S (na.bind fun x => nb.bind fun y => dinB false x y)) := de_cmp (op_din (un1 hr)) (r2_din false) (dinB_tot false) ha hb hm
theorem de_dnin {k : Nat} (hr : Room k X.A) (ha : PE X a (eV G S na)) (hb : PE X b (eV G S nb)) (hm : behindInMarks .NotIn b = false := by rfl) : PE X (.Compare a [.NotIn] [b] pos) (eV G S (na.bind fun x => nb.bind fun y => dinB true x y)) := de_cmp (op_dnin (un1 hr)) (r2_din true) (dinB_tot true) ha hb hm
/-- [..] * n -/
theorem de_repL {es : List Expr} {p : Pos} {nl : N (List D)} (h : PA X es (aV G S nl)) (hb : PE X b (eV G S nb)) : PE X (.BinOp (.List es p) .Mult b pos) (eV G S (nl.bind fun xs => (N.le1 xs).bind fun _ => nb.bind fun k => dRepL (.lst xs) k)) :=
  PE.imp (pe_op op_rep (pe_lst h) hb) fun σ H Q ⟨F, A, q⟩ => ⟨F, A, nl.mono (fun xs q1 vs F1 H1 e1 r1 => by
    obtain ⟨hl, q2⟩ := q1
    refine ⟨by rw [r1.length]; exact hl, fun p hp => ?_⟩
    have e2 : Ext F1 H1 (updT F1 p (is (.lst vs))) (upd H1 p (.lst vs)) := Ext.new (A.go e1).ok hp rfl
    refine ⟨_, (A.go e1).go e2, nb.mono (fun k q3 u F3 H3 e3 r3 => ?_) (fun _ _ z => z) q2⟩
    have hH : H3 p = some (.lst vs) := tup_of e3.ok (e3.ex _ _ updT_same)
    unfold dRepL at q3
    cases k with
    | int i =>
      obtain ⟨⟨b1, b2, b3⟩, q3⟩ := q3
      rw [rp_int r3]
      refine ⟨p, i, vs, rfl, rfl, hH, b1, b2, by rw [r1.length]; exact b3, fun p2 hp2 => ?_⟩
      have rr : ∀ m : Nat, RpL G.Z F3 (List.replicate m vs).flatten (List.replicate m xs).flatten := fun m => by
        induction m with
        | zero => exact .nil
        | succ m ih =>
          rw [List.replicate_succ, List.replicate_succ, List.flatten_cons, List.flatten_cons]
          exact (r1.ex (e2.ex.trans e3.ex)).append ih
      obtain ⟨e4, r4⟩ := new_lst e3.ok hp2 (rr i.toNat)
      exact q3 _ _ _ (((e1.trans e2).trans e3).trans e4) r4
    | _ => exact (show False from q3).elim) (fun _ _ z => z) q⟩
def dRepT : D → D → N D
  | .tup xs, .int k => (N.asrt (xs ≠ [] ∧ 2 ≤ k ∧ k ≤ 1000 ∧ xs.length ≤ 1000)).bind fun _ => .ok (.tup (List.replicate k.toNat xs).flatten)
  | _, _ => .stuck
theorem dRepT_tot (x y : D) : Tot (dRepT x y) := by
  unfold dRepT
  split
  · exact (Tot.asrt _).bind fun _ => Tot.ok _
  · exact Tot.stuck
theorem rp_rep {F : Ty} {vs : List V} {xs : List D} (r : RpL G.Z F vs xs) (m : Nat) : RpL G.Z F (List.replicate m vs).flatten (List.replicate m xs).flatten := by
  induction m with
  | zero => exact .nil
  | succ m ih =>
    rw [List.replicate_succ, List.replicate_succ, List.flatten_cons, List.flatten_cons]
    exact r.append ih
theorem r2_repT : R2D G (rRepT G.Z.K) dRepT := by
  intro F H x y v u Q ok rx ry q
  unfold dRepT at q
  split at q
  · rename_i xs k
    obtain ⟨⟨b1, b2, b3, b4⟩, q⟩ := q
    rw [rp_int ry]
    cases rx with
    | tup r l =>
      rename_i a vs
      refine ⟨_, _, vs, rfl, rfl, sqT_of ok r, fun z => b1 (by subst z; cases l; rfl), b2, b3, by rw [l.length]; exact b4, fun p hp => ?_⟩
      have e2 : Ext F H (updT F p (is (.tup (List.replicate k.toNat vs).flatten))) (upd H p (.tup (List.replicate k.toNat vs).flatten)) := Ext.new ok hp rfl
      exact q _ _ _ e2 (.tup updT_same ((rp_rep l _).ex e2.ex))
  · exact q.elim
/-- (..) * n -/
theorem de_repT (hK : G.Z.K = X.K) (ha : PE X a (eV G S na)) (hb : PE X b (eV G S nb)) : PE X (.BinOp a .Mult b pos) (eV G S (na.bind fun x => nb.bind fun y => dRepT x y)) := de_op op_repT (by rw [← hK]; exact r2_repT) dRepT_tot ha hb
/-- e[::-1] -/
def dRevL : D → N D
  | .lst xs => .ok (.lst xs.reverse)
  | _ => .stuck
theorem de_revL (hK : G.Z.K = X.K) {k : Nat} {p1 p2 p3 : Pos} (ha : PE X a (eV G S na)) : PE X (.Subscript a (.Slice none none (some (.UnaryOp .USub (.Constant (.int 1) k p1) p2)) p3) pos) (eV G S (na.bind dRevL)) :=
  PE.imp (pe_revL ha) fun σ H Q ⟨F, A, q⟩ => ⟨F, A, na.mono (fun d q1 v F1 H1 e1 r1 => by
    cases r1 with
    | lst r l =>
      refine ⟨_, _, rfl, by rw [← hK]; exact RL.sq (A.go e1).ok r, fun p hp => ?_⟩
      obtain ⟨e2, r2⟩ := new_lst (A.go e1).ok hp l.reverse
      exact q1 _ _ _ (e1.trans e2) r2
    | _ => exact (show False from q1).elim) (fun _ _ z => z) q⟩
/-! sorted: pairs of ints -/
def pD (p : Int × Int) : D := .tup [.int p.1, .int p.2]
def pairsD : List D → Option (List (Int × Int))
  | [] => some []
  | .tup [.int a, .int b] :: xs => (pairsD xs).map fun ps => (a, b) :: ps
  | _ => none
def lexLe (p q : Int × Int) : Prop := p.1 < q.1 ∨ (p.1 = q.1 ∧ p.2 ≤ q.2)
def dSortP : D → N D
  | .lst xs => match pairsD xs with
    | some ps => (N.any fun qs : List (Int × Int) => qs.Perm ps ∧ qs.Pairwise lexLe).bind fun qs => .ok (.lst (qs.map pD))
    | none => .stuck
  | _ => .stuck
theorem dSortP_tot (x : D) : Tot (dSortP x) := by
  unfold dSortP
  split
  · split
    · exact (Tot.any _).bind fun _ => Tot.ok _
    · exact Tot.stuck
  · exact Tot.stuck
/-- the pair of ints at v -/
def kP (H : Hp) (v : V) : Int × Int := match v with
  | .ref t => match H t with
    | some (.tup [.int i, .int j]) => (i, j)
    | _ => (0, 0)
  | _ => (0, 0)
theorem pairs_rp {Z : Zt} {F : Ty} {H : Hp} (ok : Okk F H) : ∀ {vs : List V} {xs : List D} {ps : List (Int × Int)}, RpL Z F vs xs → pairsD xs = some ps → vs.map (kP H) = ps ∧ ∀ v ∈ vs, Rp Z F v (pD (kP H v)) ∧ ∃ t, v = .ref t ∧ H t = some (.tup [.int (kP H v).1, .int (kP H v).2])
  | _, _, ps, .nil, h => by unfold pairsD at h; cases h; exact ⟨rfl, fun v z => by cases z⟩
  | _, _, ps, .cons (v := v) (d := d) (ds := ds) r l, h => by
    unfold pairsD at h
    split at h
    · rename_i heq; cases heq
    · rename_i a b xs heq
      injection heq with e1 e2
      subst e1 e2
      obtain ⟨qs, h1, rfl⟩ := Option.map_eq_some_iff.mp h
      obtain ⟨e3, h3⟩ := pairs_rp ok l h1
      cases r with
      | tup rt lt =>
        rename_i t us
        cases lt with
        | cons ra lt =>
          cases lt with
          | cons rb lt =>
            cases lt
            rw [rp_int ra, rp_int rb] at rt
            have hH := tup_of ok rt
            have hk : kP H (.ref t) = (a, b) := by unfold kP; simp only [hH]
            refine ⟨by rw [List.map_cons, hk, e3], fun w hw => ?_⟩
            rcases List.mem_cons.mp hw with z | z
            · subst z
              rw [hk]
              exact ⟨.tup rt (.cons (.int a) (.cons (.int b) .nil)), t, rfl, hH⟩
            · exact h3 w z
    · cases h
theorem rpl_of {Z : Zt} {F : Ty} {H : Hp} : ∀ {ys : List V}, (∀ v ∈ ys, Rp Z F v (pD (kP H v))) → RpL Z F ys ((ys.map (kP H)).map pD)
  | [], _ => .nil
  | y :: ys, h => .cons (h y List.mem_cons_self) (rpl_of fun v hv => h v (List.mem_cons_of_mem _ hv))
theorem de_sortP {p : Pos} (hK : G.Z.K = X.K) (hm : X.mg "sorted" = none) (ha : PE X a (eV G S na)) (hg : Gl X "sorted" := by rfl) (he : starEach (a :: []) X.env = (false, eval a X.env) :: starEach [] X.env := by rfl) (hpl : (backTo pos (starEach [] X.env)).any (·.1) = false := by rfl) :
    PE X (.Call (.Name "sorted" p) [a] [] pos) (eV G S (na.bind dSortP)) := de_b1 cr_sortedPO (fun F H xs vs Q ok l q => by
  obtain ⟨v, d, rfl, rfl, r, q⟩ := one_of l q
  unfold dSortP at q
  split at q
  · split at q
    · rename_i ps hb
      cases r with
      | @lst a us _ r l =>
        obtain ⟨e3, h3⟩ := pairs_rp ok l hb
        refine ⟨_, us, kP H, rfl, by rw [← hK]; exact RL.sq ok r, fun x hx => (h3 x hx).2, fun ys p h1 h2 hp => ?_⟩
        have hq : ∀ v F' H', Ext F H F' H' → Rp G.Z F' v (.lst ((ys.map (kP H)).map pD)) → Q v H' := q (ys.map (kP H)) ⟨by rw [← e3]; exact h2.perm.map _, by
          rw [List.pairwise_map]
          refine h1.imp fun {x y} z => ?_
          have := SrtO.lexB_no.mp z
          unfold lexLe
          omega⟩
        obtain ⟨e4, r4⟩ := new_lst ok hp (rpl_of (Z := G.Z) (F := F) (H := H) (ys := ys) fun v hv => (h3 v (h2.perm.subset hv)).1)
        exact hq _ _ _ e4 r4
    · exact (show False from q).elim
  · exact (show False from q).elim) dSortP_tot hm (by decide +kernel) ha hg (by decide) (by decide) he hpl
end
end M

set_option Elab.async false
set_option linter.all false
set_option maxRecDepth 100000
set_option maxHeartbeats 2000000
namespace ZN
open PySem PySem.Spec PyProof.Rows L2
/-! ### zip, its items kept whole: the tuple given out first may live on or not -/
abbrev ZipAt (h : Heap) (z TI TO : Addr) (f0 f1 : Value) : Prop := h.get? z = some { cls := .type "zip", dict := none, data := .fields #[f0, f1, .bool false, .ref TI, .ref TO], slots := #[] }
section
variable {prog : Program} {w : World} {A : Around} {E : Value → Shared → Prop} {s : Shared} {z TI TO i1 i2 l1 l2 : Addr} {k1 k2 : Nat} {xs ys : Array Value} {x y a b f0 f1 : Value}
/-- the tuple is free: none was given out, or it is gone -/
def Fre (prog : Program) (w : World) (z : Addr) (s : Shared) : Prop := ∀ (A : Around) (E : Value → Shared → Prop) (Q : Bool → Shared → Prop), Q true s → wpAny (model prog w) A (Builtin.SmallTypes.ownedTupleIsFree (.ref z)) Q E s
theorem fre_none (hz : ZipAt s.heap z TI TO .none f1) : Fre prog w z s := fun A E Q q => by
  unfold Builtin.SmallTypes.ownedTupleIsFree
  exact wpAny_bind (wpAny_field hz rfl (x := .none) rfl (wpAny_pure q))
theorem alive_is {T : Addr} {Q : Option Obj → Shared → Prop} (h : Q (s.heap.get? T) s) : wpAny (model prog w) A (loadIfAlive T) Q E s := fun _ _ _ => h
theorem fre_gone {T : Addr} (hz : ZipAt s.heap z TI TO (rawInt T) f1) (hT : s.heap.get? T = none) : Fre prog w z s := fun A E Q q => by
  unfold Builtin.SmallTypes.ownedTupleIsFree
  refine wpAny_bind (wpAny_field hz rfl (x := rawInt T) rfl ?_)
  show wpAny (model prog w) A (loadIfAlive ((T : Int).toNat) >>= _) Q E s
  rw [Int.toNat_natCast]
  refine wpAny_bind (alive_is ?_)
  rw [hT]
  exact wpAny_pure q
/-- the next pair, the own tuple free -/
theorem zn_item {Q : Value → Shared → Prop} (D : ZipApart z TI TO i1 i2 l1 l2) (hz : ZipAt s.heap z TI TO f0 f1) (fre : Fre prog w z s) (hTI : IsPair s.heap TI (.ref i1) (.ref i2)) (hTO : IsPair s.heap TO a b)
    (j1 : s.heap.IsListIter i1 l1 k1) (j2 : s.heap.IsListIter i2 l2 k2) (m1 : s.heap.IsList l1 xs) (m2 : s.heap.IsList l2 ys) (hx : xs[k1]? = some x) (hy : ys[k2]? = some y)
    (fin : ∀ g, ZipAt g z TI TO (rawInt s.heap.objs.size) (.bool false) → IsPair g TO x y → g.IsListIter i1 l1 (k1 + 1) → g.IsListIter i2 l2 (k2 + 1) → IsPair g s.heap.objs.size x y → g.objs.size = s.heap.objs.size + 1 →
      (∀ c o, c ≠ z → c ≠ TO → c ≠ i1 → c ≠ i2 → s.heap.get? c = some o → g.get? c = some o) → Q (.ref s.heap.objs.size) { s with heap := g }) :
    wpAny (model prog w) A (Builtin.«zip.__next__» ⟨[.ref z], []⟩) (fun r t => ∃ v, r = .done (.ret v) ∧ Q v t) E s := by
  show wpAny (model prog w) A (field (.ref z) 2 >>= _) _ E s
  refine wpAny_bind (wpAny_field (i := 2) hz rfl (x := .bool false) rfl ?_)
  show wpAny (model prog w) A (field (.ref z) 3 >>= _) _ E s
  refine wpAny_bind (wpAny_field (i := 3) hz rfl (x := .ref TI) rfl (wpAny_bind (wpAny_seqItems hTI rfl ?_)))
  show wpAny (model prog w) A (Builtin.SmallTypes.ownedTupleIsFree (.ref z) >>= _) _ E s
  refine wpAny_bind (fre A E _ ?_)
  simp only [if_true]
  refine wpAny_bind (wpAny_rule (wpAny_bind (wpAny_field (i := 4) hz rfl (x := .ref TO) rfl (wpAny_bind (wpAny_setField_rec hz (by simp) fun g1 e1 c1 => ?_)))))
  replace e1 : ZipAt g1 z TI TO .ellipsis f1 := e1
  refine wpAny_bind ?_
  simp only [List.zipIdx_cons, List.zipIdx_nil, List.forIn_cons, List.forIn_nil]
  -- the first
  refine wpAny_bind (wpAny_bind (wpAny_onRaise ?_))
  show wpAny (model prog w) A (Builtin.SmallTypes.nextOf (.ref i1) >>= _) _ _ _
  refine wpAny_bind (wpAny_nextOf_list_item (j1.extBut c1.extBut D.i1z) (m1.extBut c1.extBut D.l1z) hx fun g2 n2 c2 => wpAny_pure ?_)
  have p2 : IsPair g2 TO a b := c2.extBut _ _ D.TOi1 (c1.extBut _ _ D.TOz hTO)
  refine wpAny_bind (wpAny_seqItems p2 rfl (wpAny_bind (wpAny_updateSeq_pair p2 fun g3 p3 c3 => wpAny_bind (wpAny_letGo (wpAny_pure ?_)))))
  replace p3 : IsPair g3 TO x b := p3
  -- the second
  refine wpAny_bind (wpAny_bind (wpAny_onRaise ?_))
  show wpAny (model prog w) A (Builtin.SmallTypes.nextOf (.ref i2) >>= _) _ _ _
  have q2 : g3.IsListIter i2 l2 k2 := ((j2.extBut c1.extBut D.i2z).extBut c2.extBut D.i12.symm).extBut c3.extBut D.TOi2.symm
  have q3 : g3.IsList l2 ys := ((m2.extBut c1.extBut D.l2z).extBut c2.extBut D.l2i1).extBut c3.extBut D.l2TO
  refine wpAny_bind (wpAny_nextOf_list_item q2 q3 hy fun g4 n4 c4 => wpAny_pure ?_)
  have p4 : IsPair g4 TO x b := c4.extBut _ _ D.TOi2 p3
  refine wpAny_bind (wpAny_seqItems p4 rfl (wpAny_bind (wpAny_updateSeq_pair p4 fun g5 p5 c5 => wpAny_bind (wpAny_letGo (wpAny_pure (wpAny_pure ?_))))))
  replace p5 : IsPair g5 TO x y := p5
  -- the new tuple, given out
  refine wpAny_bind (wpAny_seqItems p5 rfl (wpAny_bind (wpAny_newTuple ?_)))
  have size5 : g5.objs.size = s.heap.objs.size := by rw [c5.1, c4.1, c3.1, c2.1, c1.1]
  have z5 : ZipAt g5 z TI TO .ellipsis f1 := c5.extBut _ _ D.TOz.symm (c4.extBut _ _ D.i2z.symm (c3.extBut _ _ D.TOz.symm (c2.extBut _ _ D.i1z.symm e1)))
  have keep5 : ∀ c o, c ≠ z → c ≠ TO → c ≠ i1 → c ≠ i2 → s.heap.get? c = some o → g5.get? c = some o := fun c o ne1 ne2 ne3 ne4 e => c5.extBut _ _ ne2 (c4.extBut _ _ ne4 (c3.extBut _ _ ne2 (c2.extBut _ _ ne3 (c1.extBut _ _ ne1 e))))
  have iter1 : g5.IsListIter i1 l1 (k1 + 1) := ((n2.extBut c3.extBut D.TOi1.symm).extBut c4.extBut D.i12).extBut c5.extBut D.TOi1.symm
  have iter2 : g5.IsListIter i2 l2 (k2 + 1) := n4.extBut c5.extBut D.TOi2.symm
  have zlt : z < g5.objs.size := Heap.lt_size z5
  show wpAny (model prog w) A (Builtin.SmallTypes.ownedTupleHandOut (.ref z) (.ref g5.objs.size) >>= _) _ _ _
  refine wpAny_bind ?_
  unfold Builtin.SmallTypes.ownedTupleHandOut
  have z6 : ZipAt (g5.push { cls := .type "tuple", data := .seq #[x, y] }) z TI TO .ellipsis f1 := Heap.get?_push_of_some _ z5
  refine wpAny_bind (wpAny_setField_rec z6 (by simp) fun g7 z7 c7 => ?_)
  replace z7 : ZipAt g7 z TI TO (rawInt g5.objs.size) f1 := z7
  refine wpAny_setField_rec z7 (by simp) fun g8 z8 c8 => ?_
  replace z8 : ZipAt g8 z TI TO (rawInt g5.objs.size) (.bool false) := z8
  have lift : ∀ c o, c ≠ z → g5.get? c = some o → g8.get? c = some o := fun c o ne e => c8.extBut _ _ ne (c7.extBut _ _ ne (Heap.get?_push_of_some _ e))
  have pair8 : IsPair g8 g5.objs.size x y := c8.extBut _ _ (Nat.ne_of_gt zlt) (c7.extBut _ _ (Nat.ne_of_gt zlt) (Heap.get?_push_size _ rfl))
  have size8 : g8.objs.size = g5.objs.size + 1 := by rw [c8.1, c7.1, Heap.size_push]
  rw [size5] at z8 pair8 size8
  refine wpAny_pure ⟨_, rfl, ?_⟩
  show Q (.ref g5.objs.size) _
  rw [size5]
  exact fin g8 z8 (lift _ _ D.TOz p5) (iter1.at fun o e => lift _ o D.i1z e) (iter2.at fun o e => lift _ o D.i2z e) pair8 size8 fun c o ne1 ne2 ne3 ne4 e => lift c o ne1 (keep5 c o ne1 ne2 ne3 ne4 e)
/-- no pair is left, the own tuple free -/
theorem zn_end {Q : Fin → Shared → Prop} (hh : A.handled = none) (D : ZipApart z TI TO i1 i2 l1 l2) (hz : ZipAt s.heap z TI TO f0 f1) (fre : Fre prog w z s) (hTI : IsPair s.heap TI (.ref i1) (.ref i2)) (hTO : IsPair s.heap TO a b)
    (j1 : s.heap.IsListIter i1 l1 k1) (j2 : s.heap.IsListIter i2 l2 k2) (m1 : s.heap.IsList l1 xs) (m2 : s.heap.IsList l2 ys) (none' : xs[k1]? = none ∨ ys[k2]? = none)
    (fin : ∀ g e, (∀ c o, c ≠ z → c ≠ TO → c ≠ i1 → c ≠ i2 → s.heap.get? c = some o → g.get? c = some o) → (∃ o, g.get? e = some o ∧ o.cls = .type "StopIteration") → E (.ref e) { s with heap := g }) :
    wpAny (model prog w) A (Builtin.«zip.__next__» ⟨[.ref z], []⟩) Q E s := by
  show wpAny (model prog w) A (field (.ref z) 2 >>= _) Q E s
  refine wpAny_bind (wpAny_field (i := 2) hz rfl (x := .bool false) rfl ?_)
  show wpAny (model prog w) A (field (.ref z) 3 >>= _) Q E s
  refine wpAny_bind (wpAny_field (i := 3) hz rfl (x := .ref TI) rfl (wpAny_bind (wpAny_seqItems hTI rfl ?_)))
  show wpAny (model prog w) A (Builtin.SmallTypes.ownedTupleIsFree (.ref z) >>= _) Q E s
  refine wpAny_bind (fre A E _ ?_)
  simp only [if_true]
  refine wpAny_bind (wpAny_rule (wpAny_bind (wpAny_field (i := 4) hz rfl (x := .ref TO) rfl (wpAny_bind (wpAny_setField_rec hz (by simp) fun g1 e1 c1 => ?_)))))
  replace e1 : ZipAt g1 z TI TO .ellipsis f1 := e1
  refine wpAny_bind ?_
  simp only [List.zipIdx_cons, List.zipIdx_nil, List.forIn_cons, List.forIn_nil]
  refine wpAny_bind (wpAny_bind (wpAny_onRaise ?_))
  show wpAny (model prog w) A (Builtin.SmallTypes.nextOf (.ref i1) >>= _) _ _ _
  have notz : ∀ {g : Heap} {e : Addr}, ZipAt g z TI TO .ellipsis f1 → (∃ o, g.get? e = some o ∧ o.cls = .type "StopIteration") → e ≠ z := fun hg ⟨o, h1, h2⟩ y => by
    subst y
    rw [hg] at h1
    cases h1
    simp at h2
  cases hx : xs[k1]? with
  | none =>
    refine wpAny_bind (wpAny_nextOf_list_end hh (j1.extBut c1.extBut D.i1z) (m1.extBut c1.extBut D.l1z) hx fun g2 e c2 st => ?_)
    have e2 : ZipAt g2 z TI TO .ellipsis f1 := c2 _ _ D.i1z.symm e1
    have ne := notz e2 st
    obtain ⟨oe, st1, st2⟩ := st
    refine wpAny_setField_rec e2 (by simp) fun g3 _ c3 => fin g3 e (fun c o n1 _ n3 _ q => c3.extBut _ _ n1 (c2 _ _ n3 (c1.extBut _ _ n1 q))) ⟨oe, c3.extBut _ _ ne st1, st2⟩
  | some x =>
    have hy : ys[k2]? = none := none'.resolve_left fun q => by rw [hx] at q; cases q
    refine wpAny_bind (wpAny_nextOf_list_item (j1.extBut c1.extBut D.i1z) (m1.extBut c1.extBut D.l1z) hx fun g2 n2 c2 => wpAny_pure ?_)
    have p2 : IsPair g2 TO a b := c2.extBut _ _ D.TOi1 (c1.extBut _ _ D.TOz hTO)
    refine wpAny_bind (wpAny_seqItems p2 rfl (wpAny_bind (wpAny_updateSeq_pair p2 fun g3 p3 c3 => wpAny_bind (wpAny_letGo (wpAny_pure ?_)))))
    refine wpAny_bind (wpAny_bind (wpAny_onRaise ?_))
    show wpAny (model prog w) A (Builtin.SmallTypes.nextOf (.ref i2) >>= _) _ _ _
    have q2 : g3.IsListIter i2 l2 k2 := ((j2.extBut c1.extBut D.i2z).extBut c2.extBut D.i12.symm).extBut c3.extBut D.TOi2.symm
    have q3 : g3.IsList l2 ys := ((m2.extBut c1.extBut D.l2z).extBut c2.extBut D.l2i1).extBut c3.extBut D.l2TO
    refine wpAny_bind (wpAny_nextOf_list_end hh q2 q3 hy fun g4 e c4 st => ?_)
    have e4 : ZipAt g4 z TI TO .ellipsis f1 := c4 _ _ D.i2z.symm (c3.extBut _ _ D.TOz.symm (c2.extBut _ _ D.i1z.symm e1))
    have ne := notz e4 st
    obtain ⟨oe, st1, st2⟩ := st
    refine wpAny_setField_rec e4 (by simp) fun g5 _ c5 => fin g5 e (fun c o n1 n2' n3 n4 q => c5.extBut _ _ n1 (c4 _ _ n4 (c3.extBut _ _ n2' (c2.extBut _ _ n3 (c1.extBut _ _ n1 q))))) ⟨oe, c5.extBut _ _ ne st1, st2⟩
theorem zn_next {Q : Option Value → Shared → Prop} (D : ZipApart z TI TO i1 i2 l1 l2) (hz : ZipAt s.heap z TI TO f0 f1) (fre : Fre prog w z s) (hTI : IsPair s.heap TI (.ref i1) (.ref i2)) (hTO : IsPair s.heap TO a b)
    (j1 : s.heap.IsListIter i1 l1 k1) (j2 : s.heap.IsListIter i2 l2 k2) (m1 : s.heap.IsList l1 xs) (m2 : s.heap.IsList l2 ys) (hx : xs[k1]? = some x) (hy : ys[k2]? = some y)
    (fin : ∀ g, ZipAt g z TI TO (rawInt s.heap.objs.size) (.bool false) → IsPair g TO x y → g.IsListIter i1 l1 (k1 + 1) → g.IsListIter i2 l2 (k2 + 1) → IsPair g s.heap.objs.size x y → g.objs.size = s.heap.objs.size + 1 →
      (∀ c o, c ≠ z → c ≠ TO → c ≠ i1 → c ≠ i2 → s.heap.get? c = some o → g.get? c = some o) → Q (some (.ref s.heap.objs.size)) { s with heap := g }) : wpAny (model prog w) A.in1 (Builtin.«zip.__next__» ⟨[.ref z], []⟩) (fun r t => ∃ v, r = .done (.ret v) ∧ Q (some v) t) E s :=
  zn_item (A := A.in1) (Q := fun v t => Q (some v) t) D hz fre hTI hTO j1 j2 m1 m2 hx hy fin
end
/-- the items of zip(a, b), two lists, kept whole in a name -/
theorem turn_zipN {P : Program} {w : World} {K : PySem.W.Frag} {x : Str} {pos : Pos} {a b z TI TO i1 i2 : Addr} (D : ZipApart z TI TO i1 i2 a b) :
    Turn P w K (.Name x pos) (Itz K a b) [z, TI, TO, i1, i2] z (fun i h => (∃ f0 f, ZipAt h z TI TO f0 (.bool f) ∧ (f0 = .none ∨ ∃ T : Addr, f0 = rawInt T)) ∧ IsPair h TI (.ref i1) (.ref i2) ∧ (∃ x y, IsPair h TO x y) ∧ h.IsListIter i1 a i ∧ h.IsListIter i2 b i) where
  mem := by simp
  obj := fun i h ⟨⟨f0, f, hz, _⟩, hTI, ⟨u, v, hTO⟩, ⟨o1, e1, _, d1⟩, ⟨o2, e2, _, d2⟩⟩ c hc => by
    have hc' : c = z ∨ c = TI ∨ c = TO ∨ c = i1 ∨ c = i2 := by simpa using hc
    rcases hc' with rfl | rfl | rfl | rfl | rfl
    · exact ⟨_, hz, fun v q => nomatch q⟩
    · exact ⟨_, hTI, fun v q => nomatch q⟩
    · exact ⟨_, hTO, fun v q => nomatch q⟩
    · exact ⟨o1, e1, fun v q => by rw [d1] at q; cases q⟩
    · exact ⟨o2, e2, fun v q => by rw [d2] at q; cases q⟩
  keep := fun i h h' ⟨⟨f0, f, hz, hf⟩, hTI, ⟨u, v, hTO⟩, j1, j2⟩ k =>
    ⟨⟨f0, f, k z (by simp) _ hz, hf⟩, k TI (by simp) _ hTI, ⟨u, v, k TO (by simp) _ hTO⟩, j1.at fun o q => k i1 (by simp) o q, j2.at fun o q => k i2 (by simp) o q⟩
  item := by
    intro X hP hw hK hc i pins s σ H E I hf ⟨⟨f0, f, hz, hf0⟩, hTI, ⟨u0, v0, hTO⟩, j1, j2⟩ ⟨xs, ys, xv, yv, hxs, hys, hxi, hyi⟩
    subst hP hw hK
    obtain ⟨its1, r1, p1, _⟩ := I.list hxs
    obtain ⟨its2, r2, p2, _⟩ := I.list hys
    obtain ⟨u, hu, ru⟩ := r1.get hxi
    obtain ⟨v, hv, rv⟩ := r2.get hyi
    have lt : ∀ c ∈ [z, TI, TO, i1, i2], c < s.heap.objs.size := fun c hcm => by
      have hc' : c = z ∨ c = TI ∨ c = TO ∨ c = i1 ∨ c = i2 := by simpa using hcm
      rcases hc' with rfl | rfl | rfl | rfl | rfl
      · exact Heap.lt_size hz
      · exact Heap.lt_size hTI
      · exact Heap.lt_size hTO
      · obtain ⟨_, e, _⟩ := j1; exact Heap.lt_size e
      · obtain ⟨_, e, _⟩ := j2; exact Heap.lt_size e
    -- the new tuple stands
    have done : ∀ (g : Heap) (f0 : Value) (f : Bool), ZipAt g z TI TO f0 (.bool f) → (f0 = .none ∨ ∃ T : Addr, f0 = rawInt T) → IsPair g TI (.ref i1) (.ref i2) → (∃ x y, IsPair g TO x y) → g.IsListIter i1 a (i + 1) → g.IsListIter i2 b (i + 1) → IsPair g s.heap.objs.size u v →
        (∀ c o, c ≠ z → c ≠ TO → c ≠ i1 → c ≠ i2 → s.heap.get? c = some o → g.get? c = some o) → ∃ y H', Inv X pins σ H' { s with heap := g } ∧ RelV y (.ref s.heap.objs.size) ∧ (Itz X.K a b).yld i H y H' ∧
          ((∃ f0 f, ZipAt g z TI TO f0 (.bool f) ∧ (f0 = .none ∨ ∃ T : Addr, f0 = rawInt T)) ∧ IsPair g TI (.ref i1) (.ref i2) ∧ (∃ x y, IsPair g TO x y) ∧ g.IsListIter i1 a (i + 1) ∧ g.IsListIter i2 b (i + 1)) ∧ ∀ b' ∈ [z, TI, TO, i1, i2], H' b' = none := fun g f0 f hz' hf' hTI' hTO' j1' j2' hp kp => by
      have new : ObjOk X.prog X.w (upd H s.heap.objs.size (.tup [xv, yv])) g s.heap.objs.size (.tup [xv, yv]) := ⟨by show 2 ≤ sizeLine; decide, [u, v], .cons ru (.cons rv .nil), ⟨_, hp, rfl, _, rfl⟩⟩
      have I1 : Inv X pins σ (upd H s.heap.objs.size (.tup [xv, yv])) { s with heap := g } := I.turnedNew (t' := s.toks) (ch := [z, TI, TO, i1, i2]) (fun c o hb q => kp c o (fun e => hb (by simp [e])) (fun e => hb (by simp [e])) (fun e => hb (by simp [e])) (fun e => hb (by simp [e])) q) hf (Nat.le_refl _) new
      refine ⟨.ref s.heap.objs.size, _, I1, rfl, ⟨_, xv, yv, rfl, I.hok.fresh (Nat.le_refl _), rfl, fun l hl => by rw [I.list_inj hl hxs]; exact hxi, fun l hl => by rw [I.list_inj hl hys]; exact hyi⟩, ⟨⟨f0, f, hz', hf'⟩, hTI', hTO', j1', j2'⟩, fun c hcm => ?_⟩
      rw [upd_ne (Nat.ne_of_lt (lt c hcm))]
      exact (hf c hcm).1
    have gone : Fre X.prog X.w z s → wpAny (model X.prog X.w) X.A (pyNext (.ref z)) (fun r s1 => ∃ u, r = some u ∧ wpAny (model X.prog X.w) X.A (letOwnedTupleGo (.Name x pos) (.ref z) u) (fun _ s2 => ∃ y H', Inv X pins σ H' s2 ∧ RelV y u ∧ (Itz X.K a b).yld i H y H' ∧
        ((∃ f0 f, ZipAt s2.heap z TI TO f0 (.bool f) ∧ (f0 = .none ∨ ∃ T : Addr, f0 = rawInt T)) ∧ IsPair s2.heap TI (.ref i1) (.ref i2) ∧ (∃ x y, IsPair s2.heap TO x y) ∧ s2.heap.IsListIter i1 a (i + 1) ∧ s2.heap.IsListIter i2 b (i + 1)) ∧ ∀ b' ∈ [z, TI, TO, i1, i2], H' b' = none) E s1) E s := fun fre => by
      have ty : s.TypeIs (.ref z) "zip" := ⟨_, hz, rfl⟩
      unfold pyNext
      refine wpAny_bind (wpAny_attempt (wpAny_callSpecial?_slot (name := Str.ofString "__next__") ty F.slot_zip_next (wpAny_call_entry F.slot_zip_next ty F.entry_zip_next
        (zn_item D hz fre hTI hTO j1 j2 p1.isList p2.isList (by simpa using hu) (by simpa using hv) fun g a1 a2 a3 a4 a5 a6 a7 => wpAny_pure ⟨_, rfl, wpAny_pure ?_⟩) (F.args_zip_next_1 _))))
      exact done g _ _ a1 (.inr ⟨_, rfl⟩) (a7 _ _ D.TIz D.TITO D.TIi1 D.TIi2 hTI) ⟨_, _, a2⟩ a3 a4 a5 a7
    rcases hf0 with rfl | ⟨T, rfl⟩
    · exact gone (fre_none hz)
    · cases hT : s.heap.get? T with
      | none => exact gone (fre_gone hz hT)
      | some oT =>
        refine wpAny_pyNext_zip_item_held D hz hT hTI j1 j2 p1.isList p2.isList (by simpa using hu) (by simpa using hv) fun g a1 a3 a4 a5 a6 a7 => ⟨_, rfl, wpAny_pure ?_⟩
        exact done g _ _ a1 (.inr ⟨T, rfl⟩) (a7 _ _ D.TIz D.TIi1 D.TIi2 hTI) ⟨_, _, a7 _ _ D.TOz D.TOi1 D.TOi2 hTO⟩ a3 a4 a5 fun c o n1 _ n3 n4 q => a7 c o n1 n3 n4 q
  done := by
    intro X hP hw hK hc i pins s σ H E I hf ⟨⟨f0, f, hz, hf0⟩, hTI, ⟨u0, v0, hTO⟩, j1, j2⟩ ⟨xs, ys, hxs, hys, hend⟩
    subst hP hw hK
    obtain ⟨its1, r1, p1, _⟩ := I.list hxs
    obtain ⟨its2, r2, p2, _⟩ := I.list hys
    have e1 := r1.length
    have e2 := r2.length
    have he : its1.toArray[i]? = none ∨ its2.toArray[i]? = none := hend.imp (fun q => by simp; omega) fun q => by simp; omega
    have hh := I.ok.hd hc
    have fin : ∀ g : Heap, (∀ c o, c ≠ z → c ≠ TO → c ≠ i1 → c ≠ i2 → s.heap.get? c = some o → g.get? c = some o) → (none : Option Value) = none ∧ Inv X pins σ H { s with heap := g } := fun g kp =>
      ⟨rfl, I.turnedL (t' := s.toks) (ch := [z, TI, TO, i1, i2]) (fun c o hb q => kp c o (fun e => hb (by simp [e])) (fun e => hb (by simp [e])) (fun e => hb (by simp [e])) (fun e => hb (by simp [e])) q) hf⟩
    have gone : Fre X.prog X.w z s → wpAny (model X.prog X.w) X.A (pyNext (.ref z)) (fun r s1 => r = none ∧ Inv X pins σ H s1) E s := fun fre => by
      have ty : s.TypeIs (.ref z) "zip" := ⟨_, hz, rfl⟩
      unfold pyNext
      refine wpAny_bind (wpAny_attempt (wpAny_callSpecial?_slot (name := Str.ofString "__next__") ty F.slot_zip_next (wpAny_call_entry F.slot_zip_next ty F.entry_zip_next
        (zn_end hh D hz fre hTI hTO j1 j2 p1.isList p2.isList he fun g e kp st => ?_) (F.args_zip_next_1 _))))
      obtain ⟨oe, h1, h2⟩ := st
      exact wpAny_bind (wpAny_isInstance (T := "StopIteration") (b := true) ⟨oe, h1, h2⟩ isSubtype_stop (wpAny_pure (fin g kp)))
    rcases hf0 with rfl | ⟨T, rfl⟩
    · exact gone (fre_none hz)
    · cases hT : s.heap.get? T with
      | none => exact gone (fre_gone hz hT)
      | some oT => exact wpAny_pyNext_zip_end_held hh D hz hT hTI j1 j2 p1.isList p2.isList he fun g kp => fin g fun c o n1 _ n3 n4 q => kp c o n1 n3 n4 q
  self := fun A i s Q E st h => by
    obtain ⟨⟨f0, f, hz, _⟩, _⟩ := st
    have ty : s.TypeIs (.ref z) "zip" := ⟨_, hz, rfl⟩
    refine wpAny_pyIter_slot ty F.slot_zip_iter (wpAny_call_entry F.slot_zip_iter ty F.entry_zip_iter ?_ (F.args_zip_iter_1 _))
    show wpAny (model P w) A.in1 (ret (.ref z)) _ _ s
    exact wpAny_pure ⟨_, rfl, "zip", _, ty, F.slot_zip_next.lookup, h⟩
/-- for x in zip(e, e2), two lists -/
theorem pi_zipN {X : Cx} {e e2 : Expr} {ta : TA} {x : Str} {p px pos : Pos} (hg : Gl X "zip") (hm : X.mg "zip" = none) (ha : PA X [e, e2] ta)
    (hs : starEach [e, e2] X.env = (false, eval e X.env) :: starEach [e2] X.env := by rfl) (hpl : (backTo pos (starEach [e2] X.env)).any (·.1) = false := by rfl) : PI X (.Name x px) (.Call (.Name "zip" p) [e, e2] [] pos) (iZip X.K ta) := by
  refine ⟨fun pins s σ H R I h => Call_ (ld_blt I hg hm PyProof.Rows.boot_zip (PyProof.Rows.callWith_type1 (thn (ha.run pos pins s σ H _ I h) fun us s1 ⟨vs, H1, I1, rr, a, b, xs, ys, ev, hx, hy, q⟩ => ?_) hs hpl))⟩
  subst ev
  obtain ⟨u1, u2, rfl, r1, r2⟩ := vals2 rr
  cases (show u1 = Value.ref a from r1)
  cases (show u2 = Value.ref b from r2)
  obtain ⟨its1, w1, p1, _⟩ := I1.list hx
  obtain ⟨its2, w2, p2, _⟩ := I1.list hy
  refine call_zip_2 p1.isList p2.isList fun g hz hTI hTO g1 g2 hsz kp => wpAny_pyIter_zip hz ?_
  have I2 : Inv X pins σ H1 { s1 with heap := g } := I1.kept (t' := s1.toks) kp
  refine ⟨s1.heap.objs.size + 4, [s1.heap.objs.size + 4, s1.heap.objs.size + 2, s1.heap.objs.size + 3, s1.heap.objs.size, s1.heap.objs.size + 1], _, _, H1, rfl, I2, turn_zipN (PySem.W.ktu_apart s1.heap.objs.size a b p1.lt p2.lt), ⟨⟨_, false, hz, .inl rfl⟩, hTI, ⟨_, _, hTO⟩, g1, g2⟩, fun c hcm => ?_, q⟩
  have le : s1.heap.objs.size ≤ c := by
    have hc' : c = s1.heap.objs.size + 4 ∨ c = s1.heap.objs.size + 2 ∨ c = s1.heap.objs.size + 3 ∨ c = s1.heap.objs.size ∨ c = s1.heap.objs.size + 1 := by simpa using hcm
    rcases hc' with z | z | z | z | z <;> (rw [z]; simp)
  exact I1.fpOk le (I1.hok.fresh le)
end ZN
namespace M
open PySem L2
section
variable {X : Cx} {G : Gx} {S : List Sl}
def zipL (xs ys : List D) : List D := (xs.zip ys).map fun p => .tup [p.1, p.2]
/-- two of a kind -/
def dZip : D → D → N (List D)
  | .lst xs, .lst ys => .ok (zipL xs ys)
  | .tup xs, .tup ys => .ok (zipL xs ys)
  | _, _ => .stuck
theorem zipL_get {xs ys : List D} {i : Nat} {d : D} (h : (zipL xs ys)[i]? = some d) : ∃ x y, xs[i]? = some x ∧ ys[i]? = some y ∧ d = .tup [x, y] := by
  unfold zipL at h
  rw [List.getElem?_map] at h
  obtain ⟨p, hp, rfl⟩ := Option.map_eq_some_iff.mp h
  obtain ⟨h1, h2⟩ := List.getElem?_zip_eq_some.mp hp
  exact ⟨p.1, p.2, h1, h2, rfl⟩
theorem walk_zip {J : It} {F1 : Ty} {H1 : Hp} {vs us : List V} {xs ys : List D} (l : RpL G.Z F1 vs xs) (l' : RpL G.Z F1 us ys) (hg : ∀ F H, Kp F1 F H → ∀ i x y, vs[i]? = some x → us[i]? = some y → J.go i H) (hy : ∀ F H, Kp F1 F H → ∀ i v H', J.yld i H v H' → ∀ x y, vs[i]? = some x → us[i]? = some y → ∃ T, v = .ref T ∧ H T = none ∧ H' = upd H T (.tup [x, y]))
    (hs : ∀ F H, Kp F1 F H → ∀ i, vs.length ≤ i ∨ us.length ≤ i → J.stop i H) : WalkD G J (zipL xs ys) F1 H1 := fun F H e i => by
  refine ⟨fun d hd => ?_, fun hi => hs F H e i ?_⟩
  · obtain ⟨x, y, hx, hy', rfl⟩ := zipL_get hd
    obtain ⟨v, hv, rv⟩ := l.get hx
    obtain ⟨u, hu, ru⟩ := l'.get hy'
    refine ⟨hg F H e i v u hv hu, fun z H' hyld => ?_⟩
    obtain ⟨T, rfl, nT, rfl⟩ := hy F H e i z H' hyld v u hv hu
    have e2 : Ext F H (updT F T (is (.tup [v, u]))) (upd H T (.tup [v, u])) := Ext.new e.ok nT rfl
    exact ⟨_, e2, .tup updT_same (.cons (rv.ex (e.ex.trans e2.ex)) (.cons (ru.ex (e.ex.trans e2.ex)) .nil))⟩
  · unfold zipL at hi
    rw [List.length_map, List.length_zip] at hi
    rw [l.length, l'.length]
    omega
theorem zip_runL {F1 : Ty} {H1 : Hp} {v u : V} {xs ys : List D} {K : PySem.W.Frag} (hK : G.Z.K = K) (ok : Okk F1 H1) (r1 : Rp G.Z F1 v (.lst xs)) (r2 : Rp G.Z F1 u (.lst ys)) {R : It → Hp → Prop} (q : ∀ J, WalkD G J (zipL xs ys) F1 H1 → R J H1) :
    ∃ a b vs us, [v, u] = [V.ref a, V.ref b] ∧ SqL K H1 a vs ∧ SqL K H1 b us ∧ R (Itz K a b) H1 := by
  subst hK
  cases r1 with
  | @lst a vs _ r l =>
    cases r2 with
    | @lst b us _ r' l' =>
      have s1 : ∀ F H, Kp F1 F H → SqL G.Z.K H a vs := fun F H e => RL.sq e.ok (r.ex e.ex)
      have s2 : ∀ F H, Kp F1 F H → SqL G.Z.K H b us := fun F H e => RL.sq e.ok (r'.ex e.ex)
      have e0 : Kp F1 F1 H1 := ⟨Ex.refl F1, ok⟩
      refine ⟨a, b, vs, us, rfl, s1 _ _ e0, s2 _ _ e0, q _ (walk_zip l l' (fun F H e i x y hx hy => ⟨vs, us, x, y, s1 _ _ e, s2 _ _ e, hx, hy⟩) (fun F H e i v H' ⟨T, x', y', h1, h2, h3, h4, h5⟩ x y hx hy => ?_) fun F H e i hi => ⟨vs, us, s1 _ _ e, s2 _ _ e, hi⟩)⟩
      have g1 := h4 vs (s1 _ _ e)
      have g2 := h5 us (s2 _ _ e)
      rw [hx] at g1
      rw [hy] at g2
      cases g1; cases g2
      exact ⟨T, h1, h2, h3⟩
theorem zip_runT {F1 : Ty} {H1 : Hp} {v u : V} {xs ys : List D} {K : PySem.W.Frag} (hK : G.Z.K = K) (ok : Okk F1 H1) (r1 : Rp G.Z F1 v (.tup xs)) (r2 : Rp G.Z F1 u (.tup ys)) {R : It → Hp → Prop} (q : ∀ J, WalkD G J (zipL xs ys) F1 H1 → R J H1) :
    ∃ a b vs us, [v, u] = [V.ref a, V.ref b] ∧ SqT K H1 a vs ∧ SqT K H1 b us ∧ R (RZ.ItzT K a b) H1 := by
  subst hK
  cases r1 with
  | @tup a vs _ r l =>
    cases r2 with
    | @tup b us _ r' l' =>
      have s1 : ∀ F H, Kp F1 F H → SqT G.Z.K H a vs := fun F H e => sqT_of e.ok (e.ex _ _ r)
      have s2 : ∀ F H, Kp F1 F H → SqT G.Z.K H b us := fun F H e => sqT_of e.ok (e.ex _ _ r')
      have e0 : Kp F1 F1 H1 := ⟨Ex.refl F1, ok⟩
      refine ⟨a, b, vs, us, rfl, s1 _ _ e0, s2 _ _ e0, q _ (walk_zip l l' (fun F H e i x y hx hy => ⟨vs, us, x, y, s1 _ _ e, s2 _ _ e, hx, hy⟩) (fun F H e i v H' ⟨T, x', y', h1, h2, h3, h4, h5⟩ x y hx hy => ?_) fun F H e i hi => ⟨vs, us, s1 _ _ e, s2 _ _ e, hi⟩)⟩
      have g1 := h4 vs (s1 _ _ e)
      have g2 := h5 us (s2 _ _ e)
      rw [hx] at g1
      rw [hy] at g2
      cases g1; cases g2
      exact ⟨T, h1, h2, h3⟩
/-- zip(e, e2), unpacked -/
theorem src_zip {a b : Expr} {na nb : N D} {p pos tpos : Pos} {elts : List Expr} {kk : Nat} (hK : G.Z.K = X.K) (hm : X.mg "zip" = none) (ha : PE X a (eV G S na)) (hb : PE X b (eV G S nb)) (hg : Gl X "zip" := by rfl) (h1 : starEach [a, b] X.env = (false, eval a X.env) :: starEach [b] X.env := by rfl) (h2 : starEach [b] X.env = (false, eval b X.env) :: starEach [] X.env := by rfl)
    (hpl : (backTo pos (starEach [b] X.env)).any (·.1) = false := by rfl) (hs : ∀ v, foldedSetIterable (.Call (.Name "zip" p) [a, b] [] pos) X.env v = pure v := by intro _; rfl) : Src X G S (.Tuple elts kk tpos) (.Call (.Name "zip" p) [a, b] [] pos) (na.bind fun x => nb.bind fun y => dZip x y) :=
  ⟨⟨_, RZ.pi_zipA hg hm (da_cons ha (da_cons hb da_nil h2) h1) h1 hpl, fun σ H R ⟨F, A, q⟩ => ⟨F, A, na.mono (fun x q1 => nb.mono (fun y q2 vs F1 H1 e1 r1 => by
    cases r1 with
    | cons ra l =>
      cases l with
      | cons rb l =>
        cases l
        replace q2 : (dZip x y).wp (fun ds => ∀ F1 H1, Ext F H F1 H1 → ∀ J, WalkD G J ds F1 H1 → R J H1) G.Er := q2
        unfold dZip at q2
        split at q2
        · obtain ⟨a', b', xs, ys, ev, z1, z2, z3⟩ := zip_runL hK (A.go e1).ok ra rb (R := R) (q2 F1 H1 e1)
          exact ⟨a', b', xs, ys, ev, .inl ⟨z1, z2, z3⟩⟩
        · obtain ⟨a', b', xs, ys, ev, z1, z2, z3⟩ := zip_runT hK (A.go e1).ok ra rb (R := R) (q2 F1 H1 e1)
          exact ⟨a', b', xs, ys, ev, .inr ⟨z1, z2, z3⟩⟩
        · exact (show False from q2).elim) (fun _ _ z => z) q1) (fun _ _ z => z) q⟩⟩, hs⟩
/-- zip(e, e2), two lists, kept whole -/
def dZipL : D → D → N (List D)
  | .lst xs, .lst ys => .ok (zipL xs ys)
  | _, _ => .stuck
theorem src_zipN {a b : Expr} {na nb : N D} {x : Str} {p px pos : Pos} (hK : G.Z.K = X.K) (hm : X.mg "zip" = none) (ha : PE X a (eV G S na)) (hb : PE X b (eV G S nb)) (hg : Gl X "zip" := by rfl) (h1 : starEach [a, b] X.env = (false, eval a X.env) :: starEach [b] X.env := by rfl) (h2 : starEach [b] X.env = (false, eval b X.env) :: starEach [] X.env := by rfl)
    (hpl : (backTo pos (starEach [b] X.env)).any (·.1) = false := by rfl) (hs : ∀ v, foldedSetIterable (.Call (.Name "zip" p) [a, b] [] pos) X.env v = pure v := by intro _; rfl) : Src X G S (.Name x px) (.Call (.Name "zip" p) [a, b] [] pos) (na.bind fun x => nb.bind fun y => dZipL x y) :=
  ⟨⟨_, ZN.pi_zipN hg hm (da_cons ha (da_cons hb da_nil h2) h1) h1 hpl, fun σ H R ⟨F, A, q⟩ => ⟨F, A, na.mono (fun x q1 => nb.mono (fun y q2 vs F1 H1 e1 r1 => by
    cases r1 with
    | cons ra l =>
      cases l with
      | cons rb l =>
        cases l
        replace q2 : (dZipL x y).wp (fun ds => ∀ F1 H1, Ext F H F1 H1 → ∀ J, WalkD G J ds F1 H1 → R J H1) G.Er := q2
        unfold dZipL at q2
        split at q2
        · exact zip_runL hK (A.go e1).ok ra rb (R := R) (q2 F1 H1 e1)
        · exact (show False from q2).elim) (fun _ _ z => z) q1) (fun _ _ z => z) q⟩⟩, hs⟩
end
end M

set_option Elab.async false
set_option linter.all false
set_option maxRecDepth 100000
set_option maxHeartbeats 2000000
namespace M
open PySem L2
/-! ### a list of lists, each changed in place -/
theorem RpL.eraseIdx {Z : Zt} {F : Ty} : ∀ {vs : List V} {ds : List D} (k : Nat), RpL Z F vs ds → RpL Z F (vs.eraseIdx k) (ds.eraseIdx k)
  | _, _, _, .nil => .nil
  | _, _, 0, .cons _ l => l
  | _, _, k + 1, .cons r l => .cons r (RpL.eraseIdx k l)
/-- many addresses become known -/
def learnS (F : Ty) (H : Hp) (fp : List Addr) : Ty := fun b => if b ∈ fp then (H b).map is else F b
theorem learnS_in {F : Ty} {H : Hp} {fp : List Addr} {b : Addr} {w : HO} (h : b ∈ fp) (hw : H b = some w) : learnS F H fp b = some (is w) := by
  unfold learnS
  rw [if_pos h, hw]
  rfl
theorem learnS_out {F : Ty} {H : Hp} {fp : List Addr} {b : Addr} (h : b ∉ fp) : learnS F H fp b = F b := by
  unfold learnS
  rw [if_neg h]
theorem learnS_ex {F : Ty} {H : Hp} {fp : List Addr} (n : ∀ a ∈ fp, F a = none) : Ex F (learnS F H fp) := fun b p z => by
  rw [learnS_out (fun y => by rw [n b y] at z; cases z)]
  exact z
theorem Okk.learnS {F : Ty} {H : Hp} (k : Okk F H) {fp : List Addr} (n : ∀ a ∈ fp, F a = Option.none) (hw : ∀ a ∈ fp, ∃ w, H a = some w ∧ (∀ b q, w ≠ LamX.CodeO b q) ∧ ∀ ps, w ≠ .tbl ps) : Okk (M.learnS F H fp) H := by
  have tab : ∀ P q, M.learnS F H fp P = some (pTab q) ↔ F P = some (pTab q) := fun P q => by
    by_cases z : P ∈ fp
    · obtain ⟨w, h1, _⟩ := hw P z
      rw [learnS_in z h1, n P z]
      exact ⟨fun e => (is_ne_tab _ (Option.some.inj e)).elim, fun e => by cases e⟩
    · rw [learnS_out z]
  refine ⟨fun b p e => ?_, fun P q e => k.tb P q ((tab P q).mp e), ?_⟩
  · by_cases z : b ∈ fp
    · obtain ⟨w, h1, h2, h3⟩ := hw b z
      rw [learnS_in z h1] at e
      cases e
      exact ⟨w, h1, rfl, fun _ => rfl, fun ⟨ps, y⟩ => (h3 ps y).elim, fun c q => h2 c q⟩
    · rw [learnS_out z] at e
      exact k.at_ b p e
  · obtain ⟨T, hT⟩ := k.fin
    exact ⟨T, fun P q => by rw [tab]; exact hT P q⟩
section
variable {Z : Zt} {B : Bs} {S : List Sl} {F : Ty} {σ : St} {H : Hp}
theorem rows_rp {Bh : Hp} {F' : Ty} (e : Ex F F') : ∀ {vs : List V} {dss : List (List D)}, Rows Z Bh F H vs dss → (∀ a w, V.ref a ∈ vs → H a = some w → F' a = some (is w)) → RpL Z F' vs (dss.map .lst)
  | _, _, .nil, _ => .nil
  | _, _, .cons ⟨a, us, h1, h2, _, _, r⟩ l, k => by
    subst h1
    exact .cons (.lst (.inl (.inl (k a _ List.mem_cons_self h2))) (r.ex e)) (rows_rp e l fun a w z => k a w (List.mem_cons_of_mem _ z))
theorem At.freezeR (h : At Z B S F σ H) {i : Nat} {dss : List (List D)} (hi : S[i]? = some (.own (.rows dss))) : ∃ F', Ex F F' ∧ At Z B (S.set i (.dat (.lst (dss.map .lst)))) F' σ H := by
  obtain ⟨l, u, e, hu, nF, nB, hc⟩ := h.own hi
  have hfp := fun {a} => hc.fp (a := a) hu nF nB
  have n : ∀ a ∈ fpU l u (.rows dss), F a = none := fun a ha => (hfp ha).1
  obtain ⟨vs, rfl, r, nd⟩ := hc
  have ex' := learnS_ex (H := H) n
  refine ⟨_, ex', h.learn hi e hu ex' (h.ok.learnS n fun a ha => ?_) (fun b hb => learnS_out hb) (.lst (xs := vs) (.inl (.inl (learnS_in fp_self hu))) (rows_rp ex' r fun a w ha hw => learnS_in (List.mem_cons_of_mem _ (mem_refs.mpr ha)) hw))⟩
  obtain ⟨_, _, w, h1, h2, h3, _⟩ := hfp ha
  exact ⟨w, h1, h2, h3⟩
end
section
variable {X : Cx} {G : Gx} {S : List Sl} {a b c e : Expr} {na nb : N D} {pos : Pos} {τ β : Type} {sl : τ → List Sl} {sb : β → List Sl}
theorem ds_freezeR {rest : List Stmt} {sl2 : τ → List Sl} {i : Nat} {dss : List (List D)} {n : N (Fl τ β)} (hi : S[i]? = some (.own (.rows dss)) := by rfl) (h : PSs X rest (sV G (S.set i (.dat (.lst (dss.map .lst)))) sl2 sb n)) : PSs X rest (sV G S sl2 sb n) :=
  PSs.imp h fun E σ H ⟨F, A, q⟩ => by
    obtain ⟨F', e, A'⟩ := A.freezeR hi
    exact ⟨F', A', n.mono (fun f z => flP.ex G e z) (fun _ _ z => z) q⟩
/-- one row changed -/
theorem Rows.set {Z : Zt} {Bh : Hp} {F F' : Ty} {H H' : Hp} : ∀ {vs : List V} {dss : List (List D)} {k : Nat} {a : Addr} {ds' : List D}, Ex F F' → Rows Z Bh F H vs dss → vs[k]? = some (.ref a) → (∀ j b, vs[j]? = some (.ref b) → j ≠ k → H' b = H b ∧ F' b = F b) → Row Z Bh F' H' (.ref a) ds' → Rows Z Bh F' H' vs (dss.set k ds')
  | _, _, k, a, ds', e, .nil, h, _, _ => by simp at h
  | _, _, 0, a, ds', e, .cons r l, h, hk, row => by
    simp at h
    subst h
    exact .cons row (Rows.keep e (fun b hb => by
      obtain ⟨j, hj⟩ := List.getElem?_of_mem hb
      exact hk (j + 1) b (by simpa using hj) (by omega)) l)
  | _, _, k + 1, a, ds', e, .cons r l, h, hk, row => by
    refine .cons (r.keep e fun b hb => hk 0 b (by rw [hb]; rfl) (by omega)) (Rows.set e l (by simpa using h) (fun j b hj hne => hk (j + 1) b (by simpa using hj) (by omega)) row)
theorem refs_inj {vs : List V} (nd : (vs.filterMap fun v => match v with | .ref a => some a | _ => none).Nodup) {j k : Nat} {a : Addr} (hj : vs[j]? = some (.ref a)) (hk : vs[k]? = some (.ref a)) : j = k := by
  induction vs generalizing j k with
  | nil => simp at hj
  | cons v vs ih =>
    cases j with
    | zero =>
      cases k with
      | zero => rfl
      | succ k =>
        simp at hj hk
        subst hj
        rw [List.filterMap_cons] at nd
        simp only [List.nodup_cons] at nd
        exact (nd.1 (mem_refs.mpr (List.mem_of_getElem? hk))).elim
    | succ j =>
      cases k with
      | zero =>
        simp at hj hk
        subst hk
        rw [List.filterMap_cons] at nd
        simp only [List.nodup_cons] at nd
        exact (nd.1 (mem_refs.mpr (List.mem_of_getElem? hj))).elim
      | succ k =>
        have nd' : (vs.filterMap fun v => match v with | .ref a => some a | _ => none).Nodup := by
          rw [List.filterMap_cons] at nd
          split at nd
          · exact nd
          · exact (List.nodup_cons.mp nd).2
        exact congrArg Nat.succ (ih nd' (by simpa using hj) (by simpa using hk))
/-- a row is changed -/
theorem At.putRow {Z : Zt} {B : Bs} {F : Ty} {σ : St} {H : Hp} (h : At Z B S F σ H) {i k : Nat} {l r : Addr} {vs ws : List V} {dss : List (List D)} {ds' : List D} (hi : S[i]? = some (.own (.rows dss))) (hl : σ[i]? = some (some (.ref l))) (hu : H l = some (.lst vs)) (hk : vs[k]? = some (.ref r)) (hr : RpL Z F ws ds') :
    At Z B (S.set i (.own (.rows (dss.set k ds')))) F σ (upd H r (.lst ws)) := by
  obtain ⟨l', u, e, hu', nF, nB, hc⟩ := h.own hi
  rw [hl] at e; cases e
  rw [hu] at hu'; cases hu'
  have hfp := fun {a} => hc.fp (a := a) hu nF nB
  obtain ⟨vs', ev, rr, nd⟩ := hc
  cases ev
  have hrm : r ∈ fpU l (.lst vs) (.rows dss) := List.mem_cons_of_mem _ (mem_refs.mpr (List.mem_of_getElem? hk))
  have nd' : (l :: vs.filterMap fun v => match v with | .ref a => some a | _ => none).Nodup := nd
  obtain ⟨n1, n2⟩ := List.nodup_cons.mp nd'
  have hlr : l ≠ r := fun z => n1 (by rw [z]; exact mem_refs.mpr (List.mem_of_getElem? hk))
  refine h.chg hi hl hu hrm (by rw [upd_ne hlr]; exact hu) (fun b hb => hb) ⟨vs, rfl, Rows.set (Ex.refl F) rr hk (fun j b hj hne => ⟨upd_ne fun z => hne (refs_inj n2 (by rw [← z]; exact hj) hk), rfl⟩) ⟨r, ws, rfl, upd_same, (hfp hrm).1, (hfp hrm).2.1, hr⟩, nd⟩
def rowAt (dss : List (List D)) (j : D) : N (Nat × List D) := match j with
  | .int i => match (ixN dss.length i).bind fun k => (dss[k]?).map fun ds => (k, ds) with
    | some p => .ok p
    | none => .stuck
  | _ => .stuck
theorem rowAt_ok {dss : List (List D)} {j : D} {P : Nat × List D → Prop} {E : Nat → D → Prop} (h : (rowAt dss j).wp P E) : ∃ i k ds, j = .int i ∧ ixN dss.length i = some k ∧ dss[k]? = some ds ∧ P (k, ds) := by
  unfold rowAt at h
  split at h
  · rename_i i
    split at h
    · rename_i p hp
      obtain ⟨k, h1, h2⟩ := Option.bind_eq_some_iff.mp hp
      obtain ⟨ds, h3, rfl⟩ := Option.map_eq_some_iff.mp h2
      exact ⟨i, k, ds, rfl, h1, h3, h⟩
    · exact h.elim
  · exact h.elim
/-- rows[e].append(a) -/
theorem ds_rowApp {i : Nat} {x : Str} {px p1 pa pc : Pos} {dss : List (List D)} (hi : S[i]? = some (.own (.rows dss))) (hN : X.N[i]? = some x) (hb : PE X b (eV G S nb)) (ha : PE X a (eV G S na)) (hx : PlainIx b := by exact fun _ _ => rfl)
    (hw : swapsWith (.Call (.Attribute (.Subscript (.Name x px) b p1) "append" pa) [a] [] pc) none pos.line X.env = pure false := by rfl)
    (hp : ∀ t u : TE, PE X b t → PE X a u → PE X (.Call (.Attribute (.Subscript (.Name x px) b p1) "append" pa) [a] [] pc) (tBM X.K "list" rAppend (tOp (rIx X.K) (tVar i) t) (tCons u tNil)) := by exact fun t u h1 h2 => pe_bm PySem.F.plainAttrs_list PySem.F.slot_list_append PySem.F.type_list_append mt_append (pe_ix ix_seq (pv _) h1 (by exact fun _ _ => rfl)) (pa_cons h2 pa_nil)) :
    PS X (.Expr (.Call (.Attribute (.Subscript (.Name x px) b p1) "append" pa) [a] [] pc) pos) (sV G S (fun d => S.set i (.own (.rows d))) sb (nb.bind fun j => (rowAt dss j).bind fun p => na.bind fun d => (N.asrt (p.2.length < sizeLine)).bind fun _ => .ok (.nx (dss.set p.1 (p.2 ++ [d]))))) :=
  PS.imp (ps_expr (hp _ _ hb ha) hw) fun E σ H ⟨F, A, q⟩ => by
    obtain ⟨l, u, e, hu, nF, nB, vs, rfl, r, nd⟩ := A.own hi
    refine ⟨.ref l, e, F, A, nb.mono (fun j q1 v F1 H1 e1 r1 => ?_) (fun _ _ z => z) q⟩
    obtain ⟨z, k, ds, rfl, h1, h2, q1⟩ := rowAt_ok q1
    rw [rp_int r1]
    have A1 := A.go e1
    obtain ⟨l', u', e', hu', nF', nB', vs', rfl, r', nd'⟩ := A1.own hi
    rw [e] at e'; cases e'
    obtain ⟨w, hw1, rw, ws, rfl, g1, g2, g3, g4⟩ := r'.get h2
    refine .inl ⟨l, vs', z, .ref rw, rfl, rfl, SqL.of hu', ?_, .inl ⟨rfl, ws, SqL.of g1⟩, F1, A1, na.mono (fun d q2 y F2 H2 e2 r2 => ?_) (fun _ _ z => z) q1⟩
    · unfold L2.atI
      rw [r'.length, h1]
      exact hw1
    · have A2 := A1.go e2
      obtain ⟨l2, u2, e2', hu2, nF2, nB2, vs2, rfl, r2', nd2⟩ := A2.own hi
      rw [e] at e2'; cases e2'
      obtain ⟨w2, hw2, rw2, ws2, rfl, k1, k2, k3, k4⟩ := r2'.get h2
      have hsame : vs2 = vs' := by
        have := (ext_lst e2 nF' hu').2
        rw [hu2] at this
        cases this; rfl
      subst hsame
      rw [hw1] at hw2; cases hw2
      obtain ⟨hz, q2⟩ := q2
      exact ⟨rw, ws2, y, rfl, rfl, k1, by rw [k4.length]; exact hz, q2 F2 σ _ (e1.ex.trans e2.ex) (A2.putRow hi e hu2 hw1 (k4.append (.cons r2 .nil)))⟩
/-- w = rows[e].pop(a) -/
theorem ds_rowPop {i m : Nat} {x y : Str} {px py p1 pa pc : Pos} {dss : List (List D)} (hNd : X.N.Nodup) (him : i ≠ m) (hi : S[i]? = some (.own (.rows dss))) (hN : X.N[i]? = some x) (hy : X.N[m]? = some y) (hb : PE X b (eV G S nb)) (ha : PE X a (eV G S na)) (hx : PlainIx b := by exact fun _ _ => rfl)
    (hloc : Loc X.env.scope y := by first | exact Or.inl rfl | exact Or.inr rfl) (hw : swapsWith (.Call (.Attribute (.Subscript (.Name x px) b p1) "pop" pa) [a] [] pc) (some (.Name y py)) pos.line X.env = pure false := by rfl)
    (hf : X.fn y = true ∨ X.env.scope.names.lookup y = some .local := by first | exact .inl rfl | exact .inr rfl)
    (hp : ∀ t u : TE, PE X b t → PE X a u → PE X (.Call (.Attribute (.Subscript (.Name x px) b p1) "pop" pa) [a] [] pc) (tBM X.K "list" rPopAt (tOp (rIx X.K) (tVar i) t) (tCons u tNil)) := by exact fun t u h1 h2 => pe_bm PySem.F.plainAttrs_list PySem.F.slot_list_pop PySem.F.type_list_pop mt_popAt (pe_ix ix_seq (pv _) h1 (by exact fun _ _ => rfl)) (pa_cons h2 pa_nil)) :
    PS X (.Assign [.Name y py] (.Call (.Attribute (.Subscript (.Name x px) b p1) "pop" pa) [a] [] pc) pos) (sV G S (fun t : D × List (List D) => (S.set i (.own (.rows t.2))).set m (.dat t.1)) sb
      (nb.bind fun j => (rowAt dss j).bind fun p => na.bind fun d => match d with
        | .int z => (match (seqIndex? z p.2.length).bind fun k => (p.2[k]?).map fun w => (k, w) with
          | some kw => (N.asrt (-(2 ^ 63) ≤ z ∧ z < 2 ^ 63)).bind fun _ => .ok (.nx (kw.2, dss.set p.1 (p.2.eraseIdx kw.1)))
          | none => .stuck)
        | _ => .stuck)) :=
  PS.imp (ps_set (i := m) hNd hy hloc (hp _ _ hb ha) hw hf) fun E σ H ⟨F, A, q⟩ => by
    obtain ⟨l, u, e, hu, nF, nB, vs, rfl, r, nd⟩ := A.own hi
    refine ⟨.ref l, e, F, A, nb.mono (fun j q1 v F1 H1 e1 r1 => ?_) (fun _ _ z => z) q⟩
    obtain ⟨z, k, ds, rfl, h1, h2, q1⟩ := rowAt_ok q1
    rw [rp_int r1]
    have A1 := A.go e1
    obtain ⟨l', u', e', hu', nF', nB', vs', rfl, r', nd'⟩ := A1.own hi
    rw [e] at e'; cases e'
    obtain ⟨w, hw1, rw, ws, rfl, g1, g2, g3, g4⟩ := r'.get h2
    refine .inl ⟨l, vs', z, .ref rw, rfl, rfl, SqL.of hu', ?_, .inl ⟨rfl, ws, SqL.of g1⟩, F1, A1, na.mono (fun d q2 y F2 H2 e2 r2 => ?_) (fun _ _ z => z) q1⟩
    · unfold L2.atI
      rw [r'.length, h1]
      exact hw1
    · have A2 := A1.go e2
      obtain ⟨l2, u2, e2', hu2, nF2, nB2, vs2, rfl, r2', nd2⟩ := A2.own hi
      rw [e] at e2'; cases e2'
      obtain ⟨w2, hw2, rw2, ws2, rfl, k1, k2, k3, k4⟩ := r2'.get h2
      have hsame : vs2 = vs' := by
        have := (ext_lst e2 nF' hu').2
        rw [hu2] at this
        cases this; rfl
      subst hsame
      rw [hw1] at hw2; cases hw2
      cases d with
      | int z2 =>
        rw [rp_int r2]
        dsimp only at q2
        split at q2
        · rename_i kw hkw
          obtain ⟨k', hk1, hk2⟩ := Option.bind_eq_some_iff.mp hkw
          obtain ⟨dw, hk3, rfl⟩ := Option.map_eq_some_iff.mp hk2
          obtain ⟨⟨b1, b2⟩, q2⟩ := q2
          obtain ⟨vw, hv1, rvw⟩ := k4.get hk3
          refine ⟨rw, ws2, z2, k', vw, rfl, rfl, k1, b1, b2, by rw [k4.length]; exact hk1, hv1, ?_⟩
          have A3 := A2.putRow (ws := ws2.eraseIdx k') hi e hu2 hw1 (ds' := ds.eraseIdx k') (RpL.eraseIdx k' k4)
          have hF2 : F2 rw = none := k2
          exact q2 F2 _ _ (e1.ex.trans e2.ex) (A3.set (i := m) rvw)
        · exact (show False from q2).elim
      | _ => exact (show False from q2).elim
end
end M

set_option Elab.async false
set_option linter.all false
set_option maxRecDepth 100000
set_option maxHeartbeats 2000000
namespace M
open PySem L2
/-! ### a list of new lists, made by a comprehension -/
/-- an expression that makes a new list, of these items -/
def rV (G : Gx) (S : List Sl) (n : N (List D)) : TE := fun σ H Q => ∃ F, At G.Z G.B S F σ H ∧ n.wp (fun ds => ∀ F1 H1, Ext F H F1 H1 → ∀ p vs, H1 p = none → RpL G.Z F1 vs ds → Q (.ref p) (upd H1 p (.lst vs))) G.Er
section
variable {X : Cx} {G : Gx} {S : List Sl} {a : Expr} {na : N D} {pos : Pos}
theorem re_list (hK : G.Z.K = X.K) {p : Pos} (hm : X.mg "list" = none) (ha : PE X a (eV G S na)) (hg : Gl X "list" := by rfl) (he : starEach (a :: []) X.env = (false, eval a X.env) :: starEach [] X.env := by rfl) (hpl : (backTo pos (starEach [] X.env)).any (·.1) = false := by rfl) :
    PE X (.Call (.Name "list" p) [a] [] pos) (rV G S (na.bind seqOf)) :=
  PE.imp (pe_callTy call_list_of hg hm (by decide +kernel) (da_cons ha da_nil he) (by decide) (by decide) he hpl) fun σ H Q ⟨F, A, q⟩ => ⟨F, A, na.mono (fun d q1 vs F1 H1 e1 r1 => by
    have A1 := A.go e1
    cases r1 with
    | cons r l0 =>
      cases l0
      cases r with
      | tup r l => exact ⟨_, _, rfl, .inr (by rw [← hK]; exact sqT_of A1.ok r), fun p hp => q1 F1 H1 e1 p _ hp l⟩
      | ktup r l => exact ⟨_, _, rfl, .inr (by rw [← hK]; exact .inr r), fun p hp => q1 F1 H1 e1 p _ hp l⟩
      | lst r l => exact ⟨_, _, rfl, .inl (by rw [← hK]; exact RL.sq A1.ok r), fun p hp => q1 F1 H1 e1 p _ hp l⟩
      | _ => exact (show False from q1).elim) (fun _ _ z => z) q⟩
theorem re_disp {es : List Expr} {n : N (List D)} (h : PA X es (aV G S n)) : PE X (.List es pos) (rV G S (n.bind fun xs => (N.le1 xs).bind fun _ => .ok xs)) :=
  PE.imp (pe_lst h) fun σ H Q ⟨F, A, q⟩ => ⟨F, A, n.mono (fun xs q1 vs F1 H1 e1 r1 => ⟨by rw [r1.length]; exact q1.1, fun p hp => q1.2 F1 H1 e1 p vs hp r1⟩) (fun _ _ z => z) q⟩
end
def N.compR {α : Type} (t : α → N Bool) (f : α → N (List D)) : List α → N (List (List D))
  | [] => .ok []
  | x :: xs => (N.ne (t x)).bind fun b => if b = true then (N.ne (f x)).bind fun y => (N.compR t f xs).bind fun ys => .ok (y :: ys) else N.compR t f xs
/-- the rows so far: at the addresses as, all new since H1 -/
inductive NewR (Z : Zt) (H1 : Hp) (F : Ty) (H : Hp) : List Addr → List (List D) → Prop
  | nil : NewR Z H1 F H [] []
  | cons {a : Addr} {as : List Addr} {vs : List V} {ds : List D} {dss : List (List D)} : H a = some (.lst vs) → F a = none → Frsh H1 a → RpL Z F vs ds → NewR Z H1 F H as dss → NewR Z H1 F H (a :: as) (ds :: dss)
section
variable {Z : Zt} {H1 H H' : Hp} {F F' : Ty}
theorem NewR.keep (e : Ex F F') : ∀ {as : List Addr} {dss : List (List D)}, NewR Z H1 F H as dss → (∀ a ∈ as, H' a = H a ∧ F' a = F a) → NewR Z H1 F' H' as dss
  | _, _, .nil, _ => .nil
  | _, _, .cons h1 h2 h3 r l, k => by
    obtain ⟨k1, k2⟩ := k _ List.mem_cons_self
    exact .cons (by rw [k1]; exact h1) (by rw [k2]; exact h2) h3 (r.ex e) (NewR.keep e l fun a ha => k a (List.mem_cons_of_mem _ ha))
theorem NewR.ext (e : Ext F H F' H') : ∀ {as : List Addr} {dss : List (List D)}, NewR Z H1 F H as dss → NewR Z H1 F' H' as dss
  | _, _, .nil => .nil
  | _, _, .cons h1 h2 h3 r l => by
    obtain ⟨k1, k2⟩ := ext_lst e h2 h1
    exact .cons k2 k1 h3 (r.ex e.ex) (NewR.ext e l)
theorem NewR.snoc {a : Addr} {vs : List V} {ds : List D} (h1 : H a = some (.lst vs)) (h2 : F a = none) (h3 : Frsh H1 a) (r : RpL Z F vs ds) : ∀ {as : List Addr} {dss : List (List D)}, NewR Z H1 F H as dss → NewR Z H1 F H (as ++ [a]) (dss ++ [ds])
  | _, _, .nil => .cons h1 h2 h3 r .nil
  | _, _, .cons g1 g2 g3 g l => .cons g1 g2 g3 g (NewR.snoc h1 h2 h3 r l)
theorem NewR.at_ {a : Addr} : ∀ {as : List Addr} {dss : List (List D)}, NewR Z H1 F H as dss → a ∈ as → Frsh H1 a ∧ F a = none ∧ ∃ w, H a = some (.lst w)
  | _, _, .cons h1 h2 h3 r l, h => by
    rcases List.mem_cons.mp h with z | z
    · subst z; exact ⟨h3, h2, _, h1⟩
    · exact NewR.at_ l z
theorem NewR.rows {Bh : Hp} (hb : ∀ a, F a = none → Frsh H1 a → Frsh Bh a) : ∀ {as : List Addr} {dss : List (List D)}, NewR Z H1 F H as dss → Rows Z Bh F H (as.map .ref) dss
  | _, _, .nil => .nil
  | _, _, .cons h1 h2 h3 r l => .cons ⟨_, _, rfl, h1, h2, hb _ h2 h3, r⟩ (NewR.rows hb l)
theorem NewR.length : ∀ {as : List Addr} {dss : List (List D)}, NewR Z H1 F H as dss → as.length = dss.length
  | _, _, .nil => rfl
  | _, _, .cons _ _ _ _ l => by rw [List.length_cons, List.length_cons, NewR.length l]
end
section
variable {X : Cx} {G : Gx} {S : List Sl} {pos : Pos} {tg iter elt : Expr} {ifs : List Expr} {scope : Scope} {own : List (Str × Nat)} {n : N (List D)} {P : Type} {dec : D → Option P} {sa : List Sl → P → List Sl} {g : TG} {tn : P → N Bool} {fn : P → N (List D)} {m : Nat}
def TRg (G : Gx) (m : Nat) (S : List Sl) (js : List Nat) (sa : List Sl → P → List Sl) (fn : P → N (List D)) : TE := fun σ H Q => ∃ y : P, rV (G.in m) (sa (wipeS S js) y) (fn y) σ H Q
def CWr (G : Gx) (F1 : Ty) (H1 : Hp) (Dl : Addr) (tn : P → N Bool) (fn : P → N (List D)) (K : List (List D) → Prop) (Er : Nat → D → Prop) (i : Nat) (xs : List P) : Hp → Prop := fun H => ∃ F as dss, Ext F1 H1 F H ∧ F Dl = none ∧ H Dl = some (.lst (as.map V.ref)) ∧ NewR G.Z H1 F H as dss ∧ (Dl :: as).Nodup ∧
  dss.length ≤ i ∧ (N.compR tn fn xs).wp (fun ys => K (dss ++ ys)) Er
def N.lrG (n : N (List D)) (dec : D → Option P) (tn : P → N Bool) (fn : P → N (List D)) : N (List (List D)) := n.bind fun ds => (N.decs dec ds).bind fun ps => (N.fits ps).bind fun _ => N.compR tn fn ps
theorem refs_map : ∀ as : List Addr, ((as.map V.ref).filterMap fun v => match v with | .ref a => some a | _ => none) = as
  | [] => rfl
  | a :: as => by rw [List.map_cons, List.filterMap_cons]; simp only [refs_map as]
variable {τ β : Type} {sl : τ → List Sl} {sb : β → List Sl}
/-- y = [.. for tg in iter if ..], each item a new list -/
theorem ds_rows {i : Nat} {y : Str} {py pos' : Pos} (hc : X.calm = true) (hN : X.N.Nodup) (hs : Src X G S tg iter n) (hp : Pat G (own.map fun x : Str × Nat => x.2) dec sa g) (hy : X.N[i]? = some y) (hyl : X.env.scope.names.lookup y = some .local) (hkind : X.env.scope.kind = .function) (hl : (py.line == pos'.line) = true)
    (hany : (scope.names.any fun (n, k) => n == y && (k == .local || k == .cell)) = false) (ok : BlkOk X.N X.env.scope scope own)
    (hg : ∀ s H C cl fp, PG (X.blk s H scope (compEnvC scope cl C X.env) fp) tg g)
    (ht : ∀ s H C cl fp (y : P), PTs (X.blk s H scope (compEnvC scope cl C X.env) fp) ifs (tV (G.in m) (sa (wipeS S (own.map fun x : Str × Nat => x.2)) y) (tn y)))
    (he : ∀ s H C cl fp (y : P), PE (X.blk s H scope (compEnvC scope cl C X.env) fp) elt (rV (G.in m) (sa (wipeS S (own.map fun x : Str × Nat => x.2)) y) (fn y))) :
    PS X (.Assign [.Name y py] (.ListComp elt [⟨tg, iter, ifs, 0⟩] scope pos') pos) (sV G S (fun d => S.set i (.own (.rows d))) sb ((N.lrG n dec tn fn).bind fun d => .ok (.nx d))) := by
  obtain ⟨wi, hi, hw⟩ := hs.ex
  refine PS.imp (ps_setLc (own := own) (g := g) (tt := TTg G m S (own.map fun x : Str × Nat => x.2) sa tn) (te := TRg G m S (own.map fun x : Str × Nat => x.2) sa fn) hc hN hy hyl (sw_true hkind hyl hl hany) hi ok hg (fun s H C cl fp => PTs.ex fun v : P => ht s H C cl fp v) (fun s H C cl fp => PE.ex fun v : P => he s H C cl fp v) hs.fo) fun E σ H ⟨F, A, q⟩ => ?_
  have js : List Nat := own.map fun x : Str × Nat => x.2
  refine hw σ H _ ⟨F, A, n.mono (fun ds q1 F1 H1 e1 J wk => ?_) (fun _ _ z => z) q⟩
  have A1 := A.go e1
  let K : List (List D) → Prop := fun dss => flP G F (fun d => S.set i (.own (.rows d))) sb E (.nx dss)
  replace q1 : (N.decs dec ds).wp (fun ps => ((N.fits ps).bind fun _ => N.compR tn fn ps).wp K G.Er) G.Er := q1
  unfold N.decs at q1
  split at q1
  · rename_i ps hd
    obtain ⟨hz, q1⟩ := q1
    have hlen := decAll_len hd
    intro Dl hD
    refine ⟨fun i m H' => m = ps.length - i ∧ i ≤ ps.length ∧ CWr G F1 H1 Dl tn fn K G.Er i (ps.drop i) H', ⟨ps.length, by simp, Nat.zero_le _, F1, [], [], Ext.own A1.ok hD, A1.ok.none hD, upd_same, .nil, by simp, Nat.zero_le _, q1⟩, ?_⟩
    rintro j k H' ⟨rfl, hj, cw⟩
    obtain ⟨F', as, dss, e', hF', hA', r', nd', hl', q'⟩ := id cw
    by_cases hlt : j < ps.length
    · obtain ⟨d, hdi, hdec⟩ := decAll_get hd (List.getElem?_eq_getElem hlt)
      obtain ⟨go, yld⟩ := (wk F' H' ⟨e'.ex, e'.ok⟩ j).1 d hdi
      refine .inr ⟨go, CWr G F1 H1 Dl tn fn K G.Er (j + 1) (ps.drop (j + 1)), fun H2 nx => ⟨_, by omega, rfl, hlt, nx⟩, fun x H2 hy => ?_⟩
      obtain ⟨F2, e2, rx⟩ := yld x H2 hy
      obtain ⟨hF2, hA2⟩ := ext_lst e2 hF' hA'
      rw [List.drop_eq_getElem_cons hlt] at q'
      refine hp.run _ _ _ _ x d _ _ (((A1.go e').go e2).wipe _) rx hdec fun σ2 hw2 A2 => ⟨hw2.trans (hp.ind σ), ?_⟩
      refine ⟨_, F2, A2, (tn _).mono (fun b q2 F3 H3 e3 => ?_) (fun _ _ z => z.elim) q'⟩
      obtain ⟨hF3, hA3⟩ := ext_lst e3 hF2 hA2
      cases b with
      | false => exact ⟨F3, as, dss, (e'.trans e2).trans e3, hF3, hA3, (r'.ext e2).ext e3, nd', by omega, q2⟩
      | true =>
        refine ⟨_, F3, A2.go e3, (fn _).mono (fun zs q3 F4 H4 e4 p vs np rp => ?_) (fun _ _ z => z.elim) q2⟩
        obtain ⟨hF4, hA4⟩ := ext_lst e4 hF3 hA3
        have pD : p ≠ Dl := fun z => by subst z; rw [np] at hA4; cases hA4
        have r4 := ((r'.ext e2).ext e3).ext e4
        have nas : p ∉ as := fun z => by obtain ⟨_, _, w, hw⟩ := r4.at_ z; rw [np] at hw; cases hw
        have all := ((e'.trans e2).trans e3).trans e4
        have np1 : Frsh H1 p := fun o z => by
          cases o with
          | tbl q => exact ⟨q, rfl⟩
          | _ =>
            obtain ⟨o2, h2⟩ := all.live z fun q y => by cases y
            rw [np] at h2; cases h2
        have e5 := Ext.own (o := .lst vs) e4.ok np
        have hA5 : upd H4 p (.lst vs) Dl = some (.lst (as.map V.ref)) := by rw [upd_ne pD.symm]; exact hA4
        refine ⟨_, hA5, by rw [List.length_map, r'.length]; omega, F4, as ++ [p], dss ++ [zs], ext_put (all.trans e5) hD hF4 hA5, hF4, by rw [upd_same, List.map_append]; rfl, ?_, ?_, by rw [List.length_append, List.length_singleton]; omega, (N.compR tn fn (ps.drop (j + 1))).mono (fun ys z => by rw [List.append_assoc]; exact z) (fun _ _ z => z) q3⟩
        · refine NewR.snoc (vs := vs) (by rw [upd_ne pD, upd_same]) (e4.ok.none np) np1 rp (r4.keep (Ex.refl _) fun a ha => ⟨?_, rfl⟩)
          have : a ≠ Dl := fun z => by subst z; exact (List.nodup_cons.mp nd').1 ha
          rw [upd_ne this, upd_ne (fun z => nas (by rw [← z]; exact ha))]
        · have := List.nodup_cons.mp nd'
          refine List.nodup_cons.mpr ⟨fun z => ?_, List.nodup_append.mpr ⟨this.2, by simp, fun a ha b hb => by rw [List.mem_singleton.mp hb]; exact fun z => nas (by rw [← z]; exact ha)⟩⟩
          rcases List.mem_append.mp z with z | z
          · exact this.1 z
          · exact pD (List.mem_singleton.mp z).symm
    · have ej : j = ps.length := by omega
      subst ej
      refine .inl ⟨(wk F' H' ⟨e'.ex, e'.ok⟩ ps.length).2 (by rw [hlen]; exact Nat.le_refl _), ?_⟩
      rw [List.drop_length] at q'
      have q2 : K (dss ++ []) := q'
      rw [List.append_nil] at q2
      have fpe : fpU Dl (.lst (as.map V.ref)) (.rows dss) = Dl :: as := by
        exact congrArg (List.cons Dl) (refs_map as)
      have A2 := A1.newOwnX (i := i) (p := Dl) (c := .rows dss) (u := .lst (as.map V.ref)) e' hA' (fun a ha => by
        rw [fpe] at ha
        rcases List.mem_cons.mp ha with z | z
        · subst z; exact frsh_none hD
        · exact (r'.at_ z).1) hF' ⟨_, rfl, r'.rows fun a hf ha => A1.freshX ha (ex_none e'.ex hf), by rw [fpe]; exact nd'⟩
      exact q2 F' _ H' (e1.ex.trans e'.ex) A2
  · exact (show False from q1).elim
end
end M

set_option Elab.async false
set_option linter.all false
set_option maxRecDepth 100000
set_option maxHeartbeats 2000000
namespace M
open PySem L2
section
variable {X : Cx} {G : Gx} {S : List Sl} {a b c e : Expr} {na nb : N D} {pos : Pos} {τ β : Type} {sl : τ → List Sl} {sb : β → List Sl}
theorem ds_brkW (t : β) (h : Wk S (sb t)) : PS X (.Break pos) (sV G S sl sb (.ok (.bk t))) := PS.imp ps_break fun E σ H ⟨F, A, q⟩ => q F σ H (Ex.refl F) (A.weak h)
/-- an int of the module -/
theorem de_gint {x : Str} {n : Int} (hm : ∃ t, X.mg x = some (.int n t)) (hg : Gl X x := by rfl) (hdb : (x == ("__debug__" : Str)) = false := by decide) : PE X (.Name x pos) (eV G S (.ok (.int n))) := by
  obtain ⟨t, hm⟩ := hm
  exact de_c (pe_glob (v := .int n) hg hm ⟨t, rfl⟩ hdb) fun _ => .int _
/-- e in x, x a list of our own -/
theorem inO_run {i : Nat} {ds : List D} (hK : G.Z.K = X.K) (hi : S[i]? = some (.own (.lst ds))) {σ : St} {H : Hp} {Q : VK} (h : eV G S (na.bind fun d => dInD d (.lst ds)) σ H Q) : tOp (rInDD X.K false) (eV G S na) (tVar i) σ H Q := by
  obtain ⟨F, A, q⟩ := h
  refine ⟨F, A, na.mono (fun d q1 v F1 H1 e1 r1 => ?_) (fun _ _ z => z) q⟩
  obtain ⟨l, vs, e, hu, nF, r⟩ := own_at hi A
  obtain ⟨hF1, hu1⟩ := ext_lst e1 nF hu
  refine ⟨.ref l, e, ?_⟩
  have q1 : (pIn d (.lst ds)).wp (fun b => ∀ v F' H', Ext F H F' H' → Rp G.Z F' v (.bl b) → Q v H') G.Er := q1
  rw [← hK]
  unfold pIn at q1
  cases hx : toPy d with
  | none => simp only [hx] at q1; exact q1.elim
  | some p =>
    cases hy : toPys ds with
    | none => simp only [hx, items, hy] at q1; exact q1.elim
    | some ps =>
      simp only [hx, items, hy] at q1
      exact ⟨p, ps, dp_of (A.go e1).ok r1 hx, .inl (.lst (SqL.of hu1) (dps_of (A.go e1).ok (r.ex e1.ex) hy)), q1.1.1, q1.1.2, q1.2 _ F1 H1 e1 (.bl _)⟩
theorem dt_inO {i : Nat} {x : Str} {px : Pos} {ds : List D} {k : Nat} (hr : Room k X.A) (hK : G.Z.K = X.K) (hi : S[i]? = some (.own (.lst ds))) (hN : X.N[i]? = some x) (ha : PE X a (eV G S na)) (hv : Vis X.env.scope x := by first | exact Or.inl rfl | exact Or.inr (Or.inl rfl) | exact Or.inr (Or.inr rfl))
    (hd : (x == ("__debug__" : Str)) = false := by decide) (hcd : (x == ("__classdict__" : Str)) = false := by decide) (hm : behindInMarks .In (.Name x px) = false := by rfl) : PT X (.Compare a [.In] [.Name x px] pos) (tV G S ((na.bind fun d => dInD d (.lst ds)).bind N.tst)) :=
  PT.imp (pt_cmpR (op_inDD hr (room65 hr)) ha (pe_var (i := i) hN hv hd hcd) hm) fun σ H Q h => inO_run hK hi (tst_run (na := na.bind fun d => dInD d (.lst ds)) h)
theorem de_inO {i : Nat} {x : Str} {px : Pos} {ds : List D} {k : Nat} (hr : Room k X.A) (hK : G.Z.K = X.K) (hi : S[i]? = some (.own (.lst ds))) (hN : X.N[i]? = some x) (ha : PE X a (eV G S na)) (hv : Vis X.env.scope x := by first | exact Or.inl rfl | exact Or.inr (Or.inl rfl) | exact Or.inr (Or.inr rfl))
    (hd : (x == ("__debug__" : Str)) = false := by decide) (hcd : (x == ("__classdict__" : Str)) = false := by decide) (hm : behindInMarks .In (.Name x px) = false := by rfl) : PE X (.Compare a [.In] [.Name x px] pos) (eV G S (na.bind fun d => dInD d (.lst ds))) :=
  PE.imp (pe_cmpR (op_inDD hr (room65 hr)) ha (pe_var (i := i) hN hv hd hcd) hm) fun σ H Q h => inO_run hK hi h
/-- x = [..], to be changed -/
theorem ds_newLs {i : Nat} {x : Str} {pos' pl : Pos} {es : List Expr} {n : N (List D)} (hN : X.N.Nodup) (ha : PA X es (aV G S n)) (hi : X.N[i]? = some x := by rfl) (hx : Loc X.env.scope x := by first | exact Or.inl rfl | exact Or.inr rfl) (hs : swapsWith (.List es pl) (some (.Name x pos')) pos.line X.env = pure false := by rfl)
    (hf : X.fn x = true ∨ X.env.scope.names.lookup x = some .local := by first | exact .inl rfl | exact .inr rfl) :
    PS X (.Assign [.Name x pos'] (.List es pl) pos) (sV G S (fun ds : List D => S.set i (.own (.lst ds))) sb (n.bind fun ds => (N.le1 ds).bind fun _ => .ok (.nx ds))) :=
  PS.imp (ps_set (i := i) hN hi hx (pe_lst ha) hs hf) fun E σ H ⟨F, A, q⟩ => ⟨F, A, n.mono (fun ds q1 vs F1 H1 e1 r1 => by
    obtain ⟨hz, q1⟩ := q1
    exact ⟨by rw [r1.length]; exact hz, fun p hp => q1 F1 _ _ e1.ex ((A.go e1).newOwn hp ⟨vs, rfl, r1⟩)⟩) (fun _ _ z => z) q⟩
/-- x = list(e), to be changed -/
theorem ds_listO {i : Nat} {x : Str} {pos' p pc : Pos} (hK : G.Z.K = X.K) (hN : X.N.Nodup) (hm : X.mg "list" = none) (ha : PE X a (eV G S na)) (hi : X.N[i]? = some x := by rfl) (hx : Loc X.env.scope x := by first | exact Or.inl rfl | exact Or.inr rfl) (hs : swapsWith (.Call (.Name "list" p) [a] [] pc) (some (.Name x pos')) pos.line X.env = pure false := by rfl)
    (hf : X.fn x = true ∨ X.env.scope.names.lookup x = some .local := by first | exact .inl rfl | exact .inr rfl) (hg : Gl X "list" := by rfl) (he : starEach (a :: []) X.env = (false, eval a X.env) :: starEach [] X.env := by rfl) (hpl : (backTo pc (starEach [] X.env)).any (·.1) = false := by rfl) :
    PS X (.Assign [.Name x pos'] (.Call (.Name "list" p) [a] [] pc) pos) (sV G S (fun ds : List D => S.set i (.own (.lst ds))) sb (na.bind fun d => (seqOf d).bind fun ds => .ok (.nx ds))) :=
  PS.imp (ps_set (i := i) hN hi hx (re_list hK hm ha hg he hpl) hs hf) fun E σ H ⟨F, A, q⟩ => ⟨F, A, na.mono (fun d q1 => (seqOf d).mono (fun ds q2 F1 H1 e1 p vs hp r => q2 F1 _ _ e1.ex ((A.go e1).newOwn hp ⟨vs, rfl, r⟩)) (fun _ _ z => z) q1) (fun _ _ z => z) q⟩
/-- a, b = [..], e : the first one a list to be changed -/
theorem ds_parLs {i j : Nat} {x y : Str} {px py pt pl : Pos} {kt k2 pt2} {es : List Expr} {n : N (List D)} (hc : X.calm = true) (hN : X.N.Nodup) (ha : PA X es (aV G S n)) (hb : PE X b (eV G S nb)) (hi : X.N[i]? = some x) (hj : X.N[j]? = some y) (hij : i ≠ j)
    (hx : X.env.scope.names.lookup x = some .local) (hy : X.env.scope.names.lookup y = some .local) (hw : swappedStores [.Tuple [.Name x px, .Name y py] kt pt] (.Tuple [.List es pl, b] k2 pt2) X.env = pure (some [x, y]) := by rfl)
    (hs : swapsWithSole [.Tuple [.Name x px, .Name y py] kt pt] (.Tuple [.List es pl, b] k2 pt2) pos.line X.env = pure false := by rfl) (he : starEach (.List es pl :: b :: []) X.env = (false, eval (.List es pl) X.env) :: starEach [b] X.env := by rfl)
    (he2 : starEach (b :: []) X.env = (false, eval b X.env) :: starEach [] X.env := by rfl) :
    PS X (.Assign [.Tuple [.Name x px, .Name y py] kt pt] (.Tuple [.List es pl, b] k2 pt2) pos) (sV G S (fun t : List D × D => (S.set i (.own (.lst t.1))).set j (.dat t.2)) sb (n.bind fun ds => (N.le1 ds).bind fun _ => nb.bind fun d => .ok (.nx (ds, d)))) :=
  PS.imp (ps_par hc hN hi hj hij hx hy (pa_cons (pe_lst ha) (pa_cons hb pa_nil he2) he) hw hs) fun E σ H ⟨F, A, q⟩ => ⟨F, A, n.mono (fun ds q1 vs F1 H1 e1 r1 => by
    obtain ⟨hz, q1⟩ := q1
    refine ⟨by rw [r1.length]; exact hz, fun p hp => ?_⟩
    have A1 := A.go e1
    have e2 := Ext.own (o := .lst vs) A1.ok hp
    refine ⟨F1, A1.go e2, nb.mono (fun d q2 u F3 H3 e3 r3 => ⟨.ref p, u, rfl, ?_⟩) (fun _ _ z => z) q1⟩
    obtain ⟨hF3, hA3⟩ := ext_lst e3 (A1.ok.none hp) upd_same
    have A3 := A1.newOwnX (i := i) (p := p) (c := .lst ds) (u := .lst vs) (e2.trans e3) hA3 (fun a ha => by
      have : a = p := by simpa [fpU] using ha
      subst this; exact frsh_none hp) hF3 ⟨vs, rfl, r1.ex e3.ex⟩
    have q3 : ∀ F' σ' H', Ex F F' → At G.Z G.B ((S.set i (.own (.lst ds))).set j (.dat d)) F' σ' H' → E.nx σ' H' := q2
    exact q3 F3 _ H3 ((e1.ex.trans e2.ex).trans e3.ex) (A3.set r3)) (fun _ _ z => z) q⟩
/-- a, b = e, f where names are captured: a tuple is made and unpacked -/
theorem ds_parT {i j : Nat} {x y : Str} {px py pt : Pos} {kt k2 pt2} (hc : X.calm = true) (hK : G.Z.K = X.K) (hN : X.N.Nodup) (hi : X.N[i]? = some x) (hj : X.N[j]? = some y) (hij : i ≠ j) (ha : PE X a (eV G S na)) (hb : PE X b (eV G S nb))
    (hx : Loc X.env.scope x := by first | exact Or.inl rfl | exact Or.inr rfl) (hy : Loc X.env.scope y := by first | exact Or.inl rfl | exact Or.inr rfl) (hfx : X.fn x = true ∨ X.env.scope.names.lookup x = some .local := by first | exact .inl rfl | exact .inr rfl) (hfy : X.fn y = true ∨ X.env.scope.names.lookup y = some .local := by first | exact .inl rfl | exact .inr rfl)
    (h1 : starEach (a :: b :: []) X.env = (false, eval a X.env) :: starEach [b] X.env := by rfl) (h2 : starEach (b :: []) X.env = (false, eval b X.env) :: starEach [] X.env := by rfl)
    (hs : swapsWithSole [.Tuple [.Name x px, .Name y py] kt pt] (.Tuple [a, b] k2 pt2) pos.line X.env = pure false := by rfl) (hw : swappedStores [.Tuple [.Name x px, .Name y py] kt pt] (.Tuple [a, b] k2 pt2) X.env = pure none := by rfl)
    (h3 : (assignEach [.Tuple [.Name x px, .Name y py] kt pt] X.env).map (·.2) = [assign (.Tuple [.Name x px, .Name y py] kt pt) X.env] := by rfl)
    (hn : (assignEach [.Name x px, .Name y py] X.env).length = 2 := by rfl) (hst : (assignEach [.Name x px, .Name y py] X.env).findIdx? (·.1) = none := by rfl) :
    PS X (.Assign [.Tuple [.Name x px, .Name y py] kt pt] (.Tuple [a, b] k2 pt2) pos) (sV G S (fun t : D × D => (S.set i (.dat t.1)).set j (.dat t.2)) sb (na.bind fun x => nb.bind fun y => .ok (.nx (x, y)))) :=
  PS.imp (ps_asg (pe_tup (pa_cons ha (pa_cons hb pa_nil h2) h1)) (pg_tup (n := 2) hc (pgs_cons (pg_name (i := i) hN hi hx hfx) (pgs_cons (pg_name (i := j) hN hj hy hfy) pgs_nil)) hn hst) hs hw h3) fun E σ H ⟨F, A, q⟩ => ⟨F, A, na.mono (fun x q1 v F1 H1 e1 r1 => ⟨F1, A.go e1, nb.mono (fun y q2 u F2 H2 e2 r2 => by
    refine ⟨by show 2 ≤ sizeLine; decide, fun p hp => ?_⟩
    have A2 := (A.go e1).go e2
    have e3 : Ext F2 H2 (updT F2 p (is (.tup [v, u]))) (upd H2 p (.tup [v, u])) := Ext.new A2.ok hp rfl
    have q3 : ∀ F' σ' H', Ex F F' → At G.Z G.B ((S.set i (.dat x)).set j (.dat y)) F' σ' H' → E.nx σ' H' := q2
    refine ⟨p, [v, u], rfl, SqT.of upd_same, rfl, v, [u], rfl, u, [], rfl, rfl, q3 _ _ _ ((e1.ex.trans e2.ex).trans e3.ex) (((A2.go e3).set (r1.ex (e2.ex.trans e3.ex))).set (r2.ex e3.ex))⟩) (fun _ _ z => z) q1⟩) (fun _ _ z => z) q⟩
end
end M

set_option Elab.async false
set_option linter.all false
set_option maxRecDepth 100000
set_option maxHeartbeats 2000000
namespace M
open PySem L2
section
variable {X : Cx} {G : Gx} {S : List Sl} {a b c e : Expr} {na nb : N D} {pos : Pos}
theorem de_isN (ha : PE X a (eV G S na)) (hb : PE X b (eV G S nb)) (hm : behindInMarks .Is b = false := by exact nomark _) : PE X (.Compare a [.Is] [b] pos) (eV G S (na.bind fun x => nb.bind fun y => dIsN x y)) := de_cmp op_isN r2_IsN dIsN_tot ha hb hm
theorem de_notN (ha : PE X a (eV G S na)) (hb : PE X b (eV G S nb)) (hm : behindInMarks .IsNot b = false := by exact nomark _) : PE X (.Compare a [.IsNot] [b] pos) (eV G S (na.bind fun x => nb.bind fun y => dNotN x y)) := de_cmp op_notN r2_NotN dNotN_tot ha hb hm
theorem dt_isN (ha : PE X a (eV G S na)) (hb : PE X b (eV G S nb)) (hm : behindInMarks .Is b = false := by exact nomark _) : PT X (.Compare a [.Is] [b] pos) (tV G S ((na.bind fun x => nb.bind fun y => dIsN x y).bind N.tst)) := dt_cmp op_isN r2_IsN dIsN_tot ha hb hm
theorem dt_notN (ha : PE X a (eV G S na)) (hb : PE X b (eV G S nb)) (hm : behindInMarks .IsNot b = false := by exact nomark _) : PT X (.Compare a [.IsNot] [b] pos) (tV G S ((na.bind fun x => nb.bind fun y => dNotN x y).bind N.tst)) := dt_cmp op_notN r2_NotN dNotN_tot ha hb hm
theorem dt_din {k : Nat} (hr : Room k X.A) (ha : PE X a (eV G S na)) (hb : PE X b (eV G S nb)) (hm : behindInMarks .In b = false := by rfl) : PT X (.Compare a [.In] [b] pos) (tV G S ((na.bind fun x => nb.bind fun y => dinB false x y).bind N.tst)) := dt_cmp (op_din (un1 hr)) (r2_din false) (dinB_tot false) ha hb hm
end
/-- within a comprehension nothing is raised -/
theorem takes_no {X : Cx} : Takes X (fun _ _ _ _ => False) := fun _ _ ⟨_, _, _, _, _, _, _, _, _, _, _, _, _, _, _, _, w⟩ => w.elim
section
variable {X : Cx} {G : Gx} {S : List Sl} {a b c d e : Expr} {na nb nc nd ne : N D} {pos : Pos}
theorem de_call4 {m : D → D → D → D → N D} {x : Str} {p : Pos} (C : Cal X G x 4 (app4 m)) (tk : Takes X G.W) (hw : Wk S G.Se) (ha : PE X a (eV G S na)) (hb : PE X b (eV G S nb)) (hc : PE X c (eV G S nc)) (hd : PE X d (eV G S nd)) (hg : Gl X x := by rfl) (hdb : (x == ("__debug__" : Str)) = false := by decide)
    (h1 : starEach [a, b, c, d] X.env = (false, eval a X.env) :: starEach [b, c, d] X.env := by rfl) (h2 : starEach [b, c, d] X.env = (false, eval b X.env) :: starEach [c, d] X.env := by rfl) (h3 : starEach [c, d] X.env = (false, eval c X.env) :: starEach [d] X.env := by rfl) (h4 : starEach [d] X.env = (false, eval d X.env) :: starEach [] X.env := by rfl)
    (hpl : (backTo pos (starEach [b, c, d] X.env)).any (·.1) = false := by rfl) :
    PE X (.Call (.Name x p) [a, b, c, d] [] pos) (eV G S (na.bind fun x => nb.bind fun y => nc.bind fun z => nd.bind fun u => m x y z u)) :=
  de_callL C tk hw (da_cons ha (da_cons hb (da_cons hc (da_cons hd da_nil h4) h3) h2) h1) hg hdb h1 hpl
theorem de_call5 {m : D → D → D → D → D → N D} {x : Str} {p : Pos} (C : Cal X G x 5 (app5 m)) (tk : Takes X G.W) (hw : Wk S G.Se) (ha : PE X a (eV G S na)) (hb : PE X b (eV G S nb)) (hc : PE X c (eV G S nc)) (hd : PE X d (eV G S nd)) (he : PE X e (eV G S ne)) (hg : Gl X x := by rfl) (hdb : (x == ("__debug__" : Str)) = false := by decide)
    (h1 : starEach [a, b, c, d, e] X.env = (false, eval a X.env) :: starEach [b, c, d, e] X.env := by rfl) (h2 : starEach [b, c, d, e] X.env = (false, eval b X.env) :: starEach [c, d, e] X.env := by rfl) (h3 : starEach [c, d, e] X.env = (false, eval c X.env) :: starEach [d, e] X.env := by rfl) (h4 : starEach [d, e] X.env = (false, eval d X.env) :: starEach [e] X.env := by rfl)
    (h5 : starEach [e] X.env = (false, eval e X.env) :: starEach [] X.env := by rfl) (hpl : (backTo pos (starEach [b, c, d, e] X.env)).any (·.1) = false := by rfl) :
    PE X (.Call (.Name x p) [a, b, c, d, e] [] pos) (eV G S (na.bind fun x => nb.bind fun y => nc.bind fun z => nd.bind fun u => ne.bind fun v => m x y z u v)) :=
  de_callL C tk hw (da_cons ha (da_cons hb (da_cons hc (da_cons hd (da_cons he da_nil h5) h4) h3) h2) h1) hg hdb h1 hpl
end
/-- the text of an int, of None, of a tuple -/
def showP (p : PyData) : Prop := p.showable = true ∧ p.hasDict = false ∧ p.depth ≤ 64 ∧ p.shown.length ≤ sizeLine
def dReprP (d : D) : N D := match toPy d with
  | some p => (N.asrt (showP p)).bind fun _ => .ok (.str p.shown)
  | none => .stuck
def dRepr : D → N D
  | .int i => (N.asrt (i.natAbs.log2 < 1920)).bind fun _ => .ok (.str (Str.ofString (toString i)))
  | .non => .ok (.str "None")
  | .tup xs => dReprP (.tup xs)
  | .ktup xs => dReprP (.ktup xs)
  | _ => .stuck
def rRepr (K : PySem.W.Frag) : List V → Hp → VK → Prop := fun xs H Q => (∃ i : Int, xs = [.int i] ∧ i.natAbs.log2 < 1920 ∧ Q (.str (toString i)) H) ∨ (xs = [.non] ∧ Q (.str "None") H) ∨ ∃ a p, xs = [.ref a] ∧ Dp K H (.ref a) p ∧ showP p ∧ Q (.str p.shown) H
section
variable {X : Cx} {G : Gx} {S : List Sl} {a b c e : Expr} {na nb : N D} {pos : Pos}
theorem cr_repr {k : Nat} (hr : Room k X.A) (hg : X.A.guards = some []) : CallR X (.builtin "repr") (rRepr X.K) := by
  intro pins s σ H xs us Q I r h
  rcases h with ⟨i, rfl, hz, q⟩ | ⟨rfl, q⟩ | ⟨a, p, rfl, dp, ⟨h1, h2, h3, h4⟩, q⟩
  · obtain ⟨u, rfl, t, rfl⟩ := vals1 r
    exact PySem.P.repr_of_int hz ⟨.str _, H, I.tok _, ⟨_, rfl⟩, q⟩
  · obtain ⟨u, rfl, ru⟩ := vals1 r
    obtain rfl : u = Value.none := ru
    exact PySem.P.repr_of_none ⟨.str _, H, I.tok _, ⟨_, rfl⟩, q⟩
  · obtain ⟨u, rfl, ru⟩ := vals1 r
    obtain ⟨as, rd⟩ := Dp.reads I _ _ _ dp ru
    obtain rfl : u = Value.ref a := ru
    have hu := hr.un
    exact PySem.repr_of_reads' rd h1 (fun z => by rw [h2] at z; cases z) hg (by omega) (fun _ _ e => e) (fun h' u tk hk => ⟨.str _, H, I.kept hk, ⟨_, rfl⟩, q⟩) h4
theorem dReprP_tot (x : D) : Tot (dReprP x) := by
  unfold dReprP
  repeat (first | exact (Tot.asrt _).bind fun _ => Tot.ok _ | exact Tot.stuck | split)
theorem dRepr_tot (x : D) : Tot (dRepr x) := by
  unfold dRepr
  repeat (first | exact Tot.ok _ | exact dReprP_tot _ | exact (Tot.asrt _).bind fun _ => Tot.ok _ | exact Tot.stuck | split)
theorem de_repr {k : Nat} {p : Pos} (hgd : X.A.guards = some []) (hr : Room k X.A) (hK : G.Z.K = X.K) (hm : X.mg "repr" = none) (ha : PE X a (eV G S na)) (hg : Gl X "repr" := by rfl) (he : starEach (a :: []) X.env = (false, eval a X.env) :: starEach [] X.env := by rfl) (hpl : (backTo pos (starEach [] X.env)).any (·.1) = false := by rfl) :
    PE X (.Call (.Name "repr" p) [a] [] pos) (eV G S (na.bind dRepr)) := de_b1 (cr_repr hr hgd) (fun F H xs vs Q ok l q => by
  obtain ⟨v, d, rfl, rfl, r, q⟩ := one_of l q
  have tp : ∀ {d : D}, Rp G.Z F v d → (∃ a, v = .ref a) → (dReprP d).wp (fun d => ∀ v' F' H', Ext F H F' H' → Rp G.Z F' v' d → Q v' H') (fun _ _ => False) → rRepr X.K [v] H Q := fun {d} r ⟨a, e⟩ q => by
    unfold dReprP at q
    split at q
    · rename_i p hp
      have dp := dp_of (G := G) ok r hp
      subst e
      exact .inr (.inr ⟨a, p, rfl, by rw [← hK]; exact dp, q.1, q.2 _ F H (Ext.refl ok) (.str _)⟩)
    · exact q.elim
  unfold dRepr at q
  split at q
  · rw [rp_int r]; exact .inl ⟨_, rfl, q.1, q.2 _ F H (Ext.refl ok) (.str _)⟩
  · rw [rp_non r]; exact .inr (.inl ⟨rfl, q _ F H (Ext.refl ok) (.str _)⟩)
  · refine tp r ?_ q; cases r; exact ⟨_, rfl⟩
  · refine tp r ?_ q; cases r; exact ⟨_, rfl⟩
  · exact (show False from q).elim) dRepr_tot hm (by decide +kernel) ha hg (by decide) (by decide) he hpl
end
def relabel0 (scope sc : Scope) : Scope := { scope with names := scope.names.map fun (n, k) => if (k == .free && sc.kind == .function && sc.names.lookup n == some .cell) then (n, .cell) else (n, k) }
theorem blkOk_in {N : List Str} {s0 scope : Scope} {env : Env} {own : List (Str × Nat)} (sc : Scope) (he : env.scope = sc) (h : blkC N (relabel0 s0 sc) scope own = true) : BlkOk N (relabel s0 env) scope own := by
  subst he
  exact blkOk_by h
/-- what a pop out of a row gives -/
def dPopR {β : Type} (dss : List (List D)) (p : Nat × List D) (d : D) : N (Fl (D × List (List D)) β) := match d with
  | .int z => (match (seqIndex? z p.2.length).bind fun k => (p.2[k]?).map fun w => (k, w) with
    | some kw => (N.asrt (-(2 ^ 63) ≤ z ∧ z < 2 ^ 63)).bind fun _ => .ok (.nx (kw.2, dss.set p.1 (p.2.eraseIdx kw.1)))
    | none => .stuck)
  | _ => .stuck
end M

set_option Elab.async false
set_option linter.all false
set_option maxRecDepth 100000
set_option maxHeartbeats 2000000
namespace M
open PySem L2
open PyProof.Rows (envOfC)
/-! ### a def that is called from outside alone, where no repr is under way -/
structure FnG (P : Program) (w : World) (K : PySem.W.Frag) (mg : Str → Option Value) (base : Heap) (CX : CXT) (k : Nat) (f : Addr) (fd : FuncData) (ps : List Str) (sp : Sp) : Prop where
  run : ∀ (A : Around) (outer : List Env) (s : Shared) (H : Hp) (args : Args) (us : List Value) (vs : List V) (Q : VK) (E : XK), A.guards = some [] → Room k A → Env0 P w K mg base A outer s H → BindsTo s fd args (ps.zip us) → Vals vs us → sp vs H Q E →
    codeAny (model P w) A (.call (.ref f) args) (CR CX outer P w H s Q E) s
section
variable {P : Program} {w : World} {mg : Str → Option Value} {base : Heap}
theorem FnG.imp {K : PySem.W.Frag} {CX : CXT} {k : Nat} {f : Addr} {fd : FuncData} {ps : List Str} {sp sp' : Sp} (F : FnG P w K mg base CX k f fd ps sp) (h : ∀ vs H Q E, sp' vs H Q E → sp vs H Q E) : FnG P w K mg base CX k f fd ps sp' :=
  ⟨fun A outer s H args us vs Q E hg hr he hb hv hs => F.run A outer s H args us vs Q E hg hr he hb hv (h _ _ _ _ hs)⟩
theorem FnOk.g {K : PySem.W.Frag} {CX : CXT} {k : Nat} {f : Addr} {fd : FuncData} {ps : List Str} {sp : Sp} (F : FnOk P w K mg base CX k f fd ps sp) : FnG P w K mg base CX k f fd ps sp :=
  ⟨fun A outer s H args us vs Q E _ hr he hb hv hs => F.run A outer s H args us vs Q E hr he hb hv hs⟩
theorem fn_okCG {Z : Zt} {x qual : Str} {st : Stmt} {f c : Addr} {fd : FuncData} {Nn ps : List Str} {k : Nat} {m : List D → N D} {dvs : List V} (F : FunD Z.K x qual (defArgs st) (defBody st) (defScope st) dvs [] f fd) (S : FnScope Nn ps (defScope st)) (ar : Arity ps.length m)
    (hc : ∀ oc od fd' osl, Z.K.lookup f = some ⟨oc, od, .func fd', osl⟩ → fd'.code = .ref c)
    (hbody : ∀ (A : Around) (outer : List Env) (s : Shared) (H : Hp) (E : XK) (F0 : Ty) (ds : List D), A.guards = some [] → TL Z F0 → Room k (A.deeper (envOfC qual (defScope st) s.heap.objs.size f (.ref c))) → Takes (cxOf (L2.CX P w) P w Z.K mg base Nn qual (defScope st) f (.ref c) A outer s H E) (fun cls d _ H => E cls d H) → ds.length = ps.length →
      ∃ (τ β : Type) (sl : τ → List Sl) (sb : β → List Sl) (nn : N (Fl τ β)), PSs (cxOf (L2.CX P w) P w Z.K mg base Nn qual (defScope st) f (.ref c) A outer s H E) (defBody st) (sV ⟨Z, ⟨F0, H, F0⟩, fun cls d _ H => E cls d H, List.replicate Nn.length .un⟩ (sls ds (Nn.length - ps.length)) sl sb nn) ∧ ∀ k e, (m ds).wp k e → nn.fin.wp k e) :
    FnG P w Z.K mg base (L2.CX P w) (k + 1) f fd ps (spN Z ps.length m) := by
  obtain ⟨oc, od, dV, kV, doc, pm, an, cdv, ct, osl, rfl, lk, hcd, _, _⟩ := F.ex
  have hP : cdv = .ref c := hc _ _ _ _ lk
  subst hP
  refine ⟨fun A outer s H args us vs Q E hg hr e0 hb r h => ?_⟩
  obtain ⟨hl, F0, ds, ok0, t0, r0, q0⟩ := h
  have hd : ds.length = ps.length := ar ds _ _ q0
  refine LamX.run_ofS lk hcd S hr e0 hb r hl fun hr' => ?_
  obtain ⟨τ, β, sl, sb, nn, hps, hq⟩ := hbody A outer s H E F0 ds hg t0 hr' (takes_of rfl rfl rfl rfl) hd
  refine ⟨_, hps, F0, ?_, ?_⟩
  · have := at_start (Z := Z) (Nn := Nn) ok0 t0 r0
    rw [hl] at this
    exact this
  · have q1 := hq _ _ q0
    refine nn.mono (fun f q2 => ?_) (fun c x q2 => ?_) q1
    · cases f with
      | nx t => exact fun F σ H1 _ A => q2 .non F H1 A.ext .non
      | rt d => exact fun v F H1 e1 r1 => q2 v F H1 e1 r1
      | bk t => exact (show False from q2).elim
      | ct t => exact (show False from q2).elim
    · intro cls dd F σ H1 A er
      exact q2 cls dd F H1 A.ext er
end
end M

set_option Elab.async false
set_option linter.all false
set_option maxRecDepth 100000
set_option maxHeartbeats 2000000
namespace M
open PySem PySem.Spec PyProof.Rows L2
/-! ### the law's call where nothing is shown yet: a law that calls repr -/
/-- what is watched at the start: the script, if it is no object of the ground, and the empty tables -/
def startH (K : PySem.W.Frag) (a : Addr) (fz : Obj) (xs : List V) (tb : List Addr) : Hp := fun b => if b = a ∧ K.lookup a = none then some (.frz fz (.lst xs)) else if b ∈ tb then some (.tbl #[]) else none
section
variable {K : PySem.W.Frag} {a : Addr} {fz : Obj} {xs : List V} {tb : List Addr}
theorem startH_of {b : Addr} {u : HO} (h : startH K a fz xs tb b = some u) : (b = a ∧ K.lookup a = none ∧ u = .frz fz (.lst xs)) ∨ (b ∈ tb ∧ u = .tbl #[]) := by
  unfold startH at h
  split at h
  · rename_i z
    cases h
    exact .inl ⟨z.1, z.2, rfl⟩
  · split at h
    · rename_i z
      cases h
      exact .inr ⟨z, rfl⟩
    · cases h
theorem startH_tb {b : Addr} (hb : b ∈ tb) (n : b ≠ a) : startH K a fz xs tb b = some (.tbl #[]) := by
  unfold startH
  rw [if_neg (fun z => n z.1), if_pos hb]
theorem startH_a (h : K.lookup a = none) : startH K a fz xs tb a = some (.frz fz (.lst xs)) := by
  unfold startH
  rw [if_pos ⟨rfl, h⟩]
end
theorem law_callG {P : Program} {w : World} {K : PySem.W.Frag} {mg mb : Str → Option Value} {k : Nat} {fa a : Addr} {cs : List (Addr × Addr)} {fd : FuncData} {x : Str} {sp : Sp} {s₁ : Shared} {vs : List Value} {ns : List Int}
    (KX : K.In s₁.heap) (hns : s₁.heap.Ns mainGlobals mg) (hb : s₁.heap.Ns builtinsNs mb) (hbb : ∀ x : Str, x ≠ "__name__" → mb x = bootBuiltins x) (hlim : s₁.heap.NoLimit) (hg : s₁.gens = #[])
    (hT : ∀ p ∈ cs, s₁.heap.get? p.2 = some { cls := .none, data := .fields #[] }) (nT : ∀ p ∈ cs, K.lookup p.2 = none) (C : ∀ p ∈ cs, PySem.W.CodeHd s₁.heap p.1 p.2)
    (hbm : ∃ (bm : Addr) (ob : Obj), mg "__builtins__" = some (.ref bm) ∧ bm ≠ builtinsNs ∧ s₁.heap.get? bm = some ob ∧ ob.cls = .type "module" ∧ ob.dict = some builtinsNs ∧ ob.data = .plain)
    (ha : s₁.heap.get? a = some { cls := .type "list", data := .seq vs.toArray }) (hi : IntsAre vs ns) (hl : ns.length ≤ sizeLine) (hr : Room k callerA)
    (F : ∀ base : Heap, K.In base → base.Ns mainGlobals mg → (∀ p ∈ cs, LamX.TabB base mg p.1 p.2) → FnG P w K mg base (L2.CX P w) k fa fd [x] sp) (hbind : ∀ (s : Shared) (u : Value), BindsTo s fd ⟨[u], []⟩ [(x, u)])
    (hsp : ∀ H : Hp, (∀ p ∈ cs, H p.2 = some (.tbl #[])) → SqL K H a (ns.map V.int) → sp [.ref a] H (fun v _ => v = .bl true) fun _ _ _ => False) :
    codeAny (model P w) callerA (.call (.ref fa) ⟨[.ref a], []⟩) (fun r s' => r = .ok (.ret (.bool true)) ∧ OldK s₁.heap s'.heap ∧ s'.os = s₁.os ∧ AllBare s'.gens) s₁ := by
  have rv := vals_ints hi
  have tabT : ∀ b, b ∈ cs.map (·.2) → ∃ p ∈ cs, p.2 = b := fun b h => List.mem_map.mp h
  have objT : ∀ b, b ∈ cs.map (·.2) → s₁.heap.get? b = some { cls := .none, data := .fields #[] } := fun b h => by
    obtain ⟨p, hp, e⟩ := tabT b h
    subst e
    exact hT p hp
  have aT : ∀ b, b ∈ cs.map (·.2) → b ≠ a := fun b h z => by
    have e := objT b h
    subst z
    rw [ha] at e
    have := congrArg Obj.data (Option.some.inj e)
    cases this
  let H : Hp := startH K a { cls := .type "list", data := .seq vs.toArray } (ns.map V.int) (cs.map (·.2))
  have hH : ∀ p ∈ cs, H p.2 = some (.tbl #[]) := fun p hp => startH_tb (List.mem_map.mpr ⟨p, hp, rfl⟩) (aT _ (List.mem_map.mpr ⟨p, hp, rfl⟩))
  have cases_ : ∀ b u, H b = some u → (b = a ∧ K.lookup a = none ∧ u = .frz { cls := .type "list", data := .seq vs.toArray } (.lst (ns.map V.int))) ∨ (b ∈ cs.map (·.2) ∧ u = .tbl #[]) := fun b u h => startH_of h
  -- what is no list and no empty table is in the ground
  have gr : ∀ b o, s₁.heap.get? b = some o → (∀ vs n, o.data ≠ .seq vs n) → o.data ≠ .fields #[] → H b = none := fun b o e h1 h2 => by
    cases q : H b with
    | none => rfl
    | some u =>
      rcases cases_ b u q with ⟨z, _, _⟩ | ⟨z, _⟩
      · subst z; rw [ha] at e; cases e; exact (h1 _ _ rfl).elim
      · rw [objT b z] at e; cases e; exact (h2 rfl).elim
  have hidden : ∀ b o, s₁.heap.get? b = some o → (∀ vs n, o.data ≠ .seq vs n) → o.data ≠ .fields #[] → (hidT s₁.heap H).get? b = some o := fun b o e h1 h2 => hidT_get e (gr b o e h1 h2)
  have dict : ∀ {b : Addr} {m : Str → Option Value}, s₁.heap.Ns b m → (hidT s₁.heap H).Ns b m := fun {b m} ⟨o, es, ep, e, d, r⟩ => ⟨o, es, ep, hidden b o e (fun _ _ z => by rw [d] at z; cases z) (fun z => by rw [d] at z; cases z), d, r⟩
  have kin : K.In (hidT s₁.heap H) := fun b o e => hidT_get (KX b o e) (by
    cases q : H b with
    | none => rfl
    | some u =>
      rcases cases_ b u q with ⟨z, hk, _⟩ | ⟨z, _⟩
      · subst z; rw [hk] at e; cases e
      · obtain ⟨p, hp, ep⟩ := tabT b z
        subst ep
        rw [nT p hp] at e; cases e)
  have md : L2.Mod K mg (hidT s₁.heap H) := by
    obtain ⟨mc, h1, h2⟩ := hlim
    exact ⟨kin, dict hns, ⟨mb, dict hb, hbb⟩, ⟨mc, dict h1, h2⟩⟩
  obtain ⟨og, eg, pg, hog, hdg, _⟩ := id hns
  have tabs : ∀ p ∈ cs, LamX.TabB (hidT s₁.heap H) mg p.1 p.2 := fun p hp => by
    have e0 := hT p hp
    refine ⟨?_, ?_, fun z => ?_⟩
    · obtain ⟨o, us, file, tf, flags, tg, inF, text, tt, c1, c2, c3, c4, c⟩ := C p hp
      exact ⟨o, us, file, tf, flags, tg, inF, text, tt, hidden _ o c1 (fun _ _ z => by rw [c3] at z; cases z) (fun z => by rw [c3] at z; cases z; simp at c4), c2, c3, c4, c⟩
    · obtain ⟨bm, ob, b1, b2, b3, b4, b5, b6⟩ := hbm
      have nG : bm ≠ mainGlobals := fun q => by rw [q, hog] at b3; cases b3; rw [hdg] at b6; cases b6
      have nP : bm ≠ p.2 := fun q => by rw [q, e0] at b3; cases b3; cases b6
      exact ⟨bm, ob, b1, b2, nG, nP, hidden bm ob b3 (fun _ _ z => by rw [b6] at z; cases z) (fun z => by rw [b6] at z; cases z), b4, b5, b6⟩
    · rw [z, e0] at hog; cases hog; cases hdg
  have hok : HOk P w H s₁.heap := fun b u q => by
    rcases cases_ b u q with ⟨z, _, e⟩ | ⟨z, e⟩
    · subst z e
      exact ⟨ha, by rw [List.length_map]; exact hl, vs, _, rv, ha⟩
    · subst e
      exact objT b z
  have sq : SqL K H a (ns.map V.int) := by
    cases hk : K.lookup a with
    | none => exact .inl (.inr ⟨_, startH_a hk⟩)
    | some o =>
      have e := KX a o hk
      rw [ha] at e
      cases e
      exact .inr ⟨_, vs.toArray, _, hk, rfl, rfl, rfl, by rw [List.size_toArray, hi.length]; exact hl, by simpa using rv⟩
  have e0 : Env0 P w K mg (hidT s₁.heap H) callerA [] s₁ H := ⟨rfl, md, fun b o e => of_hidT e, Nat.le_of_eq (hidT_size _ _), trivial, fun b hb => absurd (show b ∈ ([] : List Addr) from hb) (by simp), hok, .of_eq hg⟩
  refine codeAny_mono ((F _ kin (dict hns) tabs).run callerA [] s₁ H ⟨[.ref a], []⟩ [.ref a] [.ref a] _ _ rfl hr e0 (hbind s₁ (.ref a)) (.cons rfl .nil) (hsp H hH sq)) fun r s' h => ?_
  match r, h with
  | .error e, h =>
    obtain ⟨_, _, _, _, _, _, _, _, _, _, _, _, z⟩ := h
    exact z.elim
  | .ok (.ret u), ⟨v, H', os, bare, un, hok', r', q⟩ =>
    obtain rfl : v = .bl true := q
    obtain rfl : u = Value.bool true := r'
    -- what stood, stands; a table has grown
    have old : ∀ b o, s₁.heap.get? b = some o → (b ∉ cs.map (·.2) ∧ s'.heap.get? b = some o) ∨ (b ∈ cs.map (·.2) ∧ o = { cls := .none, data := .fields #[] } ∧ ∃ more : Array Value, s'.heap.get? b = some { cls := .none, data := .fields more }) := fun b o e => by
      by_cases hb : b ∈ cs.map (·.2)
      · refine .inr ⟨hb, ?_, ?_⟩
        · rw [objT b hb] at e; cases e; rfl
        · obtain ⟨p, hp, ep⟩ := tabT b hb
          subst ep
          obtain ⟨more, z⟩ := un.tbls p.2 #[] (hH p hp)
          exact ⟨_, hok' p.2 _ z⟩
      · refine .inl ⟨hb, ?_⟩
        cases q : H b with
        | none => exact un.keep b o e q (by intro z; exact absurd (show b ∈ ([] : List Addr) from z) (by simp)) (by simp)
        | some u =>
          rcases cases_ b u q with ⟨z, _, eu⟩ | ⟨z, _⟩
          · subst eu
            have e1 := (hok b _ q).1
            have e2 := (hok' b _ (un.frzs b _ _ q)).1
            rw [e] at e1; cases e1
            exact e2
          · exact absurd z hb
    refine ⟨rfl, ⟨fun b o e => ?_, fun b o e => ?_⟩, os, bare⟩
    · rcases old b o e with ⟨_, z⟩ | ⟨hb, eo, more, z⟩
      · exact .inl z
      · obtain ⟨p, hp, ep⟩ := tabT b hb
        subst ep eo
        exact .inr (.inl ⟨((C p hp).tab (hT p hp)).isCodeTable, rfl, #[], more, rfl, by rw [Array.empty_append]; exact z⟩)
    · rcases old b o e with ⟨_, z⟩ | ⟨_, _, more, z⟩
      · exact ⟨_, z⟩
      · exact ⟨_, z⟩
  | .ok .next, h => exact False.elim h
  | .ok .brk, h => exact False.elim h
  | .ok .cont, h => exact False.elim h
/-- the head for such a law -/
theorem walkG {l : PySem.W.OpenLaw} {k : Nat} {q : Program} {loose : List Str} {XP : (Str → Option Value) → Heap → Prop} {YP : World → Heap → Prop} {d : DefRec} {x : Str} {fas : List He.Fa} {fn : List He.DefD} (hn : l.most = some 63) (hdf : d.params.defaults = []) (hr : Room k callerA)
    (F : ∀ (w : World) (mg : Str → Option Value) (fa : Addr) (h : Heap), YP w h → h.Ns mainGlobals mg → mg d.name = some (.ref fa) → ∃ (K : PySem.W.Frag) (tf : List (He.Defn × Str)) (ex : PySem.W.Frag → Bool) (fd : FuncData), K.In h ∧ He.SaysX fas fn [] (tf.map (·.1)) ex w h K ∧ (∀ (s : Shared) (u : Value), BindsTo s fd ⟨[u], []⟩ [(x, u)]) ∧
      ∀ base : Heap, K.In base → base.Ns mainGlobals mg → (∀ p ∈ tf, LamX.TabB base mg (He.cT K p.1).1 (He.cT K p.1).2) → FnG l.prog w K mg base (L2.CX l.prog w) k fa fd [x] (spLaw K (tlOf K tf))) :
    PySem.W.WalkO q loose XP YP l.row.toRowW d [] (fun f vs => PySem.call f vs) := by
  refine Att.attach_callB hn hdf fun w s₀ s₁ mg mb fa o pm cd doc a vs ns G Y ho hd hcd hmg hobj hints hlen hbits hg => ?_
  obtain ⟨K, tf, ex, fd, KX, c, hb, hF⟩ := F w mg fa _ Y G.T.g hmg
  have get : ∀ q ∈ tf.map (fun p => He.cT K p.1), ∃ p ∈ tf, He.cT K p.1 = q := fun q hq => List.mem_map.mp hq
  refine law_callG (cs := tf.map fun p => He.cT K p.1) KX G.T.g G.T.b G.T.builtins G.T.nolimit hg (fun q hq => ?_) (fun q hq => ?_) (fun q hq => ?_) G.T.bmain hobj hints (Nat.le_trans hlen (by decide)) hr
    (fun base kin ns hT => hF base kin ns fun p hp => hT _ (List.mem_map.mpr ⟨p, hp, rfl⟩)) hb (fun H hH hS => ⟨a, ns, rfl, hS, hlen, fun q hq => ?_, fun _ => rfl⟩)
  · obtain ⟨p, hp, rfl⟩ := get q hq
    exact c.empty _ (List.mem_map.mpr ⟨p, hp, rfl⟩)
  · obtain ⟨p, hp, rfl⟩ := get q hq
    exact c.out _ (List.mem_map.mpr ⟨p, hp, rfl⟩)
  · obtain ⟨p, hp, rfl⟩ := get q hq
    exact PySem.W.codeHd_of_K KX (c.hd _ (List.mem_map.mpr ⟨p, hp, rfl⟩))
  · obtain ⟨p, hp, rfl⟩ := List.mem_map.mp hq
    exact hH _ (List.mem_map.mpr ⟨p, hp, rfl⟩)
end M

set_option Elab.async false
set_option linter.all false
set_option maxRecDepth 100000
set_option maxHeartbeats 4000000
namespace M
open PySem L2
/-! ### the draw source's box, whatever the law's constants are -/
/-- where the box stands behind what was done -/
structure BoxAt (F : Ty) (H : Hp) (a c : Addr) (n : Int) (σ : St) (H' : Hp) : Prop where
  ext : Ext F H F H'
  s0 : σ[0]? = some (some (.ref a))
  s1 : σ[1]? = some (some (.int n))
  lt2 : 2 < σ.length
  bx : ∃ x, H' a = some (.lst [.ref c, .int x])
  cl : ∃ ks : List Int, H' c = some (.lst (ks.map V.int)) ∧ ks.length ≤ sizeLine
theorem BoxAt.of {F : Ty} {H H' : Hp} {a c : Addr} {n : Int} {σ : St} (e : Ext F H F H') (hA : F a = some (pBox c)) (hC : F c = some pCel) (s0 : σ[0]? = some (some (.ref a))) (s1 : σ[1]? = some (some (.int n))) (h2 : 2 < σ.length) : BoxAt F H a c n σ H' := by
  refine ⟨e, s0, s1, h2, ?_, ?_⟩
  · obtain ⟨o, h, ⟨x, rfl⟩, _⟩ := e.ok.at_ _ _ hA
    exact ⟨x, h⟩
  · obtain ⟨o, h, ⟨ks, rfl, hl⟩, _⟩ := e.ok.at_ _ _ hC
    exact ⟨ks, h, hl⟩
theorem run0 {K : PySem.W.Frag} {F : Ty} {H H' : Hp} {a c : Addr} {n : Int} {σ : St} {Q : VK} (B : BoxAt F H a c n σ H') (q : Q (.ref c) H') : tOp (rIx K) (tVar 0) (tC (.int 0)) σ H' Q := by
  obtain ⟨x, hx⟩ := B.bx
  exact ⟨_, B.s0, .inl ⟨a, _, 0, .ref c, rfl, rfl, SqL.of hx, rfl, q⟩⟩
/-- the cells that are left -/
def lnc (c : Addr) (H : Hp) : Nat := match H c with
  | some (.lst xs) => xs.length
  | _ => 0
theorem eqv_nil (ks : List Int) : PyData.eqv (.list (ks.map PyData.int)) (.list []) = decide (ks = []) := by
  cases ks with
  | nil => rfl
  | cons k ks => rfl
theorem canLay_ints : ∀ ks : List Int, PyData.canLayAll0 (ks.map PyData.int) = true
  | [] => rfl
  | k :: ks => by
    show (PyData.canLay0 (.int k) && PyData.canLayAll0 (ks.map PyData.int)) = true
    rw [canLay_ints ks]
    rfl
theorem depth_ints : ∀ ks : List Int, PyData.depthAll (ks.map PyData.int) = 0
  | [] => rfl
  | k :: ks => by
    show max (PyData.depth (.int k)) (PyData.depthAll (ks.map PyData.int)) = 0
    rw [depth_ints ks]
    rfl
theorem shaped_ints (ks : List Int) : SeqAt.shaped (.list (ks.map PyData.int)) = true := by
  show (PyData.canLayAll0 (ks.map PyData.int) && decide (PyData.depthAll (ks.map PyData.int) + 1 ≤ 64)) = true
  rw [canLay_ints, depth_ints]
  rfl
theorem atI_back {ks : List Int} (h : ks ≠ []) : atI (ks.map V.int) (-1) = some (.int (ks.getLast h)) := by
  have e : ks.map V.int = ks.dropLast.map V.int ++ [V.int (ks.getLast h)] := by
    rw [← List.map_singleton, ← List.map_append, List.dropLast_concat_getLast]
  rw [e]
  exact atI_last _ _
theorem test0 {K : PySem.W.Frag} {F : Ty} {H H' : Hp} {a c : Addr} {n : Int} {σ : St} {Q : Bool → Hp → Prop} (B : BoxAt F H a c n σ H') (ks : List Int) (hk : H' c = some (.lst (ks.map V.int)))
    (q : ∀ H'', Ext F H F H'' → H'' a = H' a → H'' c = H' c → Q (!decide (ks = [])) H'') : tTest (tOp (rNeD K) (tOp (rIx K) (tVar 0) (tC (.int 0))) (tLst tNil)) σ H' Q := by
  refine run0 B ⟨Nat.zero_le _, fun p hp => ?_⟩
  have e2 : Ext F H F (upd H' p (.lst [])) := B.ext.trans (Ext.own B.ext.ok hp)
  have hcp : c ≠ p := fun z => by rw [z, hp] at hk; cases hk
  have hap : a ≠ p := fun z => by
    obtain ⟨x, hx⟩ := B.bx
    rw [z, hp] at hx; cases hx
  refine ⟨.list (ks.map .int), .list [], .lst (SqL.of (by rw [upd_ne hcp]; exact hk)) (dp_ints ks), .lst (SqL.of upd_same) .nil, shaped_ints ks, rfl, ?_⟩
  rw [eqv_nil]
  exact ⟨_, rfl, q _ e2 (upd_ne hap) (upd_ne hcp)⟩
end M

set_option Elab.async false
set_option linter.all false
set_option maxRecDepth 100000
set_option maxHeartbeats 2000000
namespace M
open PySem PySem.Spec PyProof.Rows L2
/-! ### keywords in an order of their own -/
def sel {α : Type} (idx : List Nat) (xs : List α) : List α := idx.filterMap fun i => xs[i]?
theorem vals_get : ∀ {vs : List V} {us : List Value} (i : Nat), Vals vs us → (vs[i]? = none ∧ us[i]? = none) ∨ ∃ v u, vs[i]? = some v ∧ us[i]? = some u ∧ RelV v u
  | _, _, _, .nil => .inl ⟨rfl, rfl⟩
  | _, _, 0, .cons r l => .inr ⟨_, _, rfl, rfl, r⟩
  | _, _, i + 1, .cons r l => by simpa using vals_get i l
theorem vals_sel {vs : List V} {us : List Value} (h : Vals vs us) : ∀ idx : List Nat, Vals (sel idx vs) (sel idx us)
  | [] => .nil
  | i :: idx => by
    have ih := vals_sel h idx
    unfold sel at ih ⊢
    rcases vals_get i h with ⟨e1, e2⟩ | ⟨v, u, e1, e2, r⟩
    · rw [List.filterMap_cons, List.filterMap_cons, e1, e2]; exact ih
    · rw [List.filterMap_cons, List.filterMap_cons, e1, e2]; exact .cons r ih
theorem rpl_get {Z : Zt} {F : Ty} : ∀ {vs : List V} {ds : List D} (i : Nat), RpL Z F vs ds → (vs[i]? = none ∧ ds[i]? = none) ∨ ∃ v d, vs[i]? = some v ∧ ds[i]? = some d ∧ Rp Z F v d
  | _, _, _, .nil => .inl ⟨rfl, rfl⟩
  | _, _, 0, .cons r l => .inr ⟨_, _, rfl, rfl, r⟩
  | _, _, i + 1, .cons r l => by simpa using rpl_get i l
theorem rpl_sel {Z : Zt} {F : Ty} {vs : List V} {ds : List D} (h : RpL Z F vs ds) : ∀ idx : List Nat, RpL Z F (sel idx vs) (sel idx ds)
  | [] => .nil
  | i :: idx => by
    have ih := rpl_sel h idx
    unfold sel at ih ⊢
    rcases rpl_get i h with ⟨e1, e2⟩ | ⟨v, u, e1, e2, r⟩
    · rw [List.filterMap_cons, List.filterMap_cons, e1, e2]; exact ih
    · rw [List.filterMap_cons, List.filterMap_cons, e1, e2]; exact .cons r ih
theorem kb_perm {K : PySem.W.Frag} {x qual : Str} {params : Arguments} {body : List Stmt} {scope : Scope} {f : Addr} {fd : FuncData} {ps : List Str} (F : FunD K x qual params body scope [] [] f fd) (n : Nat) (ks : List Str) (idx : List Nat)
    (h : ∀ (kV doc pm : Value) (an : Option Addr) (cdv ct : Value) (us ws : List Value), us.length = n → ws.length = ks.length → bindArgs (PySem.W.fnOf x qual params body scope .none kV doc pm an cdv ct) ⟨us, ks.zip ws⟩ = pure (ps.zip (us ++ sel idx ws))) :
    KBn K fd ps n ks (fun us ws => us ++ sel idx ws) (fun vs zs => vs ++ sel idx zs) := by
  obtain ⟨oc, od, dV, kV, doc, pm, an, cdv, ct, osl, rfl, lk, hcd, hD, hK⟩ := F.ex
  rcases hD with ⟨_, rfl⟩ | ⟨e, _⟩
  · exact ⟨fun s us ws _ l1 l2 => .of_eq (h kV doc pm an cdv ct us ws l1 l2), fun r1 r2 => r1.append (vals_sel r2 idx)⟩
  · exact absurd rfl e
/-- what init makes of the arguments but self -/
theorem mki_of {P : Program} {w : World} {Z : Zt} {mg : Str → Option Value} {base : Heap} {x : Str} {c k np n : Nat} {ks : List Str} {gD : List D → List D → List D} {m : List D → N D} {f : Addr} {fd : FuncData} {ps : List Str} {g : List Value → List Value → List Value} {s : List V → List V} (F : FnOk P w Z.K mg base (L2.CX P w) k f fd ps (spInit Z c n m)) (M : Mk Z.K (Z.cs c) f) (hm : mg x = some (.ref (Z.cs c)))
    (hb : KBn Z.K fd ps (np + 1) ks g (fun vs zs => vs ++ s zs)) (ar : Arity n m) (hd : ∀ F vs ds zs es, RpL Z F vs ds → RpL Z F zs es → RpL Z F (vs ++ s zs) (gD ds es)) : MkI P w Z mg base x c k np ks gD n m :=
  ⟨⟨f, fd, ps, g, _, F, M, hm, hb, fun Fm vs ds zs es r1 r2 _ _ => ⟨vs ++ s zs, fun v => rfl, hd Fm vs ds zs es r1 r2⟩⟩, ar⟩
/-! ### what the head's run tells of an own class -/
def insB (K : PySem.W.Frag) (x : Str) : Bool := He.eqO (PySem.W.findIn K (.ref (He.ga K x)) "__class__") (some (some (.builtin "object.__class__"))) && (decide (PySem.W.specialIn K (.builtin "object.__class__") "__get__" = some (some (.builtin "getset_descriptor.__get__"))) &&
  (decide (PySem.W.takesIn K (.builtin "object.__class__") = some true) && (decide (PySem.W.mroIn K (He.ga K x) (.type "object") = some true) && (tyNs.all fun t => decide (PySem.W.kitOne K (.type t) (.ref (He.ga K x)) = some false)))))
theorem insB_ok {K : PySem.W.Frag} {x : Str} (h : insB K x = true) (c : L2.Cls K (He.ga K x)) : InsK K (He.ga K x) ∧ ∀ t ∈ tyNs, PySem.W.kitOne K (.type t) (.ref (He.ga K x)) = some false := by
  obtain ⟨c1, h⟩ := He.ba h
  obtain ⟨c2, h⟩ := He.ba h
  obtain ⟨c3, h⟩ := He.ba h
  obtain ⟨c4, c5⟩ := He.ba h
  exact ⟨⟨c, He.eqO_ok c1, of_decide_eq_true c2, of_decide_eq_true c3, of_decide_eq_true c4⟩, fun t ht => of_decide_eq_true (List.all_eq_true.mp c5 t ht)⟩
/-- which of the own classes is which -/
def kitB (K : PySem.W.Frag) (nm : Nat → Str) (cl : List Nat) : Bool := cl.all fun c => cl.all fun d => decide (PySem.W.kitOne K (.ref (He.ga K (nm c))) (.ref (He.ga K (nm d))) = some (decide (c = d)))
theorem kitB_ok {K : PySem.W.Frag} {nm : Nat → Str} {cl : List Nat} (h : kitB K nm cl = true) (c d : Nat) (hc : c ∈ cl) (hd : d ∈ cl) : PySem.W.kitOne K (.ref (He.ga K (nm c))) (.ref (He.ga K (nm d))) = some (decide (c = d)) :=
  of_decide_eq_true (List.all_eq_true.mp (List.all_eq_true.mp h c hc) d hd)
/-- the class's own == -/
def eqcB (K : PySem.W.Frag) (x : Str) : Bool := eqB K (He.ga K x) (He.ma K (He.ga K x) "__eq__") && ((tyNs.all fun t => PySem.W.notFirst K (He.ga K x) (.type t)) && PySem.W.notFirst K (He.ga K x) (.ref (He.ga K x)))
theorem eqc_of {P : Program} {w : World} {Z : Zt} {mg : Str → Option Value} {base : Heap} {x : Str} {c k : Nat} {m : D → D → N D} {fd : FuncData} {ps : List Str} (hz : Z.cs c = He.ga Z.K x) (F : FnOk P w Z.K mg base (L2.CX P w) k (He.ma Z.K (He.ga Z.K x) "__eq__") fd ps (spN Z 2 (app2 m))) (hb : Binds Z.K fd ps [])
    (hm : (He.Fa.meth x "__eq__").ok Z.K = true) (h : eqcB Z.K x = true) (hi : InsK Z.K (He.ga Z.K x)) : EqC P w Z mg base c k m := by
  obtain ⟨c1, h⟩ := He.ba h
  obtain ⟨c2, c3⟩ := He.ba h
  have M := He.meth_ok hm
  refine ⟨⟨_, fd, ps, F, hb, ?_, M.fn, ?_⟩, ?_, ?_⟩
  · rw [hz]; exact M.at_
  · rw [hz]; exact c1
  · rw [hz]; exact ⟨fun t ht => List.all_eq_true.mp c2 t ht, c3⟩
  · rw [hz]; exact hi
/-- a field of one class alone -/
theorem fa_of {K : PySem.W.Frag} {cs : Nat → Addr} {at_ : Nat → List Str} {f : Str} {cl : List Nat} (h : ∀ c ∈ cl, L2.Cls K (cs c) ∧ NoAttr K (cs c) f) (ha : ∀ c, c ∉ cl → at_ c = []) (c : Nat) (fs : List D) (d : D) (e : attrOf (at_ c) fs f = some d) : L2.Cls K (cs c) ∧ NoAttr K (cs c) f := by
  by_cases hc : c ∈ cl
  · exact h c hc
  · rw [ha c hc] at e
    unfold attrOf at e
    simp at e
/-- where a def's code object stands -/
theorem code_of {K : PySem.W.Frag} {p : He.Defn} {x qual : Str} {params : Arguments} {body : List Stmt} {scope : Scope} {dvs : List V} {f : Addr} {fd : FuncData} (hf : He.fAd K p = f) (F : FunD K x qual params body scope dvs [] f fd) : ∀ oc od fd' osl, K.lookup f = some ⟨oc, od, .func fd', osl⟩ → fd'.code = .ref (He.cT K p).1 := by
  obtain ⟨oc, od, dV, kV, doc, pm, an, cdv, ct, osl, rfl, lk, hcd, _, _⟩ := F.ex
  intro oc' od' fd' osl' h
  rw [lk] at h
  cases h
  obtain ⟨c', e⟩ := He.codeIn_ref hcd
  subst e
  show Value.ref c' = .ref (He.codeOf K p)
  rw [He.codeOf_eq (c := c') (by rw [hf]; exact lk) rfl]
end M

set_option Elab.async false
set_option linter.all false
set_option maxRecDepth 100000
set_option maxHeartbeats 2000000
namespace M
open PySem L2
/-! ### data that stand for plain values: compared by value -/
structure Enc {α : Type} [DecidableEq α] (n : Nat) (f : α → D) : Prop where
  py : ∀ a, ∃ p, toPy (f a) = some p ∧ PyData.canLay0 p = true ∧ PyData.depth p ≤ n
  ev : ∀ a b p q, toPy (f a) = some p → toPy (f b) = some q → PyData.eqv p q = decide (a = b)
section
variable {α : Type} [DecidableEq α] {n : Nat} {f : α → D}
theorem Enc.pys (h : Enc n f) : ∀ xs : List α, ∃ ps, toPys (xs.map f) = some ps ∧ PyData.canLayAll0 ps = true ∧ PyData.depthAll ps ≤ n
  | [] => ⟨[], rfl, rfl, Nat.zero_le _⟩
  | x :: xs => by
    obtain ⟨p, e1, c1, d1⟩ := h.py x
    obtain ⟨ps, e2, c2, d2⟩ := h.pys xs
    refine ⟨p :: ps, by simp [toPys, e1, e2], by simp [PyData.canLayAll0, c1, c2], ?_⟩
    show max (PyData.depth p) (PyData.depthAll ps) ≤ n
    omega
theorem Enc.evs (h : Enc n f) : ∀ (xs ys : List α) (ps qs : List PyData), toPys (xs.map f) = some ps → toPys (ys.map f) = some qs → PyData.eqvAll ps qs = decide (xs = ys)
  | [], [], ps, qs, e1, e2 => by simp [toPys] at e1 e2; subst e1 e2; rfl
  | [], y :: ys, ps, qs, e1, e2 => by
    obtain ⟨q, k1, _⟩ := h.py y
    obtain ⟨rs, k2, _⟩ := h.pys ys
    simp [toPys] at e1 e2
    simp [k1, k2] at e2
    subst e1 e2
    rfl
  | x :: xs, [], ps, qs, e1, e2 => by
    obtain ⟨q, k1, _⟩ := h.py x
    obtain ⟨rs, k2, _⟩ := h.pys xs
    simp [toPys] at e1 e2
    simp [k1, k2] at e1
    subst e1 e2
    rfl
  | x :: xs, y :: ys, ps, qs, e1, e2 => by
    obtain ⟨p, k1, _⟩ := h.py x
    obtain ⟨ps', k2, _⟩ := h.pys xs
    obtain ⟨q, k3, _⟩ := h.py y
    obtain ⟨qs', k4, _⟩ := h.pys ys
    simp [toPys, k1, k2] at e1
    simp [toPys, k3, k4] at e2
    subst e1 e2
    show (PyData.eqv p q && PyData.eqvAll ps' qs') = _
    rw [h.ev _ _ _ _ k1 k3, h.evs xs ys ps' qs' k2 k4]
    simp
theorem Enc.tup (h : Enc n f) : Enc (n + 1) (fun xs : List α => D.tup (xs.map f)) := by
  refine ⟨fun xs => ?_, fun xs ys p q e1 e2 => ?_⟩
  · obtain ⟨ps, e, c, d⟩ := h.pys xs
    refine ⟨.tuple ps, by simp [toPy, e], ?_, ?_⟩
    · show PyData.canLayAll0 ps = true
      exact c
    · show PyData.depthAll ps + 1 ≤ n + 1
      omega
  · obtain ⟨ps, k1, _⟩ := h.pys xs
    obtain ⟨qs, k2, _⟩ := h.pys ys
    simp [toPy, k1] at e1
    simp [toPy, k2] at e2
    subst e1 e2
    exact h.evs xs ys ps qs k1 k2
theorem Enc.lst (h : Enc n f) : Enc (n + 1) (fun xs : List α => D.lst (xs.map f)) := by
  refine ⟨fun xs => ?_, fun xs ys p q e1 e2 => ?_⟩
  · obtain ⟨ps, e, c, d⟩ := h.pys xs
    refine ⟨.list ps, by simp [toPy, e], ?_, ?_⟩
    · show PyData.canLayAll0 ps = true
      exact c
    · show PyData.depthAll ps + 1 ≤ n + 1
      omega
  · obtain ⟨ps, k1, _⟩ := h.pys xs
    obtain ⟨qs, k2, _⟩ := h.pys ys
    simp [toPy, k1] at e1
    simp [toPy, k2] at e2
    subst e1 e2
    exact h.evs xs ys ps qs k1 k2
theorem shaped_of {p : PyData} (h1 : PyData.canLay0 p = true) (h2 : PyData.depth p ≤ 64) : SeqAt.shaped p = true := by
  unfold SeqAt.shaped
  simp [h1, h2]
theorem Enc.eq (h : Enc n f) (hn : n ≤ 64) (a b : α) : pEq (f a) (f b) = .ok (decide (a = b)) := by
  obtain ⟨p, e1, c1, d1⟩ := h.py a
  obtain ⟨q, e2, c2, d2⟩ := h.py b
  unfold pEq
  simp only [e1, e2]
  rw [N.asrt_of ⟨shaped_of c1 (by omega), shaped_of c2 (by omega)⟩]
  show N.ok _ = _
  rw [h.ev _ _ _ _ e1 e2]
theorem Enc.eqD (h : Enc n f) (hn : n ≤ 64) (a b : α) : dEqD (f a) (f b) = .ok (.bl (decide (a = b))) := by
  unfold dEqD
  rw [h.eq hn]
  rfl
theorem Enc.neD (h : Enc n f) (hn : n ≤ 64) (a b : α) : dNeD (f a) (f b) = .ok (.bl (!decide (a = b))) := by
  unfold dNeD
  rw [h.eq hn]
  rfl
theorem Enc.in_ (h : Enc n f) (hn : n < 64) (a : α) (xs : List α) (s : List D → D) (hs : ∀ ds, items (s ds) = some ds) : pIn (f a) (s (xs.map f)) = .ok (decide (a ∈ xs)) := by
  obtain ⟨p, e1, c1, d1⟩ := h.py a
  obtain ⟨qs, e2, c2, d2⟩ := h.pys xs
  unfold pIn
  simp only [e1, e2, hs]
  rw [N.asrt_of ⟨shaped_of c1 (by omega), shaped_of (p := .list qs) (show PyData.canLayAll0 qs = true from c2) (by show PyData.depthAll qs + 1 ≤ 64; omega)⟩]
  show N.ok _ = _
  congr 1
  clear c2 d2
  induction xs generalizing qs with
  | nil => simp [toPys] at e2; subst e2; rfl
  | cons x xs ih =>
    obtain ⟨q, k1, _⟩ := h.py x
    obtain ⟨rs, k2, _⟩ := h.pys xs
    simp [toPys, k1, k2] at e2
    subst e2
    rw [List.any_cons, ih rs k2, h.ev _ _ _ _ k1 e1]
    by_cases z : x = a
    · subst z; simp
    · have : ¬ a = x := fun y => z y.symm
      simp [z, this]
end
def nD (n : Nat) : D := .int (n : Int)
theorem toPy_int (i : Int) : toPy (.int i) = some (.int i) := by unfold toPy; rfl
theorem enc_int : Enc 0 D.int := ⟨fun a => ⟨.int a, toPy_int a, by unfold PyData.canLay0; rfl, by unfold PyData.depth; exact Nat.le_refl _⟩, fun a b p q e1 e2 => by
  rw [toPy_int] at e1 e2
  cases e1; cases e2
  unfold PyData.eqv
  exact rfl⟩
theorem enc_nat : Enc 0 nD := ⟨fun a => ⟨.int a, toPy_int a, by unfold PyData.canLay0; rfl, by unfold PyData.depth; exact Nat.le_refl _⟩, fun a b p q e1 e2 => by
  unfold nD at e1 e2
  rw [toPy_int] at e1 e2
  cases e1; cases e2
  unfold PyData.eqv
  by_cases h : a = b
  · subst h; simp
  · have : ¬ (a : Int) = b := by omega
    simp [h, this]⟩
/-! positions -/
theorem ix_t {xs : List D} {i : Nat} {d : D} (h : xs[i]? = some d) : dIx (.tup xs) (.int (i : Int)) = .ok d := by
  have hl := (List.getElem?_eq_some_iff.mp h).1
  have e : ixN xs.length (i : Int) = some i := by unfold ixN; rw [if_pos (by omega), if_pos (by omega)]; rfl
  simp [dIx, items, atI, e, h]
theorem ix_l {xs : List D} {i : Nat} {d : D} (h : xs[i]? = some d) : dIx (.lst xs) (.int (i : Int)) = .ok d := by
  have hl := (List.getElem?_eq_some_iff.mp h).1
  have e : ixN xs.length (i : Int) = some i := by unfold ixN; rw [if_pos (by omega), if_pos (by omega)]; rfl
  simp [dIx, items, atI, e, h]
theorem cut_from (xs : List D) (k : Nat) : cutD xs (some (k : Int)) none = xs.drop k := by
  unfold cutD
  rw [HT.sIx_nat, HT.sIx_none]
  by_cases h : k ≤ xs.length
  · rw [Nat.min_eq_left h]
    exact List.take_of_length_le (by rw [List.length_drop]; exact Nat.le_refl _)
  · rw [Nat.min_eq_right (by omega), List.drop_eq_nil_of_le (Nat.le_refl _), List.drop_eq_nil_of_le (by omega)]
    simp
theorem cut_to (xs : List D) (k : Nat) : cutD xs none (some (k : Int)) = xs.take k := by
  unfold cutD
  rw [HT.sIx_nat, HT.sIx_none, List.drop_zero, Nat.sub_zero]
  by_cases h : k ≤ xs.length
  · rw [Nat.min_eq_left h]
  · rw [Nat.min_eq_right (by omega), List.take_of_length_le (Nat.le_refl _), List.take_of_length_le (by omega)]
end M

set_option Elab.async false
set_option linter.all false
set_option maxRecDepth 100000
set_option maxHeartbeats 2000000
namespace M
open PySem L2
/-! ### how long a repr is at most -/
mutual
def wt : D → Nat
  | .non => 4
  | .bl _ => 5
  | .int i => i.natAbs.log2 + 2
  | .str s => 10 * s.length + 2
  | .tup xs => 3 + wts xs
  | .ktup xs => 3 + wts xs
  | .lst xs => 3 + wts xs
  | _ => 0
def wts : List D → Nat
  | [] => 0
  | x :: xs => wt x + 2 + wts xs
end
mutual
/-- data of which repr can be asked: short ints, right strings, at most n deep -/
def plain : Nat → D → Prop
  | _, .non => True
  | _, .bl _ => True
  | _, .int i => i.natAbs.log2 < 1920
  | _, .str s => PyData.strOk s = true
  | n + 1, .tup xs => plains n xs
  | n + 1, .ktup xs => plains n xs
  | n + 1, .lst xs => plains n xs
  | _, _ => False
def plains : Nat → List D → Prop
  | _, [] => True
  | n, x :: xs => plain n x ∧ plains n xs
end
theorem textFrom_le : ∀ (ts : List Str) (k : Nat) (acc : Str), (textFrom k acc ts).length ≤ acc.length + piled ts
  | [], k, acc => by show acc.length ≤ _; omega
  | t :: r, k, acc => by
    have h := textFrom_le r (k + 1) (acc ++ (if k > 0 then ", " else "" : String) ++ t)
    have e : (acc ++ (if k > 0 then ", " else "" : String) ++ t).length = acc.length + (if k > 0 then 2 else 0) + t.length := by
      rw [strLen_append, strLen_append]
      split <;> rfl
    rw [e] at h
    rw [piled_cons]
    show (textFrom (k + 1) _ r).length ≤ _
    have d1 : (if k > 0 then 2 else 0 : Nat) ≤ 2 := by split <;> omega
    omega
theorem listText_le (ts : List Str) : (listText ts).length ≤ piled ts + 2 := by
  unfold listText
  rw [strLen_append]
  have h := textFrom_le ts 0 "["
  have e1 : (("[" : String) : Str).length = 1 := rfl
  have e2 : (("]" : String) : Str).length = 1 := rfl
  omega
theorem tupleText_le (ts : List Str) : (tupleText ts).length ≤ piled ts + 3 := by
  unfold tupleText
  rw [strLen_append, strLen_append]
  have e1 : ((("(" : String) : Str)).length = 1 := rfl
  have e3 : (((if ts.length == 1 then ",)" else ")" : String) : Str)).length ≤ 2 := by split <;> decide
  rw [e1]
  by_cases h : ts = []
  · subst h
    have e4 : (Str.join ", " []).length = 0 := rfl
    rw [e4]
    omega
  · have := join_length_add ts h
    omega
mutual
theorem plain_py : ∀ (n : Nat) (d : D), plain n d → ∃ p, toPy d = some p ∧ p.showable = true ∧ p.hasDict = false ∧ p.depth ≤ n ∧ p.shown.length ≤ wt d
  | n, .non, _ => ⟨.none, rfl, rfl, rfl, Nat.zero_le _, Nat.le_refl _⟩
  | n, .bl b, _ => ⟨.bool b, rfl, rfl, rfl, Nat.zero_le _, by cases b <;> decide⟩
  | n, .int i, h => by
    refine ⟨.int i, rfl, ?_, rfl, Nat.zero_le _, ?_⟩
    · cases n <;> exact decide_eq_true h
    · show (PySem.Str.ofString (toString i)).length ≤ i.natAbs.log2 + 2
      have e := int_text_length_le (a := i) (k := i.natAbs.log2 + 1) (by omega) (by omega)
      rw [ofString_length]
      omega
  | n, .str s, h => by
    refine ⟨.str s, rfl, rfl, rfl, Nat.zero_le _, ?_⟩
    show (reprText s).length ≤ 10 * s.length + 2
    refine PySem.StrLaws.reprText_len s fun c hc => ?_
    have h : PyData.strOk s = true := by cases n <;> exact h
    unfold PyData.strOk at h
    have := Array.all_eq_true_iff_forall_mem.mp h c (Array.mem_toList_iff.mp hc)
    have : c < 0x110000 := of_decide_eq_true this
    omega
  | 0, .tup _, h => h.elim
  | 0, .ktup _, h => h.elim
  | 0, .lst _, h => h.elim
  | n + 1, .tup xs, h => by
    obtain ⟨ps, e, a, b, c, d⟩ := plains_py n xs h
    refine ⟨.tuple ps, by simp [toPy, e], a, b, ?_, ?_⟩
    · show PyData.depthAll ps + 1 ≤ n + 1
      omega
    · show (tupleText (PyData.shownAll ps)).length ≤ 3 + wts xs
      have := tupleText_le (PyData.shownAll ps)
      omega
  | n + 1, .ktup xs, h => by
    obtain ⟨ps, e, a, b, c, d⟩ := plains_py n xs h
    refine ⟨.tuple ps, by simp [toPy, e], a, b, ?_, ?_⟩
    · show PyData.depthAll ps + 1 ≤ n + 1
      omega
    · show (tupleText (PyData.shownAll ps)).length ≤ 3 + wts xs
      have := tupleText_le (PyData.shownAll ps)
      omega
  | n + 1, .lst xs, h => by
    obtain ⟨ps, e, a, b, c, d⟩ := plains_py n xs h
    refine ⟨.list ps, by simp [toPy, e], a, b, ?_, ?_⟩
    · show PyData.depthAll ps + 1 ≤ n + 1
      omega
    · show (listText (PyData.shownAll ps)).length ≤ 3 + wts xs
      have := listText_le (PyData.shownAll ps)
      omega
  | n, .obj _ _, h => by cases n <;> exact h.elim
  | n, .dl _, h => by cases n <;> exact h.elim
  | n, .dkk _ _, h => by cases n <;> exact h.elim
  | n, .dtt _ _, h => by cases n <;> exact h.elim
theorem plains_py : ∀ (n : Nat) (xs : List D), plains n xs → ∃ ps, toPys xs = some ps ∧ PyData.showableAll ps = true ∧ PyData.hasDictAll ps = false ∧ PyData.depthAll ps ≤ n ∧ piled (PyData.shownAll ps) ≤ wts xs
  | n, [], _ => ⟨[], rfl, rfl, rfl, Nat.zero_le _, Nat.le_refl _⟩
  | n, x :: xs, h => by
    obtain ⟨h1, h2⟩ := h
    obtain ⟨p, e, a, b, c, d⟩ := plain_py n x h1
    obtain ⟨ps, e', a', b', c', d'⟩ := plains_py n xs h2
    refine ⟨p :: ps, by simp [toPys, e, e'], by simp [PyData.showableAll, a, a'], by simp [PyData.hasDictAll, b, b'], ?_, ?_⟩
    · show max p.depth (PyData.depthAll ps) ≤ n
      omega
    · show piled (PyData.shown p :: PyData.shownAll ps) ≤ wt x + 2 + wts xs
      rw [piled_cons]
      omega
end
theorem reprP_ok {n : Nat} {d : D} (h : plain n d) (hn : n ≤ 64) (hw : wt d ≤ 16777216) : ∃ s : Str, dReprP d = .ok (.str s) := by
  obtain ⟨p, e, a, b, c, l⟩ := plain_py n d h
  refine ⟨p.shown, ?_⟩
  unfold dReprP
  rw [e]
  show (N.asrt _).bind _ = _
  rw [N.asrt_of ⟨a, b, by omega, by rw [sizeLine_eq]; omega⟩]
  rfl
theorem repr_ok {n : Nat} {d : D} (h : plain n d) (hn : n ≤ 64) (hw : wt d ≤ 16777216) (hk : d = .non ∨ (∃ i, d = .int i) ∨ (∃ xs, d = .tup xs)) : ∃ s : Str, dRepr d = .ok (.str s) := by
  rcases hk with rfl | ⟨i, rfl⟩ | ⟨xs, rfl⟩
  · exact ⟨_, rfl⟩
  · refine ⟨Str.ofString (toString i), ?_⟩
    show (N.asrt _).bind _ = _
    rw [N.asrt_of (show i.natAbs.log2 < 1920 by cases n <;> exact h)]
    rfl
  · exact reprP_ok h hn hw
theorem repr_nat {i : Nat} (h : i.log2 < 1920) : ∃ s : Str, dRepr (nD i) = .ok (.str s) := by
  refine ⟨Str.ofString (toString (i : Int)), ?_⟩
  show (N.asrt _).bind _ = _
  rw [N.asrt_of (show ((i : Int)).natAbs.log2 < 1920 by simpa using h)]
  rfl
theorem ne_str (s : Str) (hs : SeqAt.shaped (.str s) = true) : dNeD (.str s) (.str s) = .ok (.bl false) := by
  unfold dNeD pEq
  simp only [toPy]
  rw [N.asrt_of ⟨hs, hs⟩]
  simp [PyData.eqv]
end M

set_option Elab.async false
set_option linter.all false
set_option maxRecDepth 100000
set_option maxHeartbeats 4000000
namespace M
open PySem L2
open PyProof.Rows (envOfC)
def topS (i : Nat) : Stmt := PySem.Challenge.pw_nobodymeets_k57_whole_lanes_and_goings_o.main.body.getD i (.Pass ⟨0, 0, 0, 0⟩)
def gD_need_standing_0_value_lanes (ds es : List D) : List D := ds ++ sel [1, 0] es
def gD_goings_left_0_standing_lanes (ds es : List D) : List D := ds ++ sel [1, 0] es
def gD_possible_goings_0_standing_lanes (ds es : List D) : List D := ds ++ sel [1, 0] es
def gD_gone_standing_0_lane_standing_lanes (ds es : List D) : List D := ds ++ sel [2, 1, 0] es
def gD_LaneMap_2 (ds es : List D) : List D := ds ++ es
def gD_LaneMap_0_goings_rooms (ds es : List D) : List D := ds ++ sel [1, 0] es
def atT (c : Nat) : List Str := if c = 6 then ["rooms", "goings"] else []
def clT : List Nat := [6]
def clsS (s : Stmt) (j : Nat) : Stmt := match s with | .ClassDef _ _ _ body _ _ _ _ _ _ _ => body.getD j (.Pass ⟨0, 0, 0, 0⟩) | _ => .Pass ⟨0, 0, 0, 0⟩
def exT (c d : Nat) : Bool := decide (c = d) || decide (d = 5)
def fsT (c : Nat) : String := (["at", "at", "at", "at", "at", ""] : List String).getD c ""
structure Txt (Z : Zt) (mg : Str → Option Value) (cK fI : Nat → Addr) : Prop where
  b_int : mg "int" = none
  b_abs : mg "abs" = none
  b_len : mg "len" = none
  b_range : mg "range" = none
  b_isinstance : mg "isinstance" = none
  b_bool : mg "bool" = none
  b_list : mg "list" = none
  b_tuple : mg "tuple" = none
  b_enumerate : mg "enumerate" = none
  b_zip : mg "zip" = none
  b_all : mg "all" = none
  b_sum : mg "sum" = none
  b_sorted : mg "sorted" = none
  b_repr : mg "repr" = none
  i_MOST_LANES : ∃ t, mg "MOST_LANES" = some (.int 12 t)
  i_MOST_ROOM : ∃ t, mg "MOST_ROOM" = some (.int 9 t)
  at_ : Z.at_ = atT
  na_LaneMap_rooms : NoAttr Z.K (Z.cs 6) "rooms"
  na_LaneMap_goings : NoAttr Z.K (Z.cs 6) "goings"
  cl_LaneMap : L2.Cls Z.K (Z.cs 6)
  m_LaneMap : mg "LaneMap" = some (.ref (Z.cs 6))
  kp_LaneMap : PySem.W.keepIn Z.K (.ref (Z.cs 6)) = true
  is_LaneMap : ∀ c ∈ clT, InsK Z.K (Z.cs c) ∧ PySem.W.kitOne Z.K (.ref (Z.cs c)) (.ref (Z.cs 6)) = some (decide (c = 6))
  it_LaneMap : ∀ t ∈ tyNs, PySem.W.kitOne Z.K (.type t) (.ref (Z.cs 6)) = some false
  fa_goings : ∀ c fs d, attrOf (atT c) fs "goings" = some d → L2.Cls Z.K (Z.cs c) ∧ NoAttr Z.K (Z.cs c) "goings"
  fa_rooms : ∀ c fs d, attrOf (atT c) fs "rooms" = some d → L2.Cls Z.K (Z.cs c) ∧ NoAttr Z.K (Z.cs c) "rooms"
  e_InvalidTies : PySem.TErr.ETxt Z.K mg "InvalidTies" (Z.fs 0) (Z.cs 0) (fI 0)
  n_InvalidTies : ("at" : Str) = PySem.Str.ofString (Z.fs 0)
  hx_InvalidTies_at : ∀ c, exT c 0 = true → ("at" : Str) = PySem.Str.ofString (Z.fs c)
  eT_InvalidTies : ∀ c, exT c 0 = true → ∃ nm fI, PySem.TErr.ETxt Z.K mg nm (Z.fs c) (Z.cs c) fI
  e_InvalidStanding : PySem.TErr.ETxt Z.K mg "InvalidStanding" (Z.fs 1) (Z.cs 1) (fI 1)
  n_InvalidStanding : ("at" : Str) = PySem.Str.ofString (Z.fs 1)
  hx_InvalidStanding_at : ∀ c, exT c 1 = true → ("at" : Str) = PySem.Str.ofString (Z.fs c)
  eT_InvalidStanding : ∀ c, exT c 1 = true → ∃ nm fI, PySem.TErr.ETxt Z.K mg nm (Z.fs c) (Z.cs c) fI
  e_InvalidLanes : PySem.TErr.ETxt Z.K mg "InvalidLanes" (Z.fs 2) (Z.cs 2) (fI 2)
  n_InvalidLanes : ("at" : Str) = PySem.Str.ofString (Z.fs 2)
  hx_InvalidLanes_at : ∀ c, exT c 2 = true → ("at" : Str) = PySem.Str.ofString (Z.fs c)
  eT_InvalidLanes : ∀ c, exT c 2 = true → ∃ nm fI, PySem.TErr.ETxt Z.K mg nm (Z.fs c) (Z.cs c) fI
  e_InvalidIndex : PySem.TErr.ETxt Z.K mg "InvalidIndex" (Z.fs 3) (Z.cs 3) (fI 3)
  n_InvalidIndex : ("at" : Str) = PySem.Str.ofString (Z.fs 3)
  hx_InvalidIndex_at : ∀ c, exT c 3 = true → ("at" : Str) = PySem.Str.ofString (Z.fs c)
  eT_InvalidIndex : ∀ c, exT c 3 = true → ∃ nm fI, PySem.TErr.ETxt Z.K mg nm (Z.fs c) (Z.cs c) fI
  e_Refused : PySem.TErr.ETxt Z.K mg "Refused" (Z.fs 4) (Z.cs 4) (fI 4)
  n_Refused : ("at" : Str) = PySem.Str.ofString (Z.fs 4)
  hx_Refused_at : ∀ c, exT c 4 = true → ("at" : Str) = PySem.Str.ofString (Z.fs c)
  eT_Refused : ∀ c, exT c 4 = true → ∃ nm fI, PySem.TErr.ETxt Z.K mg nm (Z.fs c) (Z.cs c) fI
  g_HallError : mg "HallError" = some (.ref (Z.cs 5))
  ex : ∀ c d, c < 5 → d < 6 → PySem.W.exmOne Z.K (.ref (Z.cs c)) (.ref (Z.cs d)) = some (exT c d)
  dl : Z.dl = DL
section
variable {P : Program} {w : World} {Z : Zt} {mg : Str → Option Value} {base : Heap} {cK fI : Nat → Addr}
abbrev s_is_integer : Stmt := topS 1
abbrev N_is_integer : List Str := ["value"]
theorem sc_is_integer : FnScope N_is_integer ["value"] (defScope s_is_integer) := ⟨rfl, rfl, rfl, by decide +kernel, rfl, by decide +kernel, by decide +kernel⟩
def m_is_integer (a_value : D) : N D := ((((.ok a_value : N D).bind (dIsi "int") : N D).bind fun x => (N.tst x).bind fun c => if c = true then (((.ok a_value : N D).bind (dIsi "bool") : N D).bind fun x => (N.tst x).bind fun c => .ok (.bl (!c))) else .ok (.bl false) : N D).bind fun d => .ok (.rt d) : N (Fl Unit Unit)).fin
theorem ok_is_integer {f : Addr} {fd : FuncData} (F : FunD Z.K "is_integer" "is_integer" (defArgs s_is_integer) (defBody s_is_integer) (defScope s_is_integer) [] [] f fd) (T : Txt Z mg cK fI) : FnOk P w Z.K mg base (L2.CX P w) 2 f fd ["value"] (spN Z 1 (app1 m_is_integer)) := by
  refine fn_okD (ps := ["value"]) F sc_is_integer (ar1 _) (fun cdv A outer s H E F0 ds hr tk hl => ?_)
  match ds, hl with
  | [a_value], _ =>
    refine ⟨Unit, Unit, fun _ => [.dat (a_value)], fun _ => [.dat (a_value)], _, ?_, fun _ _ h => h⟩
    exact ((ds_one (ds_ret (de_and (de_isi rfl T.b_isinstance T.b_int (by decide +kernel) (de_var (i := 0) (d := a_value))) (de_one (de_not (de_isi rfl T.b_isinstance T.b_bool (by decide +kernel) (de_var (i := 0) (d := a_value)))))))))

abbrev s_is_index : Stmt := topS 2
abbrev N_is_index : List Str := ["value", "many"]
theorem sc_is_index : FnScope N_is_index ["value", "many"] (defScope s_is_index) := ⟨rfl, rfl, rfl, by decide +kernel, rfl, by decide +kernel, by decide +kernel⟩
def m_is_index (a_value : D) (a_many : D) : N D := ((((.ok a_value : N D).bind fun x => m_is_integer x : N D).bind fun x => (N.tst x).bind fun c => if c = true then (dChain dLe dLt (.ok (.int 0)) (.ok a_value) (.ok a_many)) else .ok (.bl false) : N D).bind fun d => .ok (.rt d) : N (Fl Unit Unit)).fin
theorem ok_is_index {f : Addr} {fd : FuncData} (F : FunD Z.K "is_index" "is_index" (defArgs s_is_index) (defBody s_is_index) (defScope s_is_index) [] [] f fd) (T : Txt Z mg cK fI) (C_is_integer : Df P w Z mg base "is_integer" 2 1 (app1 m_is_integer)) : FnOk P w Z.K mg base (L2.CX P w) 3 f fd ["value", "many"] (spN Z 2 (app2 m_is_index)) := by
  refine fn_okD (ps := ["value", "many"]) F sc_is_index (ar2 _) (fun cdv A outer s H E F0 ds hr tk hl => ?_)
  match ds, hl with
  | [a_value, a_many], _ =>
    refine ⟨Unit, Unit, fun _ => [.dat (a_value), .dat (a_many)], fun _ => [.dat (a_value), .dat (a_many)], _, ?_, fun _ _ h => h⟩
    exact ((ds_one (ds_ret (de_and (de_call1 (Df.cal C_is_integer (hr.mono (by decide))) tk (Wk.un' rfl) (de_var (i := 0) (d := a_value))) (de_one (de_chain op_le op_lt (r2_I0 fun _ _ _ => .bl _) (iOp_tot _) (r2_I0 fun _ _ _ => .bl _) (iOp_tot _) de_int (de_var (i := 0) (d := a_value)) (de_var (i := 1) (d := a_many))))))))

abbrev s_is_sequence : Stmt := topS 3
abbrev N_is_sequence : List Str := ["value"]
theorem sc_is_sequence : FnScope N_is_sequence ["value"] (defScope s_is_sequence) := ⟨rfl, rfl, rfl, by decide +kernel, rfl, by decide +kernel, by decide +kernel⟩
def m_is_sequence (a_value : D) : N D := (((.ok a_value : N D).bind (dIsi2 "list" "tuple") : N D).bind fun d => .ok (.rt d) : N (Fl Unit Unit)).fin
theorem ok_is_sequence {f : Addr} {fd : FuncData} (F : FunD Z.K "is_sequence" "is_sequence" (defArgs s_is_sequence) (defBody s_is_sequence) (defScope s_is_sequence) [] [] f fd) (T : Txt Z mg cK fI) : FnOk P w Z.K mg base (L2.CX P w) 2 f fd ["value"] (spN Z 1 (app1 m_is_sequence)) := by
  refine fn_okD (ps := ["value"]) F sc_is_sequence (ar1 _) (fun cdv A outer s H E F0 ds hr tk hl => ?_)
  match ds, hl with
  | [a_value], _ =>
    refine ⟨Unit, Unit, fun _ => [.dat (a_value)], fun _ => [.dat (a_value)], _, ?_, fun _ _ h => h⟩
    exact ((ds_one (ds_ret (de_isi2 rfl T.b_isinstance T.b_list (by decide +kernel) T.b_tuple (by decide +kernel) (de_var (i := 0) (d := a_value))))))

abbrev s_need_rooms : Stmt := topS 15
abbrev N_need_rooms : List Str := ["rooms", "at", "room"]
theorem sc_need_rooms : FnScope N_need_rooms ["rooms"] (defScope s_need_rooms) := ⟨rfl, rfl, rfl, by decide +kernel, rfl, by decide +kernel, by decide +kernel⟩
def m_need_rooms (a_rooms : D) : N D := (N.seq ((((((.ok a_rooms : N D).bind fun x => m_is_sequence x : N D).bind N.tst : N Bool).bind fun b => .ok (!b) : N Bool).bind fun x => if x = true then .ok true else ((((.ok a_rooms : N D).bind dLen : N D).bind fun x => (.ok (.int 12) : N D).bind fun y => dGt x y : N D).bind N.tst) : N Bool).bind fun x => if x = true then (((.ok (.int 1) : N D).bind dNeg : N D).bind fun d => .err 2 d) else (.ok (.nx (())))) fun (j1 : Unit) => N.seq (((.ok a_rooms : N D).bind fun d => (enOf d).bind fun xs => .ok (numD xs) : N (List D)).bind fun ds => (N.decs dec2 ds).bind fun ps => N.loop (fun (y3 : D × D) (s2 : Unit) => N.seq ((((((.ok y3.2 : N D).bind fun x => m_is_integer x : N D).bind N.tst : N Bool).bind fun b => .ok (!b) : N Bool).bind fun x => if x = true then .ok true else (((dChain dLe dLe (.ok (.int 1)) (.ok y3.2) (.ok (.int 9))).bind N.tst : N Bool).bind fun b => .ok (!b)) : N Bool).bind fun x => if x = true then ((.ok y3.1 : N D).bind fun d => .err 2 d) else (.ok (.nx (())))) fun (j4 : Unit) => .ok (.nx (()))) ps (())) fun (s2 : Unit) => ((.ok a_rooms : N D).bind dTuple : N D).bind fun d => .ok (.rt d) : N (Fl Unit Unit)).fin
theorem ok_need_rooms {f : Addr} {fd : FuncData} (F : FunD Z.K "need_rooms" "need_rooms" (defArgs s_need_rooms) (defBody s_need_rooms) (defScope s_need_rooms) [] [] f fd) (T : Txt Z mg cK fI) (C_is_sequence : Df P w Z mg base "is_sequence" 2 1 (app1 m_is_sequence)) (C_is_integer : Df P w Z mg base "is_integer" 2 1 (app1 m_is_integer)) : FnOk P w Z.K mg base (L2.CX P w) 3 f fd ["rooms"] (spN Z 1 (app1 m_need_rooms)) := by
  refine fn_okD (ps := ["rooms"]) F sc_need_rooms (ar1 _) (fun cdv A outer s H E F0 ds hr tk hl => ?_)
  match ds, hl with
  | [a_rooms], _ =>
    refine ⟨Unit, Unit, fun _ => [.dat (a_rooms), .un, .un], fun _ => [.dat (a_rooms), .un, .un], _, ?_, fun _ _ h => h⟩
    exact ((ds_cons (ds_if (sl := fun (j1 : Unit) => [.dat (a_rooms), .un, .un]) (PW.pt (dw_or (dt_not (dt_val (de_call1 (Df.cal C_is_sequence (hr.mono (by decide))) tk (Wk.un' rfl) (de_var (i := 0) (d := a_rooms))))) (dw_or1 (dt_cmp op_gt (r2_I0 fun _ _ _ => .bl _) (iOp_tot _) (de_len rfl T.b_len (de_var (i := 0) (d := a_rooms))) (de_gint T.i_MOST_LANES) (nomark _))))) (ds_one (ds_raise (ci := 2) rfl T.e_InvalidLanes (hr.mono (by decide) : Room 0 _) tk (Wk.un' rfl) (de_neg de_int))) (ds_nil (()))) (fun (j1 : Unit) => (ds_cons (ds_forG (sl := fun (s2 : Unit) => [.dat (a_rooms), .un, .un]) (()) (fun (y3 : D × D) (s2 : Unit) => N.seq ((((((.ok y3.2 : N D).bind fun x => m_is_integer x : N D).bind N.tst : N Bool).bind fun b => .ok (!b) : N Bool).bind fun x => if x = true then .ok true else (((dChain dLe dLe (.ok (.int 1)) (.ok y3.2) (.ok (.int 9))).bind N.tst : N Bool).bind fun b => .ok (!b)) : N Bool).bind fun x => if x = true then ((.ok y3.1 : N D).bind fun d => .err 2 d) else (.ok (.nx (())))) fun (j4 : Unit) => .ok (.nx (()))) po_cx rfl (src_en rfl T.b_enumerate (de_var (i := 0) (d := a_rooms))) (pat_two (i := 1) (j := 2) rfl (by decide)) (pg_tup rfl (pgs_cons (pg_name (i := 1) sc_need_rooms.nd rfl (by first | exact Or.inl rfl | exact Or.inr rfl)) (pgs_cons (pg_name (i := 2) sc_need_rooms.nd rfl (by first | exact Or.inl rfl | exact Or.inr rfl)) pgs_nil))) (by repeat (first | exact Wk.nil | exact Wk.same (Wk.refl _) | apply Wk.same | apply Wk.un)) (fun y3 s2 => (ds_cons (ds_if (sl := fun (j4 : Unit) => [.dat (a_rooms), .dat (y3.1), .dat (y3.2)]) (PW.pt (dw_or (dt_not (dt_val (de_call1 (Df.cal C_is_integer (hr.mono (by decide))) tk (Wk.un' rfl) (de_var (i := 2) (d := y3.2))))) (dw_or1 (dt_not (dt_chain op_le op_le (r2_I0 fun _ _ _ => .bl _) (iOp_tot _) (r2_I0 fun _ _ _ => .bl _) (iOp_tot _) de_int (de_var (i := 2) (d := y3.2)) (de_gint T.i_MOST_ROOM)))))) (ds_one (ds_raise (ci := 2) rfl T.e_InvalidLanes (hr.mono (by decide) : Room 0 _) tk (Wk.un' rfl) (de_var (i := 1) (d := y3.1)))) (ds_nil (()))) (fun (j4 : Unit) => (ds_nilW (()) (by repeat (first | exact Wk.nil | exact Wk.same (Wk.refl _) | apply Wk.same | apply Wk.un))))))) (fun (s2 : Unit) => (ds_one (ds_ret (de_tuple rfl T.b_tuple (de_var (i := 0) (d := a_rooms))))))))))

abbrev s_is_going : Stmt := topS 17
abbrev N_is_going : List Str := ["value", "many"]
theorem sc_is_going : FnScope N_is_going ["value", "many"] (defScope s_is_going) := ⟨rfl, rfl, rfl, by decide +kernel, rfl, by decide +kernel, by decide +kernel⟩
def m_is_going (a_value : D) (a_many : D) : N D := (N.seq ((((((.ok a_value : N D).bind fun x => m_is_sequence x : N D).bind N.tst : N Bool).bind fun b => .ok (!b) : N Bool).bind fun x => if x = true then .ok true else ((((.ok a_value : N D).bind dLen : N D).bind fun x => (.ok (.int 2) : N D).bind fun y => dNeS x y : N D).bind N.tst) : N Bool).bind fun x => if x = true then ((.ok (.bl false) : N D).bind fun d => .ok (.rt d)) else (.ok (.nx (())))) fun (j1 : Unit) => ((((.ok a_value : N D).bind fun x => (.ok (.int 0) : N D).bind fun y => dIx x y : N D).bind fun x => (.ok a_many : N D).bind fun y => m_is_index x y : N D).bind fun x => (N.tst x).bind fun c => if c = true then ((((.ok a_value : N D).bind fun x => (.ok (.int 1) : N D).bind fun y => dIx x y : N D).bind fun x => (.ok a_many : N D).bind fun y => m_is_index x y : N D).bind fun x => (N.tst x).bind fun c => if c = true then (((.ok a_value : N D).bind fun x => (.ok (.int 0) : N D).bind fun y => dIx x y : N D).bind fun x => ((.ok a_value : N D).bind fun x => (.ok (.int 1) : N D).bind fun y => dIx x y : N D).bind fun y => dNeD x y) else .ok (.bl false)) else .ok (.bl false) : N D).bind fun d => .ok (.rt d) : N (Fl Unit Unit)).fin
theorem ok_is_going {f : Addr} {fd : FuncData} (F : FunD Z.K "is_going" "is_going" (defArgs s_is_going) (defBody s_is_going) (defScope s_is_going) [] [] f fd) (T : Txt Z mg cK fI) (C_is_sequence : Df P w Z mg base "is_sequence" 2 1 (app1 m_is_sequence)) (C_is_index : Df P w Z mg base "is_index" 3 2 (app2 m_is_index)) : FnOk P w Z.K mg base (L2.CX P w) 4 f fd ["value", "many"] (spN Z 2 (app2 m_is_going)) := by
  refine fn_okD (ps := ["value", "many"]) F sc_is_going (ar2 _) (fun cdv A outer s H E F0 ds hr tk hl => ?_)
  match ds, hl with
  | [a_value, a_many], _ =>
    refine ⟨Unit, Unit, fun _ => [.dat (a_value), .dat (a_many)], fun _ => [.dat (a_value), .dat (a_many)], _, ?_, fun _ _ h => h⟩
    exact ((ds_cons (ds_if (sl := fun (j1 : Unit) => [.dat (a_value), .dat (a_many)]) (PW.pt (dw_or (dt_not (dt_val (de_call1 (Df.cal C_is_sequence (hr.mono (by decide))) tk (Wk.un' rfl) (de_var (i := 0) (d := a_value))))) (dw_or1 (dt_cmp op_ne r2_NeS dNeS_tot (de_len rfl T.b_len (de_var (i := 0) (d := a_value))) de_int (nomark _))))) (ds_one (ds_ret de_bl)) (ds_nil (()))) (fun (j1 : Unit) => (ds_one (ds_ret (de_and (de_call2 (Df.cal C_is_index (hr.mono (by decide))) tk (Wk.un' rfl) (de_ixD rfl (de_var (i := 0) (d := a_value)) de_int) (de_var (i := 1) (d := a_many))) (de_and (de_call2 (Df.cal C_is_index (hr.mono (by decide))) tk (Wk.un' rfl) (de_ixD rfl (de_var (i := 0) (d := a_value)) de_int) (de_var (i := 1) (d := a_many))) (de_one (de_cmp (op_neD hr.units) r2_NeD dNeD_tot (de_ixD rfl (de_var (i := 0) (d := a_value)) de_int) (de_ixD rfl (de_var (i := 0) (d := a_value)) de_int) (nomark _))))))))))

abbrev s_need_goings : Stmt := topS 16
abbrev N_need_goings : List Str := ["goings", "many", "found", "at", "going"]
theorem sc_need_goings : FnScope N_need_goings ["goings", "many"] (defScope s_need_goings) := ⟨rfl, rfl, rfl, by decide +kernel, rfl, by decide +kernel, by decide +kernel⟩
def m_need_goings (a_goings : D) (a_many : D) : N D := (N.seq (((((.ok a_goings : N D).bind fun x => m_is_sequence x : N D).bind N.tst : N Bool).bind fun b => .ok (!b) : N Bool).bind fun x => if x = true then (((.ok (.int 1) : N D).bind dNeg : N D).bind fun d => .err 0 d) else (.ok (.nx (())))) fun (j1 : Unit) => N.seq (.ok (.nx ())) fun (_ : Unit) => N.seq (((.ok a_goings : N D).bind fun d => (enOf d).bind fun xs => .ok (numD xs) : N (List D)).bind fun ds => (N.decs dec2 ds).bind fun ps => N.loop (fun (y3 : D × D) (s2 : (List (List Key × D))) => N.seq (((((.ok y3.2 : N D).bind fun x => (.ok a_many : N D).bind fun y => m_is_going x y : N D).bind N.tst : N Bool).bind fun b => .ok (!b) : N Bool).bind fun x => if x = true then ((.ok y3.1 : N D).bind fun d => .err 0 d) else (.ok (.nx (())))) fun (j4 : Unit) => N.seq ((.ok (.bl true) : N D).bind fun v => ((((.ok y3.2 : N D).bind fun x => (.ok (.int 0) : N D).bind fun y => dIx x y : N D).bind fun x => (((.ok y3.2 : N D).bind fun x => (.ok (.int 1) : N D).bind fun y => dIx x y : N D).bind fun x => (.ok [] : N (List D)).bind fun xs => .ok (x :: xs) : N (List D)).bind fun xs => .ok (x :: xs) : N (List D)).bind fun xs => (N.le1 xs).bind fun _ => .ok (.tup xs) : N D).bind fun d => (tkey d).bind fun ks => (N.asrt ((s2).length < sizeLine)).bind fun _ => .ok (.nx (dput (s2) ks v))) fun (t5 : List (List Key × D)) => .ok (.nx (t5))) ps ([])) fun (s2 : (List (List Key × D))) => (((.ok (.lst (s2.map fun kv => .tup (kv.1.map keyD))) : N D).bind dSortP : N D).bind dTuple : N D).bind fun d => .ok (.rt d) : N (Fl Unit Unit)).fin
theorem ok_need_goings {f : Addr} {fd : FuncData} (F : FunD Z.K "need_goings" "need_goings" (defArgs s_need_goings) (defBody s_need_goings) (defScope s_need_goings) [] [] f fd) (T : Txt Z mg cK fI) (C_is_sequence : Df P w Z mg base "is_sequence" 2 1 (app1 m_is_sequence)) (C_is_going : Df P w Z mg base "is_going" 4 2 (app2 m_is_going)) : FnOk P w Z.K mg base (L2.CX P w) 5 f fd ["goings", "many"] (spN Z 2 (app2 m_need_goings)) := by
  refine fn_okD (ps := ["goings", "many"]) F sc_need_goings (ar2 _) (fun cdv A outer s H E F0 ds hr tk hl => ?_)
  match ds, hl with
  | [a_goings, a_many], _ =>
    refine ⟨Unit, Unit, fun _ => [.dat (a_goings), .dat (a_many), .un, .un, .un], fun _ => [.dat (a_goings), .dat (a_many), .un, .un, .un], _, ?_, fun _ _ h => h⟩
    exact ((ds_cons (ds_if (sl := fun (j1 : Unit) => [.dat (a_goings), .dat (a_many), .un, .un, .un]) (dt_not (dt_val (de_call1 (Df.cal C_is_sequence (hr.mono (by decide))) tk (Wk.un' rfl) (de_var (i := 0) (d := a_goings))))) (ds_one (ds_raise (ci := 0) rfl T.e_InvalidTies (hr.mono (by decide) : Room 0 _) tk (Wk.un' rfl) (de_neg de_int))) (ds_nil (()))) (fun (j1 : Unit) => (ds_cons (ds_newT (i := 2) sc_need_goings.nd) (fun (_ : Unit) => (ds_cons (ds_forG (sl := fun (s2 : (List (List Key × D))) => [.dat (a_goings), .dat (a_many), .own (.dT (s2)), .un, .un]) ([]) (fun (y3 : D × D) (s2 : (List (List Key × D))) => N.seq (((((.ok y3.2 : N D).bind fun x => (.ok a_many : N D).bind fun y => m_is_going x y : N D).bind N.tst : N Bool).bind fun b => .ok (!b) : N Bool).bind fun x => if x = true then ((.ok y3.1 : N D).bind fun d => .err 0 d) else (.ok (.nx (())))) fun (j4 : Unit) => N.seq ((.ok (.bl true) : N D).bind fun v => ((((.ok y3.2 : N D).bind fun x => (.ok (.int 0) : N D).bind fun y => dIx x y : N D).bind fun x => (((.ok y3.2 : N D).bind fun x => (.ok (.int 1) : N D).bind fun y => dIx x y : N D).bind fun x => (.ok [] : N (List D)).bind fun xs => .ok (x :: xs) : N (List D)).bind fun xs => .ok (x :: xs) : N (List D)).bind fun xs => (N.le1 xs).bind fun _ => .ok (.tup xs) : N D).bind fun d => (tkey d).bind fun ks => (N.asrt ((s2).length < sizeLine)).bind fun _ => .ok (.nx (dput (s2) ks v))) fun (t5 : List (List Key × D)) => .ok (.nx (t5))) po_cx rfl (src_en rfl T.b_enumerate (de_var (i := 0) (d := a_goings))) (pat_two (i := 3) (j := 4) rfl (by decide)) (pg_tup rfl (pgs_cons (pg_name (i := 3) sc_need_goings.nd rfl (by first | exact Or.inl rfl | exact Or.inr rfl)) (pgs_cons (pg_name (i := 4) sc_need_goings.nd rfl (by first | exact Or.inl rfl | exact Or.inr rfl)) pgs_nil))) (by repeat (first | exact Wk.nil | exact Wk.same (Wk.refl _) | apply Wk.same | apply Wk.un)) (fun y3 s2 => (ds_cons (ds_if (sl := fun (j4 : Unit) => [.dat (a_goings), .dat (a_many), .own (.dT (s2)), .dat (y3.1), .dat (y3.2)]) (dt_not (dt_val (de_call2 (Df.cal C_is_going (hr.mono (by decide))) tk (Wk.un' rfl) (de_var (i := 4) (d := y3.2)) (de_var (i := 1) (d := a_many))))) (ds_one (ds_raise (ci := 0) rfl T.e_InvalidTies (hr.mono (by decide) : Room 0 _) tk (Wk.un' rfl) (de_var (i := 3) (d := y3.1)))) (ds_nil (()))) (fun (j4 : Unit) => (ds_cons (ds_putT (i := 2) (kvs := s2) hr rfl rfl (de_tup (da_cons (de_ixD rfl (de_var (i := 4) (d := y3.2)) de_int) (da_cons (de_ixD rfl (de_var (i := 4) (d := y3.2)) de_int) da_nil))) de_bl) (fun (t5 : List (List Key × D)) => (ds_nilW (t5) (by repeat (first | exact Wk.nil | exact Wk.same (Wk.refl _) | apply Wk.same | apply Wk.un))))))))) (fun (s2 : (List (List Key × D))) => (ds_one (ds_ret (de_tuple rfl T.b_tuple (de_sortP rfl T.b_sorted (de_listT (i := 2) (kvs := s2) rfl T.b_list rfl rfl))))))))))))

abbrev s_LaneMap_init : Stmt := clsS (topS 14) 0
abbrev N_LaneMap_init : List Str := ["self", "rooms", "goings"]
theorem sc_LaneMap_init : FnScope N_LaneMap_init ["self", "rooms", "goings"] (defScope s_LaneMap_init) := ⟨rfl, rfl, rfl, by decide +kernel, rfl, by decide +kernel, by decide +kernel⟩
def m_LaneMap_init (a_rooms : D) (a_goings : D) : N D := (N.seq (((.ok a_rooms : N D).bind fun x => m_need_rooms x : N D).bind fun d => (N.asrt (([] : List (Str × D)).length < 1000)).bind fun _ => .ok (.nx d)) fun (f1 : D) => N.seq (((.ok a_goings : N D).bind fun x => (((match ((putD ("rooms" : Str) f1 []) : List (Str × D)).lookup ("rooms" : Str) with | some d => .ok d | none => .stuck) : N D).bind dLen : N D).bind fun y => m_need_goings x y : N D).bind fun d => (N.asrt (((putD ("rooms" : Str) f1 []) : List (Str × D)).length < 1000)).bind fun _ => .ok (.nx d)) fun (f2 : D) => .ok (.nx ((putD ("goings" : Str) f2 (putD ("rooms" : Str) f1 [])))) : N (Fl (List (Str × D)) Unit)).made (atT 6) 6 (fun kv => kv)
theorem ok_LaneMap_init {f : Addr} {fd : FuncData} (F : FunD Z.K "__init__" "LaneMap.__init__" (defArgs s_LaneMap_init) (defBody s_LaneMap_init) (defScope s_LaneMap_init) [] [] f fd) (T : Txt Z mg cK fI) (C_need_rooms : Df P w Z mg base "need_rooms" 3 1 (app1 m_need_rooms)) (C_need_goings : Df P w Z mg base "need_goings" 5 2 (app2 m_need_goings)) : FnOk P w Z.K mg base (L2.CX P w) 6 f fd ["self", "rooms", "goings"] (spInit Z 6 2 (app2 m_LaneMap_init)) := by
  refine init_ok (ps := ["self", "rooms", "goings"]) F sc_LaneMap_init (ar2 _) rfl (fun cdv A outer s H E x B ds hr tk hl => ?_)
  match ds, hl with
  | [a_rooms, a_goings], _ =>
    refine ⟨List (Str × D), Unit, fun kv => [.own (.ins x 6 kv), .dat (a_rooms), .dat (a_goings)], fun _ => [.own (.ins x 6 []), .dat (a_rooms), .dat (a_goings)], fun kv => kv, fun _ => _, _, fun _ => rfl, ?_, fun _ _ h => (by rw [T.at_]; exact h)⟩
    exact ((ds_cons (ds_fld (i := 0) (kvs := []) rfl rfl T.cl_LaneMap T.na_LaneMap_rooms (de_call1 (Df.cal C_need_rooms (hr.mono (by decide))) tk (Wk.un' rfl) (de_var (i := 1) (d := a_rooms)))) (fun (f1 : D) => (ds_cons (ds_fld (i := 0) (kvs := (putD ("rooms" : Str) f1 [])) rfl rfl T.cl_LaneMap T.na_LaneMap_goings (de_call2 (Df.cal C_need_goings (hr.mono (by decide))) tk (Wk.un' rfl) (de_var (i := 2) (d := a_goings)) (de_len rfl T.b_len (de_fldO (i := 0) (kvs := (putD ("rooms" : Str) f1 [])) rfl rfl T.cl_LaneMap T.na_LaneMap_rooms)))) (fun (f2 : D) => (ds_nil ((putD ("goings" : Str) f2 (putD ("rooms" : Str) f1 [])))))))))

abbrev s_LaneMap_eq : Stmt := clsS (topS 14) 1
abbrev N_LaneMap_eq : List Str := ["self", "other"]
theorem sc_LaneMap_eq : FnScope N_LaneMap_eq ["self", "other"] (defScope s_LaneMap_eq) := ⟨rfl, rfl, rfl, by decide +kernel, rfl, by decide +kernel, by decide +kernel⟩
def m_LaneMap_eq (a_self : D) (a_other : D) : N D := ((((.ok a_other : N D).bind (dIsC clT 6) : N D).bind fun x => (N.tst x).bind fun c => if c = true then ((((.ok a_self : N D).bind (dFld atT "rooms") : N D).bind fun x => ((.ok a_other : N D).bind (dFld atT "rooms") : N D).bind fun y => dEqD x y : N D).bind fun x => (N.tst x).bind fun c => if c = true then (((.ok a_self : N D).bind (dFld atT "goings") : N D).bind fun x => ((.ok a_other : N D).bind (dFld atT "goings") : N D).bind fun y => dEqD x y) else .ok (.bl false)) else .ok (.bl false) : N D).bind fun d => .ok (.rt d) : N (Fl Unit Unit)).fin
theorem ok_LaneMap_eq {f : Addr} {fd : FuncData} (F : FunD Z.K "__eq__" "LaneMap.__eq__" (defArgs s_LaneMap_eq) (defBody s_LaneMap_eq) (defScope s_LaneMap_eq) [] [] f fd) (T : Txt Z mg cK fI) : FnOk P w Z.K mg base (L2.CX P w) 2 f fd ["self", "other"] (spN Z 2 (app2 m_LaneMap_eq)) := by
  refine fn_okD (ps := ["self", "other"]) F sc_LaneMap_eq (ar2 _) (fun cdv A outer s H E F0 ds hr tk hl => ?_)
  match ds, hl with
  | [a_self, a_other], _ =>
    refine ⟨Unit, Unit, fun _ => [.dat (a_self), .dat (a_other)], fun _ => [.dat (a_self), .dat (a_other)], _, ?_, fun _ _ h => h⟩
    exact ((ds_one (ds_ret (de_and (de_isC rfl T.b_isinstance T.m_LaneMap T.kp_LaneMap T.is_LaneMap T.it_LaneMap (de_var (i := 1) (d := a_other))) (de_and (de_cmp (op_eqD hr.units) r2_EqD dEqD_tot (de_fld T.at_ T.fa_rooms (de_var (i := 0) (d := a_self))) (de_fld T.at_ T.fa_rooms (de_var (i := 1) (d := a_other))) (nomark _)) (de_one (de_cmp (op_eqD hr.units) r2_EqD dEqD_tot (de_fld T.at_ T.fa_goings (de_var (i := 0) (d := a_self))) (de_fld T.at_ T.fa_goings (de_var (i := 1) (d := a_other))) (nomark _))))))))

abbrev s_need_lanes : Stmt := topS 18
abbrev N_need_lanes : List Str := ["lanes"]
theorem sc_need_lanes : FnScope N_need_lanes ["lanes"] (defScope s_need_lanes) := ⟨rfl, rfl, rfl, by decide +kernel, rfl, by decide +kernel, by decide +kernel⟩
def m_need_lanes (a_lanes : D) : N D := (N.seq (((((.ok a_lanes : N D).bind (dIsC clT 6) : N D).bind N.tst : N Bool).bind fun b => .ok (!b) : N Bool).bind fun x => if x = true then (((.ok (.int 1) : N D).bind dNeg : N D).bind fun d => .err 2 d) else (.ok (.nx (())))) fun (j1 : Unit) => .ok (.nx ()) : N (Fl Unit Unit)).fin
theorem ok_need_lanes {f : Addr} {fd : FuncData} (F : FunD Z.K "need_lanes" "need_lanes" (defArgs s_need_lanes) (defBody s_need_lanes) (defScope s_need_lanes) [] [] f fd) (T : Txt Z mg cK fI) : FnOk P w Z.K mg base (L2.CX P w) 2 f fd ["lanes"] (spN Z 1 (app1 m_need_lanes)) := by
  refine fn_okD (ps := ["lanes"]) F sc_need_lanes (ar1 _) (fun cdv A outer s H E F0 ds hr tk hl => ?_)
  match ds, hl with
  | [a_lanes], _ =>
    refine ⟨Unit, Unit, fun _ => [.dat (a_lanes)], fun _ => [.dat (a_lanes)], _, ?_, fun _ _ h => h⟩
    exact ((ds_cons (ds_if (sl := fun (j1 : Unit) => [.dat (a_lanes)]) (dt_not (dt_val (de_isC rfl T.b_isinstance T.m_LaneMap T.kp_LaneMap T.is_LaneMap T.it_LaneMap (de_var (i := 0) (d := a_lanes))))) (ds_one (ds_raise (ci := 2) rfl T.e_InvalidLanes (hr.mono (by decide) : Room 0 _) tk (Wk.un' rfl) (de_neg de_int))) (ds_nil (()))) (fun (j1 : Unit) => (ds_nil ()))))

abbrev s_is_lane_way : Stmt := topS 20
abbrev N_is_lane_way : List Str := ["allowed", "many", "lane", "value", "stops", "going", "other"]
theorem sc_is_lane_way : FnScope N_is_lane_way ["allowed", "many", "lane", "value"] (defScope s_is_lane_way) := ⟨rfl, rfl, rfl, by decide +kernel, rfl, by decide +kernel, by decide +kernel⟩
def m_is_lane_way (a_allowed : D) (a_many : D) (a_lane : D) (a_value : D) : N D := (N.seq ((((((.ok a_value : N D).bind fun x => m_is_sequence x : N D).bind N.tst : N Bool).bind fun b => .ok (!b) : N Bool).bind fun x => if x = true then .ok true else ((((N.lcG ((.ok a_value : N D).bind seqOf) (fun d => some d) (fun c1 : D => (.ok true : N Bool)) (fun c1 : D => ((.ok c1 : N D).bind fun x => (.ok a_many : N D).bind fun y => m_is_index x y : N D)) : N D).bind dAll : N D).bind N.tst : N Bool).bind fun b => .ok (!b)) : N Bool).bind fun x => if x = true then ((.ok (.bl false) : N D).bind fun d => .ok (.rt d)) else (.ok (.nx (())))) fun (j2 : Unit) => N.seq (((((.ok a_lane : N D).bind fun x => (.ok [] : N (List D)).bind fun xs => .ok (x :: xs) : N (List D)).bind fun xs => (N.le1 xs).bind fun _ => .ok (.lst xs) : N D).bind fun x => ((.ok a_value : N D).bind dList : N D).bind fun y => dCatL x y : N D).bind fun d => .ok (.nx d)) fun (stops_3 : D) => ((N.lcG ((.ok stops_3 : N D).bind fun x => ((.ok stops_3 : N D).bind fun d => ((.ok (.int 1) : N D).bind fun d => (toI d).bind fun i => .ok (some i) : N (Option Int)).bind fun l => (.ok none : N (Option Int)).bind fun h => dSlL d l h : N D).bind fun y => dZipL x y) (fun d => some d) (fun c4 : D => (.ok true : N Bool)) (fun c4 : D => ((.ok c4 : N D).bind fun x => (.ok a_allowed : N D).bind fun y => dinB false x y : N D)) : N D).bind dAll : N D).bind fun d => .ok (.rt d) : N (Fl Unit Unit)).fin
theorem ok_is_lane_way {f : Addr} {fd : FuncData} (F : FunD Z.K "is_lane_way" "is_lane_way" (defArgs s_is_lane_way) (defBody s_is_lane_way) (defScope s_is_lane_way) [] [] f fd) (T : Txt Z mg cK fI) (C_is_sequence : Df P w Z mg base "is_sequence" 2 1 (app1 m_is_sequence)) (C_is_index : Df P w Z mg base "is_index" 3 2 (app2 m_is_index)) : FnOk P w Z.K mg base (L2.CX P w) 4 f fd ["allowed", "many", "lane", "value"] (spN Z 4 (app4 m_is_lane_way)) := by
  refine fn_okD (ps := ["allowed", "many", "lane", "value"]) F sc_is_lane_way (ar4 _) (fun cdv A outer s H E F0 ds hr tk hl => ?_)
  match ds, hl with
  | [a_allowed, a_many, a_lane, a_value], _ =>
    refine ⟨Unit, Unit, fun _ => [.dat (a_allowed), .dat (a_many), .dat (a_lane), .dat (a_value), .un, .un, .un], fun _ => [.dat (a_allowed), .dat (a_many), .dat (a_lane), .dat (a_value), .un, .un, .un], _, ?_, fun _ _ h => h⟩
    exact ((ds_cons (ds_if (sl := fun (j2 : Unit) => [.dat (a_allowed), .dat (a_many), .dat (a_lane), .dat (a_value), .un, .un, .un]) (PW.pt (dw_or (dt_not (dt_val (de_call1 (Df.cal C_is_sequence (hr.mono (by decide))) tk (Wk.un' rfl) (de_var (i := 3) (d := a_value))))) (dw_or1 (dt_not (dt_val (de_all rfl rfl T.b_all (de_lcG (own := [("other", 6)]) (m := 7) rfl sc_is_lane_way.nd (src_seq rfl (de_var (i := 3) (d := a_value))) (pat_name 6) (blkOk_by (own := [("other", 6)]) (N := N_is_lane_way) (sc := defScope s_is_lane_way) (by decide +kernel)) (fun _ _ _ _ _ => pg_name (i := 6) sc_is_lane_way.nd rfl (Or.inl rfl)) (fun _ _ _ _ _ c1 => (dts_nil (y := ()))) (fun _ _ _ _ _ c1 => (de_call2 (Df.cal C_is_index (hr.mono (by decide))) takes_no (Wk.un' rfl) (de_var (i := 6) (d := c1)) (de_var (i := 1) (d := a_many))))))))))) (ds_one (ds_ret de_bl)) (ds_nil (()))) (fun (j2 : Unit) => (ds_cons (ds_set (i := 4) sc_is_lane_way.nd (de_catL rfl (de_lst (da_cons (de_var (i := 2) (d := a_lane)) da_nil)) (de_list rfl T.b_list (de_var (i := 3) (d := a_value))))) (fun (stops_3 : D) => (ds_one (ds_ret (de_all rfl rfl T.b_all (de_lcG (own := [("going", 5)]) (m := 7) rfl sc_is_lane_way.nd (src_zipN rfl T.b_zip (de_var (i := 4) (d := stops_3)) (de_slL rfl (de_var (i := 4) (d := stops_3)) (do_some de_int) do_none)) (pat_name 5) (blkOk_by (own := [("going", 5)]) (N := N_is_lane_way) (sc := defScope s_is_lane_way) (by decide +kernel)) (fun _ _ _ _ _ => pg_name (i := 5) sc_is_lane_way.nd rfl (Or.inl rfl)) (fun _ _ _ _ _ c4 => (dts_nil (y := ()))) (fun _ _ _ _ _ c4 => (de_din hr (de_var (i := 5) (d := c4)) (de_var (i := 0) (d := a_allowed)))))))))))))

abbrev s_need_standing : Stmt := topS 19
abbrev N_need_standing : List Str := ["lanes", "value", "allowed", "lane", "row", "going", "way"]
theorem sc_need_standing : FnScope N_need_standing ["lanes", "value"] (defScope s_need_standing) := ⟨rfl, rfl, rfl, by decide +kernel, rfl, by decide +kernel, by decide +kernel⟩
def m_need_standing (a_lanes : D) (a_value : D) : N D := (N.seq (((.ok a_lanes : N D).bind fun x => m_need_lanes x : N D).bind fun _ => .ok (.nx ())) fun (_ : Unit) => N.seq ((((((.ok a_value : N D).bind fun x => m_is_sequence x : N D).bind N.tst : N Bool).bind fun b => .ok (!b) : N Bool).bind fun x => if x = true then .ok true else ((((.ok a_value : N D).bind dLen : N D).bind fun x => (((.ok a_lanes : N D).bind (dFld atT "rooms") : N D).bind dLen : N D).bind fun y => dNeS x y : N D).bind N.tst) : N Bool).bind fun x => if x = true then (((.ok (.int 1) : N D).bind dNeg : N D).bind fun d => .err 1 d) else (.ok (.nx (())))) fun (j1 : Unit) => N.seq ((N.dcG (((.ok a_lanes : N D).bind (dFld atT "goings") : N D).bind seqOf) (fun d => some d) (fun c3 : D => (.ok true : N Bool)) (fun c3 : D => (.ok c3 : N D)) (fun c3 : D => (.ok (.bl true) : N D)) : N D).bind fun d => .ok (.nx d)) fun (allowed_2 : D) => N.seq (((.ok a_value : N D).bind fun d => (enOf d).bind fun xs => .ok (numD xs) : N (List D)).bind fun ds => (N.decs dec2 ds).bind fun ps => N.loop (fun (y5 : D × D) (s4 : Unit) => N.seq ((((((.ok y5.2 : N D).bind fun x => m_is_sequence x : N D).bind N.tst : N Bool).bind fun b => .ok (!b) : N Bool).bind fun x => if x = true then .ok true else ((((.ok y5.2 : N D).bind dLen : N D).bind fun x => (((.ok a_lanes : N D).bind (dFld atT "rooms") : N D).bind fun x => (.ok y5.1 : N D).bind fun y => dIx x y : N D).bind fun y => dGt x y : N D).bind N.tst) : N Bool).bind fun x => if x = true then ((.ok y5.1 : N D).bind fun d => .err 1 d) else (.ok (.nx (())))) fun (j6 : Unit) => N.seq (((((N.lcG ((.ok y5.2 : N D).bind seqOf) (fun d => some d) (fun c7 : D => (.ok true : N Bool)) (fun c7 : D => ((.ok allowed_2 : N D).bind fun x => (((.ok a_lanes : N D).bind (dFld atT "rooms") : N D).bind dLen : N D).bind fun y => (.ok y5.1 : N D).bind fun z => (.ok c7 : N D).bind fun u => m_is_lane_way x y z u : N D)) : N D).bind dAll : N D).bind N.tst : N Bool).bind fun b => .ok (!b) : N Bool).bind fun x => if x = true then ((.ok y5.1 : N D).bind fun d => .err 1 d) else (.ok (.nx (())))) fun (j8 : Unit) => .ok (.nx (()))) ps (())) fun (s4 : Unit) => ((N.lcG ((.ok a_value : N D).bind seqOf) (fun d => some d) (fun c9 : D => (.ok true : N Bool)) (fun c9 : D => ((N.lcG ((.ok c9 : N D).bind seqOf) (fun d => some d) (fun c10 : D => (.ok true : N Bool)) (fun c10 : D => ((.ok c10 : N D).bind dTuple : N D)) : N D).bind dTuple : N D)) : N D).bind dTuple : N D).bind fun d => .ok (.rt d) : N (Fl Unit Unit)).fin
theorem ok_need_standing {f : Addr} {fd : FuncData} (F : FunD Z.K "need_standing" "need_standing" (defArgs s_need_standing) (defBody s_need_standing) (defScope s_need_standing) [] [] f fd) (T : Txt Z mg cK fI) (C_need_lanes : Df P w Z mg base "need_lanes" 2 1 (app1 m_need_lanes)) (C_is_sequence : Df P w Z mg base "is_sequence" 2 1 (app1 m_is_sequence)) (C_is_lane_way : Df P w Z mg base "is_lane_way" 4 4 (app4 m_is_lane_way)) : FnOk P w Z.K mg base (L2.CX P w) 5 f fd ["lanes", "value"] (spN Z 2 (app2 m_need_standing)) := by
  refine fn_okD (ps := ["lanes", "value"]) F sc_need_standing (ar2 _) (fun cdv A outer s H E F0 ds hr tk hl => ?_)
  match ds, hl with
  | [a_lanes, a_value], _ =>
    refine ⟨Unit, Unit, fun _ => [.dat (a_lanes), .dat (a_value), .un, .un, .un, .un, .un], fun _ => [.dat (a_lanes), .dat (a_value), .un, .un, .un, .un, .un], _, ?_, fun _ _ h => h⟩
    exact ((ds_cons (ds_expr (de_call1 (Df.cal C_need_lanes (hr.mono (by decide))) tk (Wk.un' rfl) (de_var (i := 0) (d := a_lanes)))) (fun (_ : Unit) => (ds_cons (ds_if (sl := fun (j1 : Unit) => [.dat (a_lanes), .dat (a_value), .un, .un, .un, .un, .un]) (PW.pt (dw_or (dt_not (dt_val (de_call1 (Df.cal C_is_sequence (hr.mono (by decide))) tk (Wk.un' rfl) (de_var (i := 1) (d := a_value))))) (dw_or1 (dt_cmp op_ne r2_NeS dNeS_tot (de_len rfl T.b_len (de_var (i := 1) (d := a_value))) (de_len rfl T.b_len (de_fld T.at_ T.fa_rooms (de_var (i := 0) (d := a_lanes)))) (nomark _))))) (ds_one (ds_raise (ci := 1) rfl T.e_InvalidStanding (hr.mono (by decide) : Room 0 _) tk (Wk.un' rfl) (de_neg de_int))) (ds_nil (()))) (fun (j1 : Unit) => (ds_cons (ds_set (i := 2) sc_need_standing.nd (de_dcG (own := [("going", 5)]) (m := 7) hr rfl sc_need_standing.nd (src_seq rfl (de_fld T.at_ T.fa_goings (de_var (i := 0) (d := a_lanes)))) (pat_name 5) (blkOk_by (own := [("going", 5)]) (N := N_need_standing) (sc := defScope s_need_standing) (by decide +kernel)) (fun _ _ _ _ _ => pg_name (i := 5) sc_need_standing.nd rfl (Or.inl rfl)) (fun _ _ _ _ _ c3 => (dts_nil (y := ()))) (fun _ _ _ _ _ c3 => (de_var (i := 5) (d := c3))) (fun _ _ _ _ _ c3 => de_bl))) (fun (allowed_2 : D) => (ds_cons (ds_forG (sl := fun (s4 : Unit) => [.dat (a_lanes), .dat (a_value), .dat (allowed_2), .un, .un, .un, .un]) (()) (fun (y5 : D × D) (s4 : Unit) => N.seq ((((((.ok y5.2 : N D).bind fun x => m_is_sequence x : N D).bind N.tst : N Bool).bind fun b => .ok (!b) : N Bool).bind fun x => if x = true then .ok true else ((((.ok y5.2 : N D).bind dLen : N D).bind fun x => (((.ok a_lanes : N D).bind (dFld atT "rooms") : N D).bind fun x => (.ok y5.1 : N D).bind fun y => dIx x y : N D).bind fun y => dGt x y : N D).bind N.tst) : N Bool).bind fun x => if x = true then ((.ok y5.1 : N D).bind fun d => .err 1 d) else (.ok (.nx (())))) fun (j6 : Unit) => N.seq (((((N.lcG ((.ok y5.2 : N D).bind seqOf) (fun d => some d) (fun c7 : D => (.ok true : N Bool)) (fun c7 : D => ((.ok allowed_2 : N D).bind fun x => (((.ok a_lanes : N D).bind (dFld atT "rooms") : N D).bind dLen : N D).bind fun y => (.ok y5.1 : N D).bind fun z => (.ok c7 : N D).bind fun u => m_is_lane_way x y z u : N D)) : N D).bind dAll : N D).bind N.tst : N Bool).bind fun b => .ok (!b) : N Bool).bind fun x => if x = true then ((.ok y5.1 : N D).bind fun d => .err 1 d) else (.ok (.nx (())))) fun (j8 : Unit) => .ok (.nx (()))) po_cx rfl (src_en rfl T.b_enumerate (de_var (i := 1) (d := a_value))) (pat_two (i := 3) (j := 4) rfl (by decide)) (pg_tup rfl (pgs_cons (pg_name (i := 3) sc_need_standing.nd rfl (by first | exact Or.inl rfl | exact Or.inr rfl)) (pgs_cons (pg_name (i := 4) sc_need_standing.nd rfl (by first | exact Or.inl rfl | exact Or.inr rfl)) pgs_nil))) (by repeat (first | exact Wk.nil | exact Wk.same (Wk.refl _) | apply Wk.same | apply Wk.un)) (fun y5 s4 => (ds_cons (ds_if (sl := fun (j6 : Unit) => [.dat (a_lanes), .dat (a_value), .dat (allowed_2), .dat (y5.1), .dat (y5.2), .un, .un]) (PW.pt (dw_or (dt_not (dt_val (de_call1 (Df.cal C_is_sequence (hr.mono (by decide))) tk (Wk.un' rfl) (de_var (i := 4) (d := y5.2))))) (dw_or1 (dt_cmp op_gt (r2_I0 fun _ _ _ => .bl _) (iOp_tot _) (de_len rfl T.b_len (de_var (i := 4) (d := y5.2))) (de_ixD rfl (de_fld T.at_ T.fa_rooms (de_var (i := 0) (d := a_lanes))) (de_var (i := 3) (d := y5.1))) (nomark _))))) (ds_one (ds_raise (ci := 1) rfl T.e_InvalidStanding (hr.mono (by decide) : Room 0 _) tk (Wk.un' rfl) (de_var (i := 3) (d := y5.1)))) (ds_nil (()))) (fun (j6 : Unit) => (ds_cons (ds_if (sl := fun (j8 : Unit) => [.dat (a_lanes), .dat (a_value), .dat (allowed_2), .dat (y5.1), .dat (y5.2), .un, .un]) (dt_not (dt_val (de_all rfl rfl T.b_all (de_lcG (own := [("way", 6)]) (m := 7) rfl sc_need_standing.nd (src_seq rfl (de_var (i := 4) (d := y5.2))) (pat_name 6) (blkOk_by (own := [("way", 6)]) (N := N_need_standing) (sc := defScope s_need_standing) (by decide +kernel)) (fun _ _ _ _ _ => pg_name (i := 6) sc_need_standing.nd rfl (Or.inl rfl)) (fun _ _ _ _ _ c7 => (dts_nil (y := ()))) (fun _ _ _ _ _ c7 => (de_call4 (Df.cal C_is_lane_way (hr.mono (by decide))) takes_no (Wk.un' rfl) (de_var (i := 2) (d := allowed_2)) (de_len rfl T.b_len (de_fld T.at_ T.fa_rooms (de_var (i := 0) (d := a_lanes)))) (de_var (i := 3) (d := y5.1)) (de_var (i := 6) (d := c7)))))))) (ds_one (ds_raise (ci := 1) rfl T.e_InvalidStanding (hr.mono (by decide) : Room 0 _) tk (Wk.un' rfl) (de_var (i := 3) (d := y5.1)))) (ds_nil (()))) (fun (j8 : Unit) => (ds_nilW (()) (by repeat (first | exact Wk.nil | exact Wk.same (Wk.refl _) | apply Wk.same | apply Wk.un))))))))) (fun (s4 : Unit) => (ds_one (ds_ret (de_tuple rfl T.b_tuple (de_lcG (own := [("row", 4)]) (m := 7) rfl sc_need_standing.nd (src_seq rfl (de_var (i := 1) (d := a_value))) (pat_name 4) (blkOk_by (own := [("row", 4)]) (N := N_need_standing) (sc := defScope s_need_standing) (by decide +kernel)) (fun _ _ _ _ _ => pg_name (i := 4) sc_need_standing.nd rfl (Or.inl rfl)) (fun _ _ _ _ _ c9 => (dts_nil (y := ()))) (fun _ _ _ _ _ c9 => (de_tuple rfl T.b_tuple (de_lcG (own := [("way", 6)]) (m := 7) rfl sc_need_standing.nd (src_seq rfl (de_var (i := 4) (d := c9))) (pat_name 6) (blkOk_in (own := [("way", 6)]) (N := N_need_standing) (sc := defScope s_need_standing) rfl (by decide +kernel)) (fun _ _ _ _ _ => pg_name (i := 6) sc_need_standing.nd rfl (Or.inl rfl)) (fun _ _ _ _ _ c10 => (dts_nil (y := ()))) (fun _ _ _ _ _ c10 => (de_tuple rfl T.b_tuple (de_var (i := 6) (d := c10))))))))))))))))))))

abbrev s_is_full : Stmt := topS 24
abbrev N_is_full : List Str := ["lanes", "standing", "lane"]
theorem sc_is_full : FnScope N_is_full ["lanes", "standing", "lane"] (defScope s_is_full) := ⟨rfl, rfl, rfl, by decide +kernel, rfl, by decide +kernel, by decide +kernel⟩
def m_is_full (a_lanes : D) (a_standing : D) (a_lane : D) : N D := (((((.ok a_standing : N D).bind fun x => (.ok a_lane : N D).bind fun y => dIx x y : N D).bind dLen : N D).bind fun x => (((.ok a_lanes : N D).bind (dFld atT "rooms") : N D).bind fun x => (.ok a_lane : N D).bind fun y => dIx x y : N D).bind fun y => dEqD x y : N D).bind fun d => .ok (.rt d) : N (Fl Unit Unit)).fin
theorem ok_is_full {f : Addr} {fd : FuncData} (F : FunD Z.K "is_full" "is_full" (defArgs s_is_full) (defBody s_is_full) (defScope s_is_full) [] [] f fd) (T : Txt Z mg cK fI) : FnOk P w Z.K mg base (L2.CX P w) 2 f fd ["lanes", "standing", "lane"] (spN Z 3 (app3 m_is_full)) := by
  refine fn_okD (ps := ["lanes", "standing", "lane"]) F sc_is_full (ar3 _) (fun cdv A outer s H E F0 ds hr tk hl => ?_)
  match ds, hl with
  | [a_lanes, a_standing, a_lane], _ =>
    refine ⟨Unit, Unit, fun _ => [.dat (a_lanes), .dat (a_standing), .dat (a_lane)], fun _ => [.dat (a_lanes), .dat (a_standing), .dat (a_lane)], _, ?_, fun _ _ h => h⟩
    exact ((ds_one (ds_ret (de_cmp (op_eqD hr.units) r2_EqD dEqD_tot (de_len rfl T.b_len (de_ixD rfl (de_var (i := 1) (d := a_standing)) (de_var (i := 2) (d := a_lane)))) (de_ixD rfl (de_fld T.at_ T.fa_rooms (de_var (i := 0) (d := a_lanes))) (de_var (i := 2) (d := a_lane))) (nomark _)))))

abbrev s_can_go : Stmt := topS 23
abbrev N_can_go : List Str := ["lanes", "standing", "lane", "way"]
theorem sc_can_go : FnScope N_can_go ["lanes", "standing", "lane"] (defScope s_can_go) := ⟨rfl, rfl, rfl, by decide +kernel, rfl, by decide +kernel, by decide +kernel⟩
def m_can_go (a_lanes : D) (a_standing : D) (a_lane : D) : N D := (N.seq ((((((.ok a_standing : N D).bind fun x => (.ok a_lane : N D).bind fun y => dIx x y : N D).bind dLen : N D).bind fun x => (.ok (.int 0) : N D).bind fun y => dEqS x y : N D).bind N.tst : N Bool).bind fun x => if x = true then ((.ok (.bl false) : N D).bind fun d => .ok (.rt d)) else (.ok (.nx (())))) fun (j1 : Unit) => N.seq ((((.ok a_standing : N D).bind fun x => (.ok a_lane : N D).bind fun y => dIx x y : N D).bind fun x => (.ok (.int 0) : N D).bind fun y => dIx x y : N D).bind fun d => .ok (.nx d)) fun (way_2 : D) => ((((.ok way_2 : N D).bind dLen : N D).bind fun x => (.ok (.int 0) : N D).bind fun y => dEqS x y : N D).bind fun x => (N.tst x).bind fun c => if c = true then .ok (.bl true) else (((.ok a_lanes : N D).bind fun x => (.ok a_standing : N D).bind fun y => ((.ok way_2 : N D).bind fun x => (.ok (.int 0) : N D).bind fun y => dIx x y : N D).bind fun z => m_is_full x y z : N D).bind fun x => (N.tst x).bind fun c => .ok (.bl (!c))) : N D).bind fun d => .ok (.rt d) : N (Fl Unit Unit)).fin
theorem ok_can_go {f : Addr} {fd : FuncData} (F : FunD Z.K "can_go" "can_go" (defArgs s_can_go) (defBody s_can_go) (defScope s_can_go) [] [] f fd) (T : Txt Z mg cK fI) (C_is_full : Df P w Z mg base "is_full" 2 3 (app3 m_is_full)) : FnOk P w Z.K mg base (L2.CX P w) 3 f fd ["lanes", "standing", "lane"] (spN Z 3 (app3 m_can_go)) := by
  refine fn_okD (ps := ["lanes", "standing", "lane"]) F sc_can_go (ar3 _) (fun cdv A outer s H E F0 ds hr tk hl => ?_)
  match ds, hl with
  | [a_lanes, a_standing, a_lane], _ =>
    refine ⟨Unit, Unit, fun _ => [.dat (a_lanes), .dat (a_standing), .dat (a_lane), .un], fun _ => [.dat (a_lanes), .dat (a_standing), .dat (a_lane), .un], _, ?_, fun _ _ h => h⟩
    exact ((ds_cons (ds_if (sl := fun (j1 : Unit) => [.dat (a_lanes), .dat (a_standing), .dat (a_lane), .un]) (dt_cmp op_eq r2_EqS dEqS_tot (de_len rfl T.b_len (de_ixD rfl (de_var (i := 1) (d := a_standing)) (de_var (i := 2) (d := a_lane)))) de_int (nomark _)) (ds_one (ds_ret de_bl)) (ds_nil (()))) (fun (j1 : Unit) => (ds_cons (ds_set (i := 3) sc_can_go.nd (de_ixD rfl (de_ixD rfl (de_var (i := 1) (d := a_standing)) (de_var (i := 2) (d := a_lane))) de_int)) (fun (way_2 : D) => (ds_one (ds_ret (de_or (de_cmp op_eq r2_EqS dEqS_tot (de_len rfl T.b_len (de_var (i := 3) (d := way_2))) de_int (nomark _)) (de_one (de_not (de_call3 (Df.cal C_is_full (hr.mono (by decide))) tk (Wk.un' rfl) (de_var (i := 0) (d := a_lanes)) (de_var (i := 1) (d := a_standing)) (de_ixD rfl (de_var (i := 3) (d := way_2)) de_int))))))))))))

abbrev s_goings_of : Stmt := topS 22
abbrev N_goings_of : List Str := ["lanes", "standing", "lane"]
theorem sc_goings_of : FnScope N_goings_of ["lanes", "standing"] (defScope s_goings_of) := ⟨rfl, rfl, rfl, by decide +kernel, rfl, by decide +kernel, by decide +kernel⟩
def m_goings_of (a_lanes : D) (a_standing : D) : N D := (((N.lcG (((.ok a_standing : N D).bind dLen : N D).bind N.rng1) (fun d => some d) (fun c1 : D => (((.ok a_lanes : N D).bind fun x => (.ok a_standing : N D).bind fun y => (.ok c1 : N D).bind fun z => m_can_go x y z : N D).bind N.tst : N Bool)) (fun c1 : D => (.ok c1 : N D)) : N D).bind dTuple : N D).bind fun d => .ok (.rt d) : N (Fl Unit Unit)).fin
theorem ok_goings_of {f : Addr} {fd : FuncData} (F : FunD Z.K "goings_of" "goings_of" (defArgs s_goings_of) (defBody s_goings_of) (defScope s_goings_of) [] [] f fd) (T : Txt Z mg cK fI) (C_can_go : Df P w Z mg base "can_go" 3 3 (app3 m_can_go)) : FnOk P w Z.K mg base (L2.CX P w) 4 f fd ["lanes", "standing"] (spN Z 2 (app2 m_goings_of)) := by
  refine fn_okD (ps := ["lanes", "standing"]) F sc_goings_of (ar2 _) (fun cdv A outer s H E F0 ds hr tk hl => ?_)
  match ds, hl with
  | [a_lanes, a_standing], _ =>
    refine ⟨Unit, Unit, fun _ => [.dat (a_lanes), .dat (a_standing), .un], fun _ => [.dat (a_lanes), .dat (a_standing), .un], _, ?_, fun _ _ h => h⟩
    exact ((ds_one (ds_ret (de_tuple rfl T.b_tuple (de_lcG (own := [("lane", 2)]) (m := 3) rfl sc_goings_of.nd (src_rng1 T.b_range (de_len rfl T.b_len (de_var (i := 1) (d := a_standing)))) (pat_name 2) (blkOk_by (own := [("lane", 2)]) (N := N_goings_of) (sc := defScope s_goings_of) (by decide +kernel)) (fun _ _ _ _ _ => pg_name (i := 2) sc_goings_of.nd rfl (Or.inl rfl)) (fun _ _ _ _ _ c1 => (dts_one (dt_val (de_call3 (Df.cal C_can_go (hr.mono (by decide))) takes_no (Wk.un' rfl) (de_var (i := 0) (d := a_lanes)) (de_var (i := 1) (d := a_standing)) (de_var (i := 2) (d := c1)))))) (fun _ _ _ _ _ c1 => (de_var (i := 2) (d := c1))))))))

abbrev s_possible_goings : Stmt := topS 21
abbrev N_possible_goings : List Str := ["lanes", "standing"]
theorem sc_possible_goings : FnScope N_possible_goings ["lanes", "standing"] (defScope s_possible_goings) := ⟨rfl, rfl, rfl, by decide +kernel, rfl, by decide +kernel, by decide +kernel⟩
def m_possible_goings (a_lanes : D) (a_standing : D) : N D := (((.ok a_lanes : N D).bind fun x => ((.ok a_lanes : N D).bind fun x => (.ok a_standing : N D).bind fun y => m_need_standing x y : N D).bind fun y => m_goings_of x y : N D).bind fun d => .ok (.rt d) : N (Fl Unit Unit)).fin
theorem ok_possible_goings {f : Addr} {fd : FuncData} (F : FunD Z.K "possible_goings" "possible_goings" (defArgs s_possible_goings) (defBody s_possible_goings) (defScope s_possible_goings) [] [] f fd) (T : Txt Z mg cK fI) (C_need_standing : Df P w Z mg base "need_standing" 5 2 (app2 m_need_standing)) (C_goings_of : Df P w Z mg base "goings_of" 4 2 (app2 m_goings_of)) : FnOk P w Z.K mg base (L2.CX P w) 6 f fd ["lanes", "standing"] (spN Z 2 (app2 m_possible_goings)) := by
  refine fn_okD (ps := ["lanes", "standing"]) F sc_possible_goings (ar2 _) (fun cdv A outer s H E F0 ds hr tk hl => ?_)
  match ds, hl with
  | [a_lanes, a_standing], _ =>
    refine ⟨Unit, Unit, fun _ => [.dat (a_lanes), .dat (a_standing)], fun _ => [.dat (a_lanes), .dat (a_standing)], _, ?_, fun _ _ h => h⟩
    exact ((ds_one (ds_ret (de_call2 (Df.cal C_goings_of (hr.mono (by decide))) tk (Wk.un' rfl) (de_var (i := 0) (d := a_lanes)) (de_call2 (Df.cal C_need_standing (hr.mono (by decide))) tk (Wk.un' rfl) (de_var (i := 0) (d := a_lanes)) (de_var (i := 1) (d := a_standing)))))))

abbrev s_after_going : Stmt := topS 26
abbrev N_after_going : List Str := ["standing", "lane", "way", "rows"]
theorem sc_after_going : FnScope N_after_going ["standing", "lane"] (defScope s_after_going) := ⟨rfl, rfl, rfl, by decide +kernel, rfl, by decide +kernel, by decide +kernel⟩
def m_after_going (a_standing : D) (a_lane : D) : N D := (N.seq ((((.ok a_standing : N D).bind fun x => (.ok a_lane : N D).bind fun y => dIx x y : N D).bind fun x => (.ok (.int 0) : N D).bind fun y => dIx x y : N D).bind fun d => .ok (.nx d)) fun (way_1 : D) => N.seq ((.ok a_standing : N D).bind fun d => (seqOf d).bind fun ds => .ok (.nx ds)) fun (l2 : List D) => N.seq ((((.ok a_lane : N D).bind fun y => dIx (.lst l2) y : N D).bind fun d => ((.ok (.int 1) : N D).bind fun d => (toI d).bind fun i => .ok (some i) : N (Option Int)).bind fun l => (.ok none : N (Option Int)).bind fun h => dSlT d l h : N D).bind fun v => (.ok a_lane : N D).bind fun k => (setAt (l2) k v).bind fun ds' => .ok (.nx ds')) fun (l3 : List D) => N.seq (((((.ok way_1 : N D).bind dLen : N D).bind fun x => (.ok (.int 0) : N D).bind fun y => dGt x y : N D).bind N.tst : N Bool).bind fun x => if x = true then (N.seq (((((.ok way_1 : N D).bind fun x => (.ok (.int 0) : N D).bind fun y => dIx x y : N D).bind fun y => dIx (.lst l3) y : N D).bind fun x => ((((.ok way_1 : N D).bind fun d => ((.ok (.int 1) : N D).bind fun d => (toI d).bind fun i => .ok (some i) : N (Option Int)).bind fun l => (.ok none : N (Option Int)).bind fun h => dSlT d l h : N D).bind fun x => (.ok [] : N (List D)).bind fun xs => .ok (x :: xs) : N (List D)).bind fun xs => (N.le1 xs).bind fun _ => .ok (.tup xs) : N D).bind fun y => dCat x y : N D).bind fun v => ((.ok way_1 : N D).bind fun x => (.ok (.int 0) : N D).bind fun y => dIx x y : N D).bind fun k => (setAt (l3) k v).bind fun ds' => .ok (.nx ds')) fun (l5 : List D) => .ok (.nx (l5))) else (.ok (.nx (l3)))) fun (j4 : (List D)) => ((.ok (.lst j4) : N D).bind dTuple : N D).bind fun d => .ok (.rt d) : N (Fl Unit Unit)).fin
theorem ok_after_going {f : Addr} {fd : FuncData} (F : FunD Z.K "after_going" "after_going" (defArgs s_after_going) (defBody s_after_going) (defScope s_after_going) [] [] f fd) (T : Txt Z mg cK fI) : FnOk P w Z.K mg base (L2.CX P w) 2 f fd ["standing", "lane"] (spN Z 2 (app2 m_after_going)) := by
  refine fn_okD (ps := ["standing", "lane"]) F sc_after_going (ar2 _) (fun cdv A outer s H E F0 ds hr tk hl => ?_)
  match ds, hl with
  | [a_standing, a_lane], _ =>
    refine ⟨Unit, Unit, fun _ => [.dat (a_standing), .dat (a_lane), .un, .un], fun _ => [.dat (a_standing), .dat (a_lane), .un, .un], _, ?_, fun _ _ h => h⟩
    exact ((ds_cons (ds_set (i := 2) sc_after_going.nd (de_ixD rfl (de_ixD rfl (de_var (i := 0) (d := a_standing)) (de_var (i := 1) (d := a_lane))) de_int)) (fun (way_1 : D) => (ds_cons (ds_listO (i := 3) rfl sc_after_going.nd T.b_list (de_var (i := 0) (d := a_standing))) (fun (l2 : List D) => (ds_cons (ds_setO (i := 3) (ds := l2) rfl rfl (de_var (i := 1) (d := a_lane)) (de_slT rfl (de_ixO (i := 3) (ds := l2) rfl rfl (de_var (i := 1) (d := a_lane))) (do_some de_int) do_none)) (fun (l3 : List D) => (ds_cons (ds_if (sl := fun (j4 : (List D)) => [.dat (a_standing), .dat (a_lane), .dat (way_1), .own (.lst (j4))]) (dt_cmp op_gt (r2_I0 fun _ _ _ => .bl _) (iOp_tot _) (de_len rfl T.b_len (de_var (i := 2) (d := way_1))) de_int (nomark _)) (ds_cons (ds_setO (i := 3) (ds := l3) rfl rfl (de_ixD rfl (de_var (i := 2) (d := way_1)) de_int) (de_cat rfl (de_ixO (i := 3) (ds := l3) rfl rfl (de_ixD rfl (de_var (i := 2) (d := way_1)) de_int)) (de_tup (da_cons (de_slT rfl (de_var (i := 2) (d := way_1)) (do_some de_int) do_none) da_nil)))) (fun (l5 : List D) => (ds_nil (l5)))) (ds_nil (l3))) (fun (j4 : (List D)) => (ds_freeze (i := 3) (ds := j4) rfl (ds_one (ds_ret (de_tuple rfl T.b_tuple (de_var (i := 3) (d := (.lst j4))))))))))))))))

abbrev s_gone_standing : Stmt := topS 25
abbrev N_gone_standing : List Str := ["lanes", "standing", "lane", "rows"]
theorem sc_gone_standing : FnScope N_gone_standing ["lanes", "standing", "lane"] (defScope s_gone_standing) := ⟨rfl, rfl, rfl, by decide +kernel, rfl, by decide +kernel, by decide +kernel⟩
def m_gone_standing (a_lanes : D) (a_standing : D) (a_lane : D) : N D := (N.seq (((.ok a_lanes : N D).bind fun x => (.ok a_standing : N D).bind fun y => m_need_standing x y : N D).bind fun d => .ok (.nx d)) fun (rows_1 : D) => N.seq (((((.ok a_lane : N D).bind fun x => ((.ok rows_1 : N D).bind dLen : N D).bind fun y => m_is_index x y : N D).bind N.tst : N Bool).bind fun b => .ok (!b) : N Bool).bind fun x => if x = true then (((.ok (.int 1) : N D).bind dNeg : N D).bind fun d => .err 3 d) else (.ok (.nx (())))) fun (j2 : Unit) => N.seq (((((.ok a_lanes : N D).bind fun x => (.ok rows_1 : N D).bind fun y => (.ok a_lane : N D).bind fun z => m_can_go x y z : N D).bind N.tst : N Bool).bind fun b => .ok (!b) : N Bool).bind fun x => if x = true then ((.ok a_lane : N D).bind fun d => .err 4 d) else (.ok (.nx (())))) fun (j3 : Unit) => ((.ok rows_1 : N D).bind fun x => (.ok a_lane : N D).bind fun y => m_after_going x y : N D).bind fun d => .ok (.rt d) : N (Fl Unit Unit)).fin
theorem ok_gone_standing {f : Addr} {fd : FuncData} (F : FunD Z.K "gone_standing" "gone_standing" (defArgs s_gone_standing) (defBody s_gone_standing) (defScope s_gone_standing) [] [] f fd) (T : Txt Z mg cK fI) (C_need_standing : Df P w Z mg base "need_standing" 5 2 (app2 m_need_standing)) (C_is_index : Df P w Z mg base "is_index" 3 2 (app2 m_is_index)) (C_can_go : Df P w Z mg base "can_go" 3 3 (app3 m_can_go)) (C_after_going : Df P w Z mg base "after_going" 2 2 (app2 m_after_going)) : FnOk P w Z.K mg base (L2.CX P w) 6 f fd ["lanes", "standing", "lane"] (spN Z 3 (app3 m_gone_standing)) := by
  refine fn_okD (ps := ["lanes", "standing", "lane"]) F sc_gone_standing (ar3 _) (fun cdv A outer s H E F0 ds hr tk hl => ?_)
  match ds, hl with
  | [a_lanes, a_standing, a_lane], _ =>
    refine ⟨Unit, Unit, fun _ => [.dat (a_lanes), .dat (a_standing), .dat (a_lane), .un], fun _ => [.dat (a_lanes), .dat (a_standing), .dat (a_lane), .un], _, ?_, fun _ _ h => h⟩
    exact ((ds_cons (ds_set (i := 3) sc_gone_standing.nd (de_call2 (Df.cal C_need_standing (hr.mono (by decide))) tk (Wk.un' rfl) (de_var (i := 0) (d := a_lanes)) (de_var (i := 1) (d := a_standing)))) (fun (rows_1 : D) => (ds_cons (ds_if (sl := fun (j2 : Unit) => [.dat (a_lanes), .dat (a_standing), .dat (a_lane), .dat (rows_1)]) (dt_not (dt_val (de_call2 (Df.cal C_is_index (hr.mono (by decide))) tk (Wk.un' rfl) (de_var (i := 2) (d := a_lane)) (de_len rfl T.b_len (de_var (i := 3) (d := rows_1)))))) (ds_one (ds_raise (ci := 3) rfl T.e_InvalidIndex (hr.mono (by decide) : Room 0 _) tk (Wk.un' rfl) (de_neg de_int))) (ds_nil (()))) (fun (j2 : Unit) => (ds_cons (ds_if (sl := fun (j3 : Unit) => [.dat (a_lanes), .dat (a_standing), .dat (a_lane), .dat (rows_1)]) (dt_not (dt_val (de_call3 (Df.cal C_can_go (hr.mono (by decide))) tk (Wk.un' rfl) (de_var (i := 0) (d := a_lanes)) (de_var (i := 3) (d := rows_1)) (de_var (i := 2) (d := a_lane))))) (ds_one (ds_raise (ci := 4) rfl T.e_Refused (hr.mono (by decide) : Room 0 _) tk (Wk.un' rfl) (de_var (i := 2) (d := a_lane)))) (ds_nil (()))) (fun (j3 : Unit) => (ds_one (ds_ret (de_call2 (Df.cal C_after_going (hr.mono (by decide))) tk (Wk.un' rfl) (de_var (i := 3) (d := rows_1)) (de_var (i := 2) (d := a_lane))))))))))))

abbrev s_goings_left : Stmt := topS 27
abbrev N_goings_left : List Str := ["lanes", "standing", "row", "way"]
theorem sc_goings_left : FnScope N_goings_left ["lanes", "standing"] (defScope s_goings_left) := ⟨rfl, rfl, rfl, by decide +kernel, rfl, by decide +kernel, by decide +kernel⟩
def m_goings_left (a_lanes : D) (a_standing : D) : N D := (((N.lcG (((.ok a_lanes : N D).bind fun x => (.ok a_standing : N D).bind fun y => m_need_standing x y : N D).bind seqOf) (fun d => some d) (fun c1 : D => (.ok true : N Bool)) (fun c1 : D => ((N.lcG ((.ok c1 : N D).bind seqOf) (fun d => some d) (fun c2 : D => (.ok true : N Bool)) (fun c2 : D => (((.ok c2 : N D).bind dLen : N D).bind fun x => (.ok (.int 1) : N D).bind fun y => dAdd x y : N D)) : N D).bind dSum : N D)) : N D).bind dSum : N D).bind fun d => .ok (.rt d) : N (Fl Unit Unit)).fin
theorem ok_goings_left {f : Addr} {fd : FuncData} (F : FunD Z.K "goings_left" "goings_left" (defArgs s_goings_left) (defBody s_goings_left) (defScope s_goings_left) [] [] f fd) (T : Txt Z mg cK fI) (C_need_standing : Df P w Z mg base "need_standing" 5 2 (app2 m_need_standing)) : FnOk P w Z.K mg base (L2.CX P w) 6 f fd ["lanes", "standing"] (spN Z 2 (app2 m_goings_left)) := by
  refine fn_okD (ps := ["lanes", "standing"]) F sc_goings_left (ar2 _) (fun cdv A outer s H E F0 ds hr tk hl => ?_)
  match ds, hl with
  | [a_lanes, a_standing], _ =>
    refine ⟨Unit, Unit, fun _ => [.dat (a_lanes), .dat (a_standing), .un, .un], fun _ => [.dat (a_lanes), .dat (a_standing), .un, .un], _, ?_, fun _ _ h => h⟩
    exact ((ds_one (ds_ret (de_sum rfl rfl T.b_sum (de_lcG (own := [("row", 2)]) (m := 4) rfl sc_goings_left.nd (src_seq rfl (de_call2 (Df.cal C_need_standing (hr.mono (by decide))) tk (Wk.un' rfl) (de_var (i := 0) (d := a_lanes)) (de_var (i := 1) (d := a_standing)))) (pat_name 2) (blkOk_by (own := [("row", 2)]) (N := N_goings_left) (sc := defScope s_goings_left) (by decide +kernel)) (fun _ _ _ _ _ => pg_name (i := 2) sc_goings_left.nd rfl (Or.inl rfl)) (fun _ _ _ _ _ c1 => (dts_nil (y := ()))) (fun _ _ _ _ _ c1 => (de_sum rfl rfl T.b_sum (de_lcG (own := [("way", 3)]) (m := 4) rfl sc_goings_left.nd (src_seq rfl (de_var (i := 2) (d := c1))) (pat_name 3) (blkOk_in (own := [("way", 3)]) (N := N_goings_left) (sc := defScope s_goings_left) rfl (by decide +kernel)) (fun _ _ _ _ _ => pg_name (i := 3) sc_goings_left.nd rfl (Or.inl rfl)) (fun _ _ _ _ _ c2 => (dts_nil (y := ()))) (fun _ _ _ _ _ c2 => (de_add (de_len rfl T.b_len (de_var (i := 3) (d := c2))) de_int))))))))))

abbrev s_full_wish : Stmt := topS 32
abbrev N_full_wish : List Str := ["lanes", "standing", "lane"]
theorem sc_full_wish : FnScope N_full_wish ["lanes", "standing", "lane"] (defScope s_full_wish) := ⟨rfl, rfl, rfl, by decide +kernel, rfl, by decide +kernel, by decide +kernel⟩
def m_full_wish (a_lanes : D) (a_standing : D) (a_lane : D) : N D := (N.seq ((((((.ok a_lanes : N D).bind fun x => (.ok a_standing : N D).bind fun y => (.ok a_lane : N D).bind fun z => m_is_full x y z : N D).bind N.tst : N Bool).bind fun b => .ok (!b) : N Bool).bind fun x => if x = true then .ok true else ((((((.ok a_standing : N D).bind fun x => (.ok a_lane : N D).bind fun y => dIx x y : N D).bind fun x => (.ok (.int 0) : N D).bind fun y => dIx x y : N D).bind dLen : N D).bind fun x => (.ok (.int 0) : N D).bind fun y => dEqS x y : N D).bind N.tst) : N Bool).bind fun x => if x = true then ((.ok .non : N D).bind fun d => .ok (.rt d)) else (.ok (.nx (())))) fun (j1 : Unit) => ((((.ok a_standing : N D).bind fun x => (.ok a_lane : N D).bind fun y => dIx x y : N D).bind fun x => (.ok (.int 0) : N D).bind fun y => dIx x y : N D).bind fun x => (.ok (.int 0) : N D).bind fun y => dIx x y : N D).bind fun d => .ok (.rt d) : N (Fl Unit Unit)).fin
theorem ok_full_wish {f : Addr} {fd : FuncData} (F : FunD Z.K "full_wish" "full_wish" (defArgs s_full_wish) (defBody s_full_wish) (defScope s_full_wish) [] [] f fd) (T : Txt Z mg cK fI) (C_is_full : Df P w Z mg base "is_full" 2 3 (app3 m_is_full)) : FnOk P w Z.K mg base (L2.CX P w) 3 f fd ["lanes", "standing", "lane"] (spN Z 3 (app3 m_full_wish)) := by
  refine fn_okD (ps := ["lanes", "standing", "lane"]) F sc_full_wish (ar3 _) (fun cdv A outer s H E F0 ds hr tk hl => ?_)
  match ds, hl with
  | [a_lanes, a_standing, a_lane], _ =>
    refine ⟨Unit, Unit, fun _ => [.dat (a_lanes), .dat (a_standing), .dat (a_lane)], fun _ => [.dat (a_lanes), .dat (a_standing), .dat (a_lane)], _, ?_, fun _ _ h => h⟩
    exact ((ds_cons (ds_if (sl := fun (j1 : Unit) => [.dat (a_lanes), .dat (a_standing), .dat (a_lane)]) (PW.pt (dw_or (dt_not (dt_val (de_call3 (Df.cal C_is_full (hr.mono (by decide))) tk (Wk.un' rfl) (de_var (i := 0) (d := a_lanes)) (de_var (i := 1) (d := a_standing)) (de_var (i := 2) (d := a_lane))))) (dw_or1 (dt_cmp op_eq r2_EqS dEqS_tot (de_len rfl T.b_len (de_ixD rfl (de_ixD rfl (de_var (i := 1) (d := a_standing)) (de_var (i := 2) (d := a_lane))) de_int)) de_int (nomark _))))) (ds_one (ds_ret de_non)) (ds_nil (()))) (fun (j1 : Unit) => (ds_one (ds_ret (de_ixD rfl (de_ixD rfl (de_ixD rfl (de_var (i := 1) (d := a_standing)) (de_var (i := 2) (d := a_lane))) de_int) de_int))))))

abbrev s_knot_from : Stmt := topS 31
abbrev N_knot_from : List Str := ["lanes", "standing", "lane", "ring", "other"]
theorem sc_knot_from : FnScope N_knot_from ["lanes", "standing", "lane"] (defScope s_knot_from) := ⟨rfl, rfl, rfl, by decide +kernel, rfl, by decide +kernel, by decide +kernel⟩
def m_knot_from (a_lanes : D) (a_standing : D) (a_lane : D) : N D := (N.seq (.ok (.nx ())) fun (_ : Unit) => N.seq ((.ok a_lane : N D).bind fun d => .ok (.nx d)) fun (other_1 : D) => N.seq (N.while (fun (s2 : (List D) × D) => ((((.ok s2.2 : N D).bind fun x => (.ok .non : N D).bind fun y => dNotN x y : N D).bind N.tst : N Bool).bind fun x => if x = true then (((.ok s2.2 : N D).bind fun d => dNotInD d (.lst s2.1) : N D).bind N.tst) else .ok false : N Bool)) (fun (s2 : (List D) × D) => N.seq ((.ok s2.2 : N D).bind fun d => (N.asrt ((s2.1 : List D).length < sizeLine)).bind fun _ => .ok (.nx d)) fun (a3 : D) => N.seq (((.ok a_lanes : N D).bind fun x => (.ok a_standing : N D).bind fun y => (.ok s2.2 : N D).bind fun z => m_full_wish x y z : N D).bind fun d => .ok (.nx d)) fun (other_4 : D) => .ok (.nx (((s2.1 ++ [a3]), other_4)))) 20 (([], other_1))) fun (s2 : (List D) × D) => ((((.ok s2.2 : N D).bind fun x => (.ok a_lane : N D).bind fun y => dEqD x y : N D).bind N.tst : N Bool).bind fun x => if x = true then ((.ok (.lst s2.1) : N D).bind dTuple) else (.ok .non) : N D).bind fun d => .ok (.rt d) : N (Fl Unit Unit)).fin
theorem ok_knot_from {f : Addr} {fd : FuncData} (F : FunD Z.K "knot_from" "knot_from" (defArgs s_knot_from) (defBody s_knot_from) (defScope s_knot_from) [] [] f fd) (T : Txt Z mg cK fI) (C_full_wish : Df P w Z mg base "full_wish" 3 3 (app3 m_full_wish)) : FnOk P w Z.K mg base (L2.CX P w) 4 f fd ["lanes", "standing", "lane"] (spN Z 3 (app3 m_knot_from)) := by
  refine fn_okD (ps := ["lanes", "standing", "lane"]) F sc_knot_from (ar3 _) (fun cdv A outer s H E F0 ds hr tk hl => ?_)
  match ds, hl with
  | [a_lanes, a_standing, a_lane], _ =>
    refine ⟨Unit, Unit, fun _ => [.dat (a_lanes), .dat (a_standing), .dat (a_lane), .un, .un], fun _ => [.dat (a_lanes), .dat (a_standing), .dat (a_lane), .un, .un], _, ?_, fun _ _ h => h⟩
    exact ((ds_cons (ds_newL (i := 3) sc_knot_from.nd) (fun (_ : Unit) => (ds_cons (ds_set (i := 4) sc_knot_from.nd (de_var (i := 2) (d := a_lane))) (fun (other_1 : D) => (ds_cons (ds_while (sl := fun (s2 : (List D) × D) => [.dat (a_lanes), .dat (a_standing), .dat (a_lane), .own (.lst (s2.1)), .dat (s2.2)]) (tn := fun (s2 : (List D) × D) => ((((.ok s2.2 : N D).bind fun x => (.ok .non : N D).bind fun y => dNotN x y : N D).bind N.tst : N Bool).bind fun x => if x = true then (((.ok s2.2 : N D).bind fun d => dNotInD d (.lst s2.1) : N D).bind N.tst) else .ok false : N Bool)) (bn := fun (s2 : (List D) × D) => N.seq ((.ok s2.2 : N D).bind fun d => (N.asrt ((s2.1 : List D).length < sizeLine)).bind fun _ => .ok (.nx d)) fun (a3 : D) => N.seq (((.ok a_lanes : N D).bind fun x => (.ok a_standing : N D).bind fun y => (.ok s2.2 : N D).bind fun z => m_full_wish x y z : N D).bind fun d => .ok (.nx d)) fun (other_4 : D) => .ok (.nx (((s2.1 ++ [a3]), other_4)))) 20 (([], other_1)) po_cx (by repeat (first | exact Wk.nil | exact Wk.same (Wk.refl _) | apply Wk.same | apply Wk.un)) (fun s2 => (PW.pt (dw_and (dt_notN (de_var (i := 4) (d := s2.2)) de_non) (dw_and1 (dt_notInO (i := 3) (ds := s2.1) hr rfl rfl rfl (de_var (i := 4) (d := s2.2))))))) (fun s2 => (ds_cons (ds_appX (i := 3) (ds := s2.1) rfl rfl (de_var (i := 4) (d := s2.2))) (fun (a3 : D) => (ds_cons (ds_set (i := 4) sc_knot_from.nd (de_call3 (Df.cal C_full_wish (hr.mono (by decide))) tk (Wk.un' rfl) (de_var (i := 0) (d := a_lanes)) (de_var (i := 1) (d := a_standing)) (de_var (i := 4) (d := s2.2)))) (fun (other_4 : D) => (ds_nilW (((s2.1 ++ [a3]), other_4)) (by repeat (first | exact Wk.nil | exact Wk.same (Wk.refl _) | apply Wk.same | apply Wk.un))))))))) (fun (s2 : (List D) × D) => (ds_freeze (i := 3) (ds := s2.1) rfl (ds_one (ds_ret (de_if (dt_cmp (op_eqD hr.units) r2_EqD dEqD_tot (de_var (i := 4) (d := s2.2)) (de_var (i := 2) (d := a_lane)) (nomark _)) (de_tuple rfl T.b_tuple (de_var (i := 3) (d := (.lst s2.1)))) de_non)))))))))))

abbrev s_knot_of : Stmt := topS 30
abbrev N_knot_of : List Str := ["lanes", "standing", "lane", "ring"]
theorem sc_knot_of : FnScope N_knot_of ["lanes", "standing"] (defScope s_knot_of) := ⟨rfl, rfl, rfl, by decide +kernel, rfl, by decide +kernel, by decide +kernel⟩
def m_knot_of (a_lanes : D) (a_standing : D) : N D := (N.seq ((((.ok a_standing : N D).bind dLen : N D).bind N.rng1 : N (List D)).bind fun ds => (N.decs (fun d => some d) ds).bind fun ps => N.loop (fun (y2 : D) (s1 : Unit) => N.seq (((.ok a_lanes : N D).bind fun x => (.ok a_standing : N D).bind fun y => (.ok y2 : N D).bind fun z => m_knot_from x y z : N D).bind fun d => .ok (.nx d)) fun (ring_3 : D) => N.seq ((((.ok ring_3 : N D).bind fun x => (.ok .non : N D).bind fun y => dNotN x y : N D).bind N.tst : N Bool).bind fun x => if x = true then ((.ok ring_3 : N D).bind fun d => .ok (.rt d)) else (.ok (.nx (())))) fun (j4 : Unit) => .ok (.nx (()))) ps (())) fun (s1 : Unit) => (.ok .non : N D).bind fun d => .ok (.rt d) : N (Fl Unit Unit)).fin
theorem ok_knot_of {f : Addr} {fd : FuncData} (F : FunD Z.K "knot_of" "knot_of" (defArgs s_knot_of) (defBody s_knot_of) (defScope s_knot_of) [] [] f fd) (T : Txt Z mg cK fI) (C_knot_from : Df P w Z mg base "knot_from" 4 3 (app3 m_knot_from)) : FnOk P w Z.K mg base (L2.CX P w) 5 f fd ["lanes", "standing"] (spN Z 2 (app2 m_knot_of)) := by
  refine fn_okD (ps := ["lanes", "standing"]) F sc_knot_of (ar2 _) (fun cdv A outer s H E F0 ds hr tk hl => ?_)
  match ds, hl with
  | [a_lanes, a_standing], _ =>
    refine ⟨Unit, Unit, fun _ => [.dat (a_lanes), .dat (a_standing), .un, .un], fun _ => [.dat (a_lanes), .dat (a_standing), .un, .un], _, ?_, fun _ _ h => h⟩
    exact ((ds_cons (ds_forG (sl := fun (s1 : Unit) => [.dat (a_lanes), .dat (a_standing), .un, .un]) (()) (fun (y2 : D) (s1 : Unit) => N.seq (((.ok a_lanes : N D).bind fun x => (.ok a_standing : N D).bind fun y => (.ok y2 : N D).bind fun z => m_knot_from x y z : N D).bind fun d => .ok (.nx d)) fun (ring_3 : D) => N.seq ((((.ok ring_3 : N D).bind fun x => (.ok .non : N D).bind fun y => dNotN x y : N D).bind N.tst : N Bool).bind fun x => if x = true then ((.ok ring_3 : N D).bind fun d => .ok (.rt d)) else (.ok (.nx (())))) fun (j4 : Unit) => .ok (.nx (()))) po_cx rfl (src_rng1 T.b_range (de_len rfl T.b_len (de_var (i := 1) (d := a_standing)))) (pat_name 2) (pg_name (i := 2) sc_knot_of.nd rfl (by first | exact Or.inl rfl | exact Or.inr rfl)) (by repeat (first | exact Wk.nil | exact Wk.same (Wk.refl _) | apply Wk.same | apply Wk.un)) (fun y2 s1 => (ds_cons (ds_set (i := 3) sc_knot_of.nd (de_call3 (Df.cal C_knot_from (hr.mono (by decide))) tk (Wk.un' rfl) (de_var (i := 0) (d := a_lanes)) (de_var (i := 1) (d := a_standing)) (de_var (i := 2) (d := y2)))) (fun (ring_3 : D) => (ds_cons (ds_if (sl := fun (j4 : Unit) => [.dat (a_lanes), .dat (a_standing), .dat (y2), .dat (ring_3)]) (dt_notN (de_var (i := 3) (d := ring_3)) de_non) (ds_one (ds_ret (de_var (i := 3) (d := ring_3)))) (ds_nil (()))) (fun (j4 : Unit) => (ds_nilW (()) (by repeat (first | exact Wk.nil | exact Wk.same (Wk.refl _) | apply Wk.same | apply Wk.un))))))))) (fun (s1 : Unit) => (ds_one (ds_ret de_non)))))

abbrev s_find_knot : Stmt := topS 29
abbrev N_find_knot : List Str := ["lanes", "standing"]
theorem sc_find_knot : FnScope N_find_knot ["lanes", "standing"] (defScope s_find_knot) := ⟨rfl, rfl, rfl, by decide +kernel, rfl, by decide +kernel, by decide +kernel⟩
def m_find_knot (a_lanes : D) (a_standing : D) : N D := (((.ok a_lanes : N D).bind fun x => ((.ok a_lanes : N D).bind fun x => (.ok a_standing : N D).bind fun y => m_need_standing x y : N D).bind fun y => m_knot_of x y : N D).bind fun d => .ok (.rt d) : N (Fl Unit Unit)).fin
theorem ok_find_knot {f : Addr} {fd : FuncData} (F : FunD Z.K "find_knot" "find_knot" (defArgs s_find_knot) (defBody s_find_knot) (defScope s_find_knot) [] [] f fd) (T : Txt Z mg cK fI) (C_need_standing : Df P w Z mg base "need_standing" 5 2 (app2 m_need_standing)) (C_knot_of : Df P w Z mg base "knot_of" 5 2 (app2 m_knot_of)) : FnOk P w Z.K mg base (L2.CX P w) 6 f fd ["lanes", "standing"] (spN Z 2 (app2 m_find_knot)) := by
  refine fn_okD (ps := ["lanes", "standing"]) F sc_find_knot (ar2 _) (fun cdv A outer s H E F0 ds hr tk hl => ?_)
  match ds, hl with
  | [a_lanes, a_standing], _ =>
    refine ⟨Unit, Unit, fun _ => [.dat (a_lanes), .dat (a_standing)], fun _ => [.dat (a_lanes), .dat (a_standing)], _, ?_, fun _ _ h => h⟩
    exact ((ds_one (ds_ret (de_call2 (Df.cal C_knot_of (hr.mono (by decide))) tk (Wk.un' rfl) (de_var (i := 0) (d := a_lanes)) (de_call2 (Df.cal C_need_standing (hr.mono (by decide))) tk (Wk.un' rfl) (de_var (i := 0) (d := a_lanes)) (de_var (i := 1) (d := a_standing)))))))

abbrev s_law_source : Stmt := topS 34
abbrev N_law_source : List Str := ["_law_script", "_law_cells", "_law_mixed", "_law_cell"]
theorem sc_law_source : FnScope N_law_source ["_law_script"] (defScope s_law_source) := ⟨rfl, rfl, rfl, by decide +kernel, rfl, by decide +kernel, by decide +kernel⟩
def m_law_source (a_law_script : D) : N D := (N.seq ((N.lcG (((.ok a_law_script : N D).bind fun d => (.ok none : N (Option Int)).bind fun l => ((.ok (.int 48) : N D).bind fun d => (toI d).bind fun i => .ok (some i) : N (Option Int)).bind fun h => dSlL d l h : N D).bind seqOf) (fun d => some d) (fun c2 : D => (.ok true : N Bool)) (fun c2 : D => (((.ok c2 : N D).bind dInt : N D).bind dAbs : N D)) : N D).bind fun d => .ok (.nx d)) fun (cells_1 : D) => N.seq ((.ok (.int 583058) : N D).bind fun d => .ok (.nx d)) fun (mixed_3 : D) => N.seq (((.ok cells_1 : N D).bind seqOf : N (List D)).bind fun ds => (N.decs (fun d => some d) ds).bind fun ps => N.loop (fun (y5 : D) (s4 : D) => N.seq (((((((.ok s4 : N D).bind fun x => (.ok (.int 48271) : N D).bind fun y => dMul x y : N D).bind fun x => ((.ok y5 : N D).bind fun x => (.ok (.int 2147483543) : N D).bind fun y => dMod x y : N D).bind fun y => dAdd x y : N D).bind fun x => (.ok (.int 53) : N D).bind fun y => dAdd x y : N D).bind dInt : N D).bind fun x => (.ok (.int 2147483629) : N D).bind fun y => dMod x y : N D).bind fun d => .ok (.nx d)) fun (mixed_6 : D) => .ok (.nx (mixed_6))) ps (mixed_3)) fun (s4 : D) => (((N.lcG ((.ok cells_1 : N D).bind seqOf) (fun d => some d) (fun c7 : D => (((.ok c7 : N D).bind fun x => ((.ok (.int 10) : N D).bind fun x => (.ok (.int 18) : N D).bind fun y => dPow x y : N D).bind fun y => dGe x y : N D).bind N.tst : N Bool)) (fun c7 : D => (.ok c7 : N D)) : N D).bind mkCells : N D).bind fun x => (.ok s4 : N D).bind fun y => mkDeal x y : N D).bind fun d => .ok (.rt d) : N (Fl Unit Unit)).fin
theorem ok_law_source {f : Addr} {fd : FuncData} (F : FunD Z.K "_law_source" "_law_source" (defArgs s_law_source) (defBody s_law_source) (defScope s_law_source) [] [] f fd) (T : Txt Z mg cK fI) : FnOk P w Z.K mg base (L2.CX P w) 2 f fd ["_law_script"] (spN Z 1 (app1 m_law_source)) := by
  refine fn_okD (ps := ["_law_script"]) F sc_law_source (ar1 _) (fun cdv A outer s H E F0 ds hr tk hl => ?_)
  match ds, hl with
  | [a_law_script], _ =>
    refine ⟨Unit, Unit, fun _ => [.dat (a_law_script), .un, .un, .un], fun _ => [.dat (a_law_script), .un, .un, .un], _, ?_, fun _ _ h => h⟩
    exact ((ds_cons (ds_lcG (i := 1) (own := [("_law_cell", 3)]) (m := 4) rfl sc_law_source.nd (src_seq rfl (de_slL rfl (de_var (i := 0) (d := a_law_script)) do_none (do_some de_int))) (pat_name 3) rfl rfl rfl rfl (by decide +kernel) (blkOk_by (own := [("_law_cell", 3)]) (N := N_law_source) (sc := defScope s_law_source) (by decide +kernel)) (fun _ _ _ _ _ => pg_name (i := 3) sc_law_source.nd rfl (Or.inl rfl)) (fun _ _ _ _ _ c2 => (dts_nil (y := ()))) (fun _ _ _ _ _ c2 => (de_abs T.b_abs (de_intC T.b_int (de_var (i := 3) (d := c2)))))) (fun (cells_1 : D) => (ds_cons (ds_set (i := 2) sc_law_source.nd de_int) (fun (mixed_3 : D) => (ds_cons (ds_forG (sl := fun (s4 : D) => [.dat (a_law_script), .dat (cells_1), .dat (s4), .un]) (mixed_3) (fun (y5 : D) (s4 : D) => N.seq (((((((.ok s4 : N D).bind fun x => (.ok (.int 48271) : N D).bind fun y => dMul x y : N D).bind fun x => ((.ok y5 : N D).bind fun x => (.ok (.int 2147483543) : N D).bind fun y => dMod x y : N D).bind fun y => dAdd x y : N D).bind fun x => (.ok (.int 53) : N D).bind fun y => dAdd x y : N D).bind dInt : N D).bind fun x => (.ok (.int 2147483629) : N D).bind fun y => dMod x y : N D).bind fun d => .ok (.nx d)) fun (mixed_6 : D) => .ok (.nx (mixed_6))) po_cx rfl (src_seq rfl (de_var (i := 1) (d := cells_1))) (pat_name 3) (pg_name (i := 3) sc_law_source.nd rfl (by first | exact Or.inl rfl | exact Or.inr rfl)) (by repeat (first | exact Wk.nil | exact Wk.same (Wk.refl _) | apply Wk.same | apply Wk.un)) (fun y5 s4 => (ds_cons (ds_set (i := 2) sc_law_source.nd (de_mod (de_intC T.b_int (de_add (de_add (de_mul (de_var (i := 2) (d := s4)) de_int) (de_mod (de_var (i := 3) (d := y5)) de_int)) de_int)) de_int)) (fun (mixed_6 : D) => (ds_nilW (mixed_6) (by repeat (first | exact Wk.nil | exact Wk.same (Wk.refl _) | apply Wk.same | apply Wk.un))))))) (fun (s4 : D) => (ds_one (ds_ret (de_deal T.dl (de_cells T.dl rfl (de_lcG (own := [("_law_cell", 3)]) (m := 4) rfl sc_law_source.nd (src_seq rfl (de_var (i := 1) (d := cells_1))) (pat_name 3) (blkOk_by (own := [("_law_cell", 3)]) (N := N_law_source) (sc := defScope s_law_source) (by decide +kernel)) (fun _ _ _ _ _ => pg_name (i := 3) sc_law_source.nd rfl (Or.inl rfl)) (fun _ _ _ _ _ c7 => (dts_one (dt_cmp op_ge (r2_I0 fun _ _ _ => .bl _) (iOp_tot _) (de_var (i := 3) (d := c7)) (de_pow de_int de_int) (nomark _)))) (fun _ _ _ _ _ c7 => (de_var (i := 3) (d := c7))))) (de_var (i := 2) (d := s4))))))))))))

abbrev s_law_any : Stmt := topS 35
abbrev N_law_any : List Str := ["_law_source_here", "_law_bound", "_law_rest"]
theorem sc_law_any : FnScope N_law_any ["_law_source_here", "_law_bound"] (defScope s_law_any) := ⟨rfl, rfl, rfl, by decide +kernel, rfl, by decide +kernel, by decide +kernel⟩
theorem ok_law_any {f : Addr} {fd : FuncData} (F : FunD Z.K "_law_any" "_law_any" (defArgs s_law_any) (defBody s_law_any) (defScope s_law_any) [] [] f fd) (hz : Z.dl = DL) (b_int : mg "int" = none) : FnOk P w Z.K mg base (L2.CX P w) 1 f fd ["_law_source_here", "_law_bound"] (spN Z 2 (app2 m_law_any)) := by
  refine F.ok sc_law_any (fun vs H Q E h => h.1) (fun cdv A outer s H vs Q E hr h => ?_)
  obtain ⟨hl, F0, ds, ok0, t0, r0, q0⟩ := h
  have hd : ds.length = 2 := ar2 _ _ _ _ q0
  match ds, hd with
  | [d, b], _ =>
  cases r0 with
  | cons r1 r0 =>
  cases r0 with
  | cons r2 r0 =>
  cases r0
  have q1 : (m_law_any d b).wp (fun d => ∀ v F' H', Ext F0 H F' H' → Rp Z F' v d → Q v H') (fun c x => ∀ cls dd F' H', Ext F0 H F' H' → ErrIs Z F' c x cls dd → E cls dd H') := q0
  match d, b with
  | .dl 0, .int n =>
  obtain ⟨⟨hn0, hn1⟩, q⟩ := q1
  have q : ∀ r : Int, 0 ≤ r ∧ r < n → ∀ v F' H', Ext F0 H F' H' → Rp Z F' v (.int r) → Q v H' := q
  cases r2
  cases r1 with
  | dl hb =>
  rename_i a
  rw [hz] at hb
  obtain ⟨c, hca, hA, hC⟩ := hb
  have hb : ∀ {σ : St} {H' : Hp}, Ext F0 H F0 H' → σ[0]? = some (some (.ref a)) → σ[1]? = some (some (.int n)) → 2 < σ.length → BoxAt F0 H a c n σ H' := fun e s0 s1 h2 => .of e hA hC s0 s1 h2
  refine ⟨_, pss_cons (ps_while po_cx (PW.pt (pw_and (pt_cmpR (op_neD hr.units) (pe_ix ix_seq (pv 0) pe_int fun _ _ => rfl) (pe_lst pa_nil) (nomark _)) (pw_and1 (pt_cmpR op_eq (pe_ix ix_seq (pe_ix ix_seq (pv 0) pe_int fun _ _ => rfl) (pe_un un_neg pe_int) fun _ _ => rfl) pe_int (nomark _)))))
      (pss_one (ps_expr (pe_bm0 PySem.F.plainAttrs_list PySem.F.slot_list_pop PySem.F.type_list_pop mt_pop (pe_ix ix_seq (pv 0) pe_int fun _ _ => rfl)))))
    (PSs.imp (t' := fun D σ H' => BoxAt F0 H a c n σ H' ∧ ∀ r : Int, 0 ≤ r ∧ r < n → ∀ H'', Ext F0 H F0 H'' → D.rt (.int r) H'') (pss_cons (ps_if (pt_cmpR (op_neD hr.units) (pe_ix ix_seq (pv 0) pe_int fun _ _ => rfl) (pe_lst pa_nil) (nomark _))
      (pss_cons (ps_set (i := 2) sc_law_any.nd rfl (.inl rfl) (pe_callTy call_int1 rfl b_int (by decide +kernel) (pa_cons (pe_bm0 PySem.F.plainAttrs_list PySem.F.slot_list_pop PySem.F.type_list_pop mt_pop (pe_ix ix_seq (pv 0) pe_int fun _ _ => rfl)) pa_nil)))
        (pss_cons (ps_expr (pe_bm PySem.F.plainAttrs_list PySem.F.slot_list_append PySem.F.type_list_append mt_append (pe_ix ix_seq (pv 0) pe_int fun _ _ => rfl) (pa_cons (pe_op op_fdiv (pv 2) (pv 1)) pa_nil)))
          (pss_one (ps_ret (pe_op op_mod (pv 2) (pv 1))))))
      pss_nil)
    (pss_cons (ps_asg (pe_op op_mod (pe_callTy call_int1 rfl b_int (by decide +kernel) (pa_cons (pe_op op_add (pe_op op_mul (pe_ix ix_seq (pv 0) pe_int fun _ _ => rfl) pe_int) pe_int) pa_nil)) pe_int) (pg_sub (pv 0) pe_int set_list))
      (pss_one (ps_ret (pe_op op_mod (pe_callTy call_int1 rfl b_int (by decide +kernel) (pa_cons (pe_op op_fdiv (pe_ix ix_seq (pv 0) pe_int fun _ _ => rfl) pe_int) pa_nil)) (pv 1)))))) ?_), ?_⟩
  · rintro D σ H1 ⟨B, k⟩
    obtain ⟨ks, hk, hkl⟩ := B.cl
    have s0 := B.s0
    have s1 := B.s1
    refine test0 B ks hk (fun H2 e2 ha2 hc2 => ?_)
    rw [hk] at hc2
    by_cases hks : ks = []
    · show if (!decide (ks = [])) = true then _ else _
      rw [if_neg (by rw [hks]; exact Bool.false_ne_true)]
      obtain ⟨x, hx⟩ := (hb e2 s0 s1 B.lt2).bx
      refine ⟨_, s0, .inl ⟨a, _, 1, .int x, rfl, rfl, SqL.of hx, rfl, ⟨x, 40692, rfl, rfl, .inr ⟨by decide, by decide⟩, ⟨_, 127, rfl, rfl, .inl ⟨_, rfl, ⟨_, 2147483629, rfl, rfl, (by decide : (0 : Int) < 2147483629), ?_⟩⟩⟩⟩⟩⟩
      refine ⟨_, s0, ⟨a, _, 1, 1, rfl, rfl, hx, rfl, ?_⟩⟩
      have e3 : Ext F0 H F0 (upd H2 a (.lst ([V.ref c, V.int x].set 1 (V.int ((x * 40692 + 127) % 2147483629))))) := e2.put hA ⟨_, rfl⟩ (fun ⟨_, z⟩ => by cases z)
      refine ⟨_, s0, .inl ⟨a, _, 1, .int _, rfl, rfl, SqL.of upd_same, rfl, ⟨_, 64, rfl, rfl, ⟨by decide, by decide⟩, .inl ⟨_, rfl, ⟨_, s1, ⟨_, n, rfl, rfl, hn0, ?_⟩⟩⟩⟩⟩⟩
      exact k _ ⟨Int.emod_nonneg _ (by omega), Int.emod_lt_of_pos _ hn0⟩ _ e3
    · show if (!decide (ks = [])) = true then _ else _
      rw [if_pos (by rw [decide_eq_false hks]; rfl)]
      have B2 := hb e2 s0 s1 B.lt2
      have h2lt : 2 < σ.length := B.lt2
      have hlast : (ks.map V.int)[(ks.map V.int).length - 1]? = some (.int (ks.getLast hks)) := by
        rw [List.length_map, List.getElem?_map, ← List.getLast?_eq_getElem?, List.getLast?_eq_some_getLast hks]
        rfl
      refine run0 B2 ⟨.inl ⟨rfl, _, SqL.of hc2⟩, c, _, _, rfl, rfl, hc2, hlast, .inl ⟨_, rfl, ?_⟩⟩
      have hdl : (ks.map V.int).dropLast = ks.dropLast.map V.int := List.map_dropLast.symm
      have hlen : ks.dropLast.length < sizeLine := by
        have := List.length_pos_iff.mpr hks
        rw [List.length_dropLast]
        omega
      rw [hdl]
      have e3 : Ext F0 H F0 (upd H2 c (.lst (ks.dropLast.map V.int))) := e2.put hC ⟨_, rfl, Nat.le_of_lt hlen⟩ (fun ⟨_, z⟩ => by cases z)
      have t0 : (σ.set 2 (some (V.int (ks.getLast hks))))[0]? = some (some (.ref a)) := by rw [List.getElem?_set_ne (by decide)]; exact s0
      have t1 : (σ.set 2 (some (V.int (ks.getLast hks))))[1]? = some (some (.int n)) := by rw [List.getElem?_set_ne (by decide)]; exact s1
      have t2 : (σ.set 2 (some (V.int (ks.getLast hks))))[2]? = some (some (.int (ks.getLast hks))) := List.getElem?_set_self h2lt
      have B3 := hb e3 t0 t1 (by rw [List.length_set]; exact B.lt2)
      refine run0 B3 ⟨.inl ⟨rfl, _, SqL.of upd_same⟩, _, t2, _, t1, _, _, rfl, rfl, ⟨hn0, hn1⟩, c, _, _, rfl, rfl, upd_same, by rw [List.length_map]; exact hlen, ?_⟩
      have e4 : Ext F0 H F0 (upd (upd H2 c (.lst (ks.dropLast.map V.int))) c (.lst (ks.dropLast.map V.int ++ [V.int (ks.getLast hks / n)]))) := e3.put hC ⟨ks.dropLast ++ [ks.getLast hks / n], by rw [List.map_append]; rfl, by rw [List.length_append]; exact hlen⟩ (fun ⟨_, z⟩ => by cases z)
      exact ⟨_, t2, _, t1, _, _, rfl, rfl, hn0, k _ ⟨Int.emod_nonneg _ (by omega), Int.emod_lt_of_pos _ hn0⟩ _ e4⟩
  · refine ⟨fun m σ H' => m = lnc c H' ∧ Ext F0 H F0 H' ∧ σ[0]? = some (some (.ref a)) ∧ σ[1]? = some (some (.int n)) ∧ 2 < σ.length, ⟨_, rfl, Ext.refl ok0, rfl, rfl, Nat.lt_succ_self 2⟩, ?_⟩
    rintro m σ H1 ⟨rfl, e1, s0, s1, h2⟩
    have B := hb e1 s0 s1 h2
    obtain ⟨ks, hk, hkl⟩ := B.cl
    refine test0 B ks hk (fun H2 e2 ha2 hc2 => ?_)
    rw [hk] at hc2
    have k : ∀ r : Int, 0 ≤ r ∧ r < n → ∀ H'', Ext F0 H F0 H'' → Q (.int r) H'' := fun r hr H'' e => q r hr _ F0 H'' e (.int r)
    by_cases hks : ks = []
    · show if (!decide (ks = [])) = true then _ else _
      rw [if_neg (by rw [hks]; exact Bool.false_ne_true)]
      exact ⟨hb e2 s0 s1 h2, k⟩
    · show if (!decide (ks = [])) = true then _ else _
      rw [if_pos (by rw [decide_eq_false hks]; rfl)]
      have B2 := hb e2 s0 s1 h2
      refine run0 B2 ⟨_, rfl, .inl ⟨c, _, -1, _, rfl, rfl, SqL.of hc2, atI_back hks, rfl, ?_⟩⟩
      refine ⟨_, rfl, ?_⟩
      by_cases hz0 : ks.getLast hks = 0
      · rw [hz0]
        show if (true = true) then _ else _
        rw [if_pos rfl]
        have hlast : (ks.map V.int)[(ks.map V.int).length - 1]? = some (.int (ks.getLast hks)) := by
          rw [List.length_map, List.getElem?_map, ← List.getLast?_eq_getElem?, List.getLast?_eq_some_getLast hks]
          rfl
        have hdl : (ks.map V.int).dropLast = ks.dropLast.map V.int := List.map_dropLast.symm
        have hlen : ks.dropLast.length < ks.length := by
          have := List.length_pos_iff.mpr hks
          rw [List.length_dropLast]
          omega
        have e3 : Ext F0 H F0 (upd H2 c (.lst (ks.dropLast.map V.int))) := e2.put hC ⟨_, rfl, Nat.le_trans (Nat.le_of_lt hlen) hkl⟩ (fun ⟨_, z⟩ => by cases z)
        refine ⟨fun σ' H' => lnc c H' < lnc c H1 ∧ Ext F0 H F0 H' ∧ σ'[0]? = some (some (.ref a)) ∧ σ'[1]? = some (some (.int n)) ∧ 2 < σ'.length, fun σ' H' ⟨h1, h2⟩ => ⟨_, h1, rfl, h2⟩, ?_⟩
        refine run0 B2 ⟨.inl ⟨rfl, _, SqL.of hc2⟩, c, _, _, rfl, rfl, hc2, hlast, ?_⟩
        rw [hdl]
        refine ⟨?_, e3, s0, s1, h2⟩
        unfold lnc
        rw [upd_same, hk]
        show (ks.dropLast.map V.int).length < (ks.map V.int).length
        rw [List.length_map, List.length_map]
        exact hlen
      · have hne : decide (V.int (ks.getLast hks) = V.int 0) = false := decide_eq_false (fun z => hz0 (V.int.inj z))
        rw [hne]
        show if (false = true) then _ else _
        rw [if_neg Bool.false_ne_true]
        exact ⟨B2, k⟩

abbrev s_law_of : Stmt := topS 36
abbrev N_law_of : List Str := ["_law_source_here", "_law_some"]
theorem sc_law_of : FnScope N_law_of ["_law_source_here", "_law_some"] (defScope s_law_of) := ⟨rfl, rfl, rfl, by decide +kernel, rfl, by decide +kernel, by decide +kernel⟩
def m_law_of (a_law_source_here : D) (a_law_some : D) : N D := (((.ok a_law_some : N D).bind fun x => ((.ok a_law_source_here : N D).bind fun x => ((.ok a_law_some : N D).bind dLen : N D).bind fun y => m_law_any x y : N D).bind fun y => dIx x y : N D).bind fun d => .ok (.rt d) : N (Fl Unit Unit)).fin
theorem ok_law_of {f : Addr} {fd : FuncData} (F : FunD Z.K "_law_of" "_law_of" (defArgs s_law_of) (defBody s_law_of) (defScope s_law_of) [] [] f fd) (T : Txt Z mg cK fI) (C_law_any : Df P w Z mg base "_law_any" 1 2 (app2 m_law_any)) : FnOk P w Z.K mg base (L2.CX P w) 2 f fd ["_law_source_here", "_law_some"] (spN Z 2 (app2 m_law_of)) := by
  refine fn_okD (ps := ["_law_source_here", "_law_some"]) F sc_law_of (ar2 _) (fun cdv A outer s H E F0 ds hr tk hl => ?_)
  match ds, hl with
  | [a_law_source_here, a_law_some], _ =>
    refine ⟨Unit, Unit, fun _ => [.dat (a_law_source_here), .dat (a_law_some)], fun _ => [.dat (a_law_source_here), .dat (a_law_some)], _, ?_, fun _ _ h => h⟩
    exact ((ds_one (ds_ret (de_ixD rfl (de_var (i := 1) (d := a_law_some)) (de_call2 (Df.cal C_law_any (hr.mono (by decide))) tk (Wk.un' rfl) (de_var (i := 0) (d := a_law_source_here)) (de_len rfl T.b_len (de_var (i := 1) (d := a_law_some))))))))

abbrev s_law_goings : Stmt := topS 37
abbrev N_law_goings : List Str := ["_law_source_here", "_law_many", "_law_found", "_law_one", "_law_other"]
theorem sc_law_goings : FnScope N_law_goings ["_law_source_here", "_law_many"] (defScope s_law_goings) := ⟨rfl, rfl, rfl, by decide +kernel, rfl, by decide +kernel, by decide +kernel⟩
def m_law_goings (a_law_source_here : D) (a_law_many : D) : N D := (N.seq (.ok (.nx ())) fun (_ : Unit) => N.seq (((.ok a_law_many : N D).bind N.rng1 : N (List D)).bind fun ds => (N.decs (fun d => some d) ds).bind fun ps => N.loop (fun (y2 : D) (s1 : (List D)) => N.seq (((.ok a_law_many : N D).bind N.rng1 : N (List D)).bind fun ds => (N.decs (fun d => some d) ds).bind fun ps => N.loop (fun (y4 : D) (s3 : (List D)) => N.seq (((((.ok y2 : N D).bind fun x => (.ok y4 : N D).bind fun y => dNeS x y : N D).bind N.tst : N Bool).bind fun x => if x = true then ((((.ok a_law_source_here : N D).bind fun x => (.ok (.int 5) : N D).bind fun y => m_law_any x y : N D).bind fun x => (.ok (.int 2) : N D).bind fun y => dLt x y : N D).bind N.tst) else .ok false : N Bool).bind fun x => if x = true then (N.seq ((((.ok y2 : N D).bind fun x => ((.ok y4 : N D).bind fun x => (.ok [] : N (List D)).bind fun xs => .ok (x :: xs) : N (List D)).bind fun xs => .ok (x :: xs) : N (List D)).bind fun xs => (N.le1 xs).bind fun _ => .ok (.tup xs) : N D).bind fun d => (N.asrt ((s3 : List D).length < sizeLine)).bind fun _ => .ok (.nx d)) fun (a6 : D) => .ok (.nx ((s3 ++ [a6])))) else (.ok (.nx (s3)))) fun (j5 : (List D)) => .ok (.nx (j5))) ps (s1)) fun (s3 : (List D)) => .ok (.nx (s3))) ps ([])) fun (s1 : (List D)) => (.ok (.lst s1) : N D).bind fun d => .ok (.rt d) : N (Fl Unit Unit)).fin
theorem ok_law_goings {f : Addr} {fd : FuncData} (F : FunD Z.K "_law_goings" "_law_goings" (defArgs s_law_goings) (defBody s_law_goings) (defScope s_law_goings) [] [] f fd) (T : Txt Z mg cK fI) (C_law_any : Df P w Z mg base "_law_any" 1 2 (app2 m_law_any)) : FnOk P w Z.K mg base (L2.CX P w) 2 f fd ["_law_source_here", "_law_many"] (spN Z 2 (app2 m_law_goings)) := by
  refine fn_okD (ps := ["_law_source_here", "_law_many"]) F sc_law_goings (ar2 _) (fun cdv A outer s H E F0 ds hr tk hl => ?_)
  match ds, hl with
  | [a_law_source_here, a_law_many], _ =>
    refine ⟨Unit, Unit, fun _ => [.dat (a_law_source_here), .dat (a_law_many), .un, .un, .un], fun _ => [.dat (a_law_source_here), .dat (a_law_many), .un, .un, .un], _, ?_, fun _ _ h => h⟩
    exact ((ds_cons (ds_newL (i := 2) sc_law_goings.nd) (fun (_ : Unit) => (ds_cons (ds_forG (sl := fun (s1 : (List D)) => [.dat (a_law_source_here), .dat (a_law_many), .own (.lst (s1)), .un, .un]) ([]) (fun (y2 : D) (s1 : (List D)) => N.seq (((.ok a_law_many : N D).bind N.rng1 : N (List D)).bind fun ds => (N.decs (fun d => some d) ds).bind fun ps => N.loop (fun (y4 : D) (s3 : (List D)) => N.seq (((((.ok y2 : N D).bind fun x => (.ok y4 : N D).bind fun y => dNeS x y : N D).bind N.tst : N Bool).bind fun x => if x = true then ((((.ok a_law_source_here : N D).bind fun x => (.ok (.int 5) : N D).bind fun y => m_law_any x y : N D).bind fun x => (.ok (.int 2) : N D).bind fun y => dLt x y : N D).bind N.tst) else .ok false : N Bool).bind fun x => if x = true then (N.seq ((((.ok y2 : N D).bind fun x => ((.ok y4 : N D).bind fun x => (.ok [] : N (List D)).bind fun xs => .ok (x :: xs) : N (List D)).bind fun xs => .ok (x :: xs) : N (List D)).bind fun xs => (N.le1 xs).bind fun _ => .ok (.tup xs) : N D).bind fun d => (N.asrt ((s3 : List D).length < sizeLine)).bind fun _ => .ok (.nx d)) fun (a6 : D) => .ok (.nx ((s3 ++ [a6])))) else (.ok (.nx (s3)))) fun (j5 : (List D)) => .ok (.nx (j5))) ps (s1)) fun (s3 : (List D)) => .ok (.nx (s3))) po_cx rfl (src_rng1 T.b_range (de_var (i := 1) (d := a_law_many))) (pat_name 3) (pg_name (i := 3) sc_law_goings.nd rfl (by first | exact Or.inl rfl | exact Or.inr rfl)) (by repeat (first | exact Wk.nil | exact Wk.same (Wk.refl _) | apply Wk.same | apply Wk.un)) (fun y2 s1 => (ds_cons (ds_forG (sl := fun (s3 : (List D)) => [.dat (a_law_source_here), .dat (a_law_many), .own (.lst (s3)), .dat (y2), .un]) (s1) (fun (y4 : D) (s3 : (List D)) => N.seq (((((.ok y2 : N D).bind fun x => (.ok y4 : N D).bind fun y => dNeS x y : N D).bind N.tst : N Bool).bind fun x => if x = true then ((((.ok a_law_source_here : N D).bind fun x => (.ok (.int 5) : N D).bind fun y => m_law_any x y : N D).bind fun x => (.ok (.int 2) : N D).bind fun y => dLt x y : N D).bind N.tst) else .ok false : N Bool).bind fun x => if x = true then (N.seq ((((.ok y2 : N D).bind fun x => ((.ok y4 : N D).bind fun x => (.ok [] : N (List D)).bind fun xs => .ok (x :: xs) : N (List D)).bind fun xs => .ok (x :: xs) : N (List D)).bind fun xs => (N.le1 xs).bind fun _ => .ok (.tup xs) : N D).bind fun d => (N.asrt ((s3 : List D).length < sizeLine)).bind fun _ => .ok (.nx d)) fun (a6 : D) => .ok (.nx ((s3 ++ [a6])))) else (.ok (.nx (s3)))) fun (j5 : (List D)) => .ok (.nx (j5))) po_cx rfl (src_rng1 T.b_range (de_var (i := 1) (d := a_law_many))) (pat_name 4) (pg_name (i := 4) sc_law_goings.nd rfl (by first | exact Or.inl rfl | exact Or.inr rfl)) (by repeat (first | exact Wk.nil | exact Wk.same (Wk.refl _) | apply Wk.same | apply Wk.un)) (fun y4 s3 => (ds_cons (ds_if (sl := fun (j5 : (List D)) => [.dat (a_law_source_here), .dat (a_law_many), .own (.lst (j5)), .dat (y2), .dat (y4)]) (PW.pt (dw_and (dt_cmp op_ne r2_NeS dNeS_tot (de_var (i := 3) (d := y2)) (de_var (i := 4) (d := y4)) (nomark _)) (dw_and1 (dt_cmp op_lt (r2_I0 fun _ _ _ => .bl _) (iOp_tot _) (de_call2 (Df.cal C_law_any (hr.mono (by decide))) tk (Wk.un' rfl) (de_var (i := 0) (d := a_law_source_here)) de_int) de_int (nomark _))))) (ds_cons (ds_appX (i := 2) (ds := s3) rfl rfl (de_tup (da_cons (de_var (i := 3) (d := y2)) (da_cons (de_var (i := 4) (d := y4)) da_nil)))) (fun (a6 : D) => (ds_nil ((s3 ++ [a6]))))) (ds_nil (s3))) (fun (j5 : (List D)) => (ds_nilW (j5) (by repeat (first | exact Wk.nil | exact Wk.same (Wk.refl _) | apply Wk.same | apply Wk.un))))))) (fun (s3 : (List D)) => (ds_nilW (s3) (by repeat (first | exact Wk.nil | exact Wk.same (Wk.refl _) | apply Wk.same | apply Wk.un))))))) (fun (s1 : (List D)) => (ds_freeze (i := 2) (ds := s1) rfl (ds_one (ds_ret (de_var (i := 2) (d := (.lst s1)))))))))))

abbrev s_law_way : Stmt := topS 38
abbrev N_law_way : List Str := ["_law_source_here", "_law_goings_here", "_law_lane", "_law_most", "_law_way_here", "_law_turn", "_law_later", "_law_one", "_law_other"]
theorem sc_law_way : FnScope N_law_way ["_law_source_here", "_law_goings_here", "_law_lane", "_law_most"] (defScope s_law_way) := ⟨rfl, rfl, rfl, by decide +kernel, rfl, by decide +kernel, by decide +kernel⟩
def m_law_way (a_law_source_here : D) (a_law_goings_here : D) (a_law_lane : D) (a_law_most : D) : N D := (N.seq (.ok (.nx ())) fun (_ : Unit) => N.seq ((((.ok a_law_source_here : N D).bind fun x => ((.ok a_law_most : N D).bind fun x => (.ok (.int 1) : N D).bind fun y => dAdd x y : N D).bind fun y => m_law_any x y : N D).bind N.rng1 : N (List D)).bind fun ds => (N.decs (fun d => some d) ds).bind fun ps => N.loop (fun (y2 : D) (s1 : D × (List D)) => N.seq ((N.lcG ((.ok a_law_goings_here : N D).bind seqOf) dec2 (fun c4 : D × D => (((.ok c4.1 : N D).bind fun x => (.ok s1.1 : N D).bind fun y => dEqD x y : N D).bind N.tst : N Bool)) (fun c4 : D × D => (.ok c4.2 : N D)) : N D).bind fun d => .ok (.nx d)) fun (later_3 : D) => N.seq ((((.ok later_3 : N D).bind fun x => ((.ok [] : N (List D)).bind fun xs => (N.le1 xs).bind fun _ => .ok (.lst xs) : N D).bind fun y => dNeD x y : N D).bind N.tst : N Bool).bind fun x => if x = true then (N.seq (((.ok a_law_source_here : N D).bind fun x => (.ok later_3 : N D).bind fun y => m_law_of x y : N D).bind fun d => .ok (.nx d)) fun (lane_6 : D) => N.seq ((.ok lane_6 : N D).bind fun d => (N.asrt ((s1.2 : List D).length < sizeLine)).bind fun _ => .ok (.nx d)) fun (a7 : D) => .ok (.nx ((lane_6, (s1.2 ++ [a7]))))) else (.ok (.nx ((s1.1, s1.2))))) fun (j5 : D × (List D)) => .ok (.nx ((j5.1, j5.2)))) ps ((a_law_lane, []))) fun (s1 : D × (List D)) => ((.ok (.lst s1.2) : N D).bind dTuple : N D).bind fun d => .ok (.rt d) : N (Fl Unit Unit)).fin
theorem ok_law_way {f : Addr} {fd : FuncData} (F : FunD Z.K "_law_way" "_law_way" (defArgs s_law_way) (defBody s_law_way) (defScope s_law_way) [] [] f fd) (T : Txt Z mg cK fI) (C_law_any : Df P w Z mg base "_law_any" 1 2 (app2 m_law_any)) (C_law_of : Df P w Z mg base "_law_of" 2 2 (app2 m_law_of)) : FnOk P w Z.K mg base (L2.CX P w) 3 f fd ["_law_source_here", "_law_goings_here", "_law_lane", "_law_most"] (spN Z 4 (app4 m_law_way)) := by
  refine fn_okD (ps := ["_law_source_here", "_law_goings_here", "_law_lane", "_law_most"]) F sc_law_way (ar4 _) (fun cdv A outer s H E F0 ds hr tk hl => ?_)
  match ds, hl with
  | [a_law_source_here, a_law_goings_here, a_law_lane, a_law_most], _ =>
    refine ⟨Unit, Unit, fun _ => [.dat (a_law_source_here), .dat (a_law_goings_here), .dat (a_law_lane), .dat (a_law_most), .un, .un, .un, .un, .un], fun _ => [.dat (a_law_source_here), .dat (a_law_goings_here), .dat (a_law_lane), .dat (a_law_most), .un, .un, .un, .un, .un], _, ?_, fun _ _ h => h⟩
    exact ((ds_cons (ds_newL (i := 4) sc_law_way.nd) (fun (_ : Unit) => (ds_cons (ds_forG (sl := fun (s1 : D × (List D)) => [.dat (a_law_source_here), .dat (a_law_goings_here), .dat (s1.1), .dat (a_law_most), .own (.lst (s1.2)), .un, .un, .un, .un]) ((a_law_lane, [])) (fun (y2 : D) (s1 : D × (List D)) => N.seq ((N.lcG ((.ok a_law_goings_here : N D).bind seqOf) dec2 (fun c4 : D × D => (((.ok c4.1 : N D).bind fun x => (.ok s1.1 : N D).bind fun y => dEqD x y : N D).bind N.tst : N Bool)) (fun c4 : D × D => (.ok c4.2 : N D)) : N D).bind fun d => .ok (.nx d)) fun (later_3 : D) => N.seq ((((.ok later_3 : N D).bind fun x => ((.ok [] : N (List D)).bind fun xs => (N.le1 xs).bind fun _ => .ok (.lst xs) : N D).bind fun y => dNeD x y : N D).bind N.tst : N Bool).bind fun x => if x = true then (N.seq (((.ok a_law_source_here : N D).bind fun x => (.ok later_3 : N D).bind fun y => m_law_of x y : N D).bind fun d => .ok (.nx d)) fun (lane_6 : D) => N.seq ((.ok lane_6 : N D).bind fun d => (N.asrt ((s1.2 : List D).length < sizeLine)).bind fun _ => .ok (.nx d)) fun (a7 : D) => .ok (.nx ((lane_6, (s1.2 ++ [a7]))))) else (.ok (.nx ((s1.1, s1.2))))) fun (j5 : D × (List D)) => .ok (.nx ((j5.1, j5.2)))) po_cx rfl (src_rng1 T.b_range (de_call2 (Df.cal C_law_any (hr.mono (by decide))) tk (Wk.un' rfl) (de_var (i := 0) (d := a_law_source_here)) (de_add (de_var (i := 3) (d := a_law_most)) de_int))) (pat_name 5) (pg_name (i := 5) sc_law_way.nd rfl (by first | exact Or.inl rfl | exact Or.inr rfl)) (by repeat (first | exact Wk.nil | exact Wk.same (Wk.refl _) | apply Wk.same | apply Wk.un)) (fun y2 s1 => (ds_cons (ds_lcG (i := 6) (own := [("_law_one", 7), ("_law_other", 8)]) (m := 9) rfl sc_law_way.nd (src_seq rfl (de_var (i := 1) (d := a_law_goings_here))) (pat_two (i := 7) (j := 8) rfl (by decide)) rfl rfl rfl rfl (by decide +kernel) (blkOk_by (own := [("_law_one", 7), ("_law_other", 8)]) (N := N_law_way) (sc := defScope s_law_way) (by decide +kernel)) (fun _ _ _ _ _ => pg_tup rfl (pgs_cons (pg_name (i := 7) sc_law_way.nd rfl (Or.inl rfl)) (pgs_cons (pg_name (i := 8) sc_law_way.nd rfl (Or.inl rfl)) pgs_nil))) (fun _ _ _ _ _ c4 => (dts_one (dt_cmp (op_eqD hr.units) r2_EqD dEqD_tot (de_var (i := 7) (d := c4.1)) (de_var (i := 2) (d := s1.1)) (nomark _)))) (fun _ _ _ _ _ c4 => (de_var (i := 8) (d := c4.2)))) (fun (later_3 : D) => (ds_cons (ds_if (sl := fun (j5 : D × (List D)) => [.dat (a_law_source_here), .dat (a_law_goings_here), .dat (j5.1), .dat (a_law_most), .own (.lst (j5.2)), .dat (y2), .dat (later_3), .un, .un]) (dt_cmp (op_neD hr.units) r2_NeD dNeD_tot (de_var (i := 6) (d := later_3)) (de_lst da_nil) (nomark _)) (ds_cons (ds_set (i := 2) sc_law_way.nd (de_call2 (Df.cal C_law_of (hr.mono (by decide))) tk (Wk.un' rfl) (de_var (i := 0) (d := a_law_source_here)) (de_var (i := 6) (d := later_3)))) (fun (lane_6 : D) => (ds_cons (ds_appX (i := 4) (ds := s1.2) rfl rfl (de_var (i := 2) (d := lane_6))) (fun (a7 : D) => (ds_nil ((lane_6, (s1.2 ++ [a7])))))))) (ds_nil ((s1.1, s1.2)))) (fun (j5 : D × (List D)) => (ds_nilW ((j5.1, j5.2)) (by repeat (first | exact Wk.nil | exact Wk.same (Wk.refl _) | apply Wk.same | apply Wk.un))))))))) (fun (s1 : D × (List D)) => (ds_freeze (i := 4) (ds := s1.2) rfl (ds_one (ds_ret (de_tuple rfl T.b_tuple (de_var (i := 4) (d := (.lst s1.2))))))))))))

abbrev s_law_standing : Stmt := topS 39
abbrev N_law_standing : List Str := ["_law_source_here", "_law_rooms", "_law_goings_here", "_law_most", "_law_rows", "_law_lane", "_law_room", "_law_count", "_law_robot"]
theorem sc_law_standing : FnScope N_law_standing ["_law_source_here", "_law_rooms", "_law_goings_here", "_law_most"] (defScope s_law_standing) := ⟨rfl, rfl, rfl, by decide +kernel, rfl, by decide +kernel, by decide +kernel⟩
def m_law_standing (a_law_source_here : D) (a_law_rooms : D) (a_law_goings_here : D) (a_law_most : D) : N D := (N.seq (.ok (.nx ())) fun (_ : Unit) => N.seq (((.ok a_law_rooms : N D).bind fun d => (enOf d).bind fun xs => .ok (numD xs) : N (List D)).bind fun ds => (N.decs dec2 ds).bind fun ps => N.loop (fun (y2 : D × D) (s1 : (List D)) => N.seq (((.ok y2.2 : N D).bind fun x => ((((.ok a_law_source_here : N D).bind fun x => (.ok (.int 3) : N D).bind fun y => m_law_any x y : N D).bind fun x => (.ok (.int 0) : N D).bind fun y => dEqS x y : N D).bind dInt : N D).bind fun y => dSub x y : N D).bind fun d => .ok (.nx d)) fun (count_3 : D) => N.seq (((N.lcG ((.ok count_3 : N D).bind N.rng1) (fun d => some d) (fun c4 : D => (.ok true : N Bool)) (fun c4 : D => ((.ok a_law_source_here : N D).bind fun x => (.ok a_law_goings_here : N D).bind fun y => (.ok y2.1 : N D).bind fun z => (.ok a_law_most : N D).bind fun u => m_law_way x y z u : N D)) : N D).bind dTuple : N D).bind fun d => (N.asrt ((s1 : List D).length < sizeLine)).bind fun _ => .ok (.nx d)) fun (a5 : D) => .ok (.nx ((s1 ++ [a5])))) ps ([])) fun (s1 : (List D)) => ((.ok (.lst s1) : N D).bind dTuple : N D).bind fun d => .ok (.rt d) : N (Fl Unit Unit)).fin
theorem ok_law_standing {f : Addr} {fd : FuncData} (F : FunD Z.K "_law_standing" "_law_standing" (defArgs s_law_standing) (defBody s_law_standing) (defScope s_law_standing) [] [] f fd) (T : Txt Z mg cK fI) (C_law_any : Df P w Z mg base "_law_any" 1 2 (app2 m_law_any)) (C_law_way : Df P w Z mg base "_law_way" 3 4 (app4 m_law_way)) : FnOk P w Z.K mg base (L2.CX P w) 4 f fd ["_law_source_here", "_law_rooms", "_law_goings_here", "_law_most"] (spN Z 4 (app4 m_law_standing)) := by
  refine fn_okD (ps := ["_law_source_here", "_law_rooms", "_law_goings_here", "_law_most"]) F sc_law_standing (ar4 _) (fun cdv A outer s H E F0 ds hr tk hl => ?_)
  match ds, hl with
  | [a_law_source_here, a_law_rooms, a_law_goings_here, a_law_most], _ =>
    refine ⟨Unit, Unit, fun _ => [.dat (a_law_source_here), .dat (a_law_rooms), .dat (a_law_goings_here), .dat (a_law_most), .un, .un, .un, .un, .un], fun _ => [.dat (a_law_source_here), .dat (a_law_rooms), .dat (a_law_goings_here), .dat (a_law_most), .un, .un, .un, .un, .un], _, ?_, fun _ _ h => h⟩
    exact ((ds_cons (ds_newL (i := 4) sc_law_standing.nd) (fun (_ : Unit) => (ds_cons (ds_forG (sl := fun (s1 : (List D)) => [.dat (a_law_source_here), .dat (a_law_rooms), .dat (a_law_goings_here), .dat (a_law_most), .own (.lst (s1)), .un, .un, .un, .un]) ([]) (fun (y2 : D × D) (s1 : (List D)) => N.seq (((.ok y2.2 : N D).bind fun x => ((((.ok a_law_source_here : N D).bind fun x => (.ok (.int 3) : N D).bind fun y => m_law_any x y : N D).bind fun x => (.ok (.int 0) : N D).bind fun y => dEqS x y : N D).bind dInt : N D).bind fun y => dSub x y : N D).bind fun d => .ok (.nx d)) fun (count_3 : D) => N.seq (((N.lcG ((.ok count_3 : N D).bind N.rng1) (fun d => some d) (fun c4 : D => (.ok true : N Bool)) (fun c4 : D => ((.ok a_law_source_here : N D).bind fun x => (.ok a_law_goings_here : N D).bind fun y => (.ok y2.1 : N D).bind fun z => (.ok a_law_most : N D).bind fun u => m_law_way x y z u : N D)) : N D).bind dTuple : N D).bind fun d => (N.asrt ((s1 : List D).length < sizeLine)).bind fun _ => .ok (.nx d)) fun (a5 : D) => .ok (.nx ((s1 ++ [a5])))) po_cx rfl (src_en rfl T.b_enumerate (de_var (i := 1) (d := a_law_rooms))) (pat_two (i := 5) (j := 6) rfl (by decide)) (pg_tup rfl (pgs_cons (pg_name (i := 5) sc_law_standing.nd rfl (by first | exact Or.inl rfl | exact Or.inr rfl)) (pgs_cons (pg_name (i := 6) sc_law_standing.nd rfl (by first | exact Or.inl rfl | exact Or.inr rfl)) pgs_nil))) (by repeat (first | exact Wk.nil | exact Wk.same (Wk.refl _) | apply Wk.same | apply Wk.un)) (fun y2 s1 => (ds_cons (ds_set (i := 7) sc_law_standing.nd (de_sub (de_var (i := 6) (d := y2.2)) (de_intC T.b_int (de_cmp op_eq r2_EqS dEqS_tot (de_call2 (Df.cal C_law_any (hr.mono (by decide))) tk (Wk.un' rfl) (de_var (i := 0) (d := a_law_source_here)) de_int) de_int (nomark _))))) (fun (count_3 : D) => (ds_cons (ds_appX (i := 4) (ds := s1) rfl rfl (de_tuple rfl T.b_tuple (de_lcG (own := [("_law_robot", 8)]) (m := 9) rfl sc_law_standing.nd (src_rng1 T.b_range (de_var (i := 7) (d := count_3))) (pat_name 8) (blkOk_by (own := [("_law_robot", 8)]) (N := N_law_standing) (sc := defScope s_law_standing) (by decide +kernel)) (fun _ _ _ _ _ => pg_name (i := 8) sc_law_standing.nd rfl (Or.inl rfl)) (fun _ _ _ _ _ c4 => (dts_nil (y := ()))) (fun _ _ _ _ _ c4 => (de_call4 (Df.cal C_law_way (hr.mono (by decide))) takes_no (Wk.un' rfl) (de_var (i := 0) (d := a_law_source_here)) (de_var (i := 2) (d := a_law_goings_here)) (de_var (i := 5) (d := y2.1)) (de_var (i := 3) (d := a_law_most))))))) (fun (a5 : D) => (ds_nilW ((s1 ++ [a5])) (by repeat (first | exact Wk.nil | exact Wk.same (Wk.refl _) | apply Wk.same | apply Wk.un))))))))) (fun (s1 : (List D)) => (ds_freeze (i := 4) (ds := s1) rfl (ds_one (ds_ret (de_tuple rfl T.b_tuple (de_var (i := 4) (d := (.lst s1))))))))))))

abbrev s_law_gone : Stmt := topS 40
abbrev N_law_gone : List Str := ["_law_standing_here", "_law_lane", "_law_place", "_law_rows", "_law_way_here", "_law_row"]
theorem sc_law_gone : FnScope N_law_gone ["_law_standing_here", "_law_lane", "_law_place"] (defScope s_law_gone) := ⟨rfl, rfl, rfl, by decide +kernel, rfl, by decide +kernel, by decide +kernel⟩
def m_law_gone (a_law_standing_here : D) (a_law_lane : D) (a_law_place : D) : N D := (N.seq ((N.lrG ((.ok a_law_standing_here : N D).bind seqOf) (fun d => some d) (fun c2 : D => (.ok true : N Bool)) (fun c2 : D => ((.ok c2 : N D).bind seqOf : N (List D))) : N (List (List D))).bind fun d => .ok (.nx d)) fun (rows_1 : List (List D)) => N.seq ((.ok a_law_lane : N D).bind fun j => (rowAt rows_1 j).bind fun p => (.ok a_law_place : N D).bind fun d => dPopR rows_1 p d) fun (p3 : D × List (List D)) => N.seq ((((.ok p3.1 : N D).bind fun x => ((.ok [] : N (List D)).bind fun xs => (N.le1 xs).bind fun _ => .ok (.tup xs) : N D).bind fun y => dNeD x y : N D).bind N.tst : N Bool).bind fun x => if x = true then (N.seq (((.ok p3.1 : N D).bind fun x => (.ok (.int 0) : N D).bind fun y => dIx x y : N D).bind fun j => (rowAt (p3.2) j).bind fun p => ((.ok p3.1 : N D).bind fun d => ((.ok (.int 1) : N D).bind fun d => (toI d).bind fun i => .ok (some i) : N (Option Int)).bind fun l => (.ok none : N (Option Int)).bind fun h => dSlT d l h : N D).bind fun d => (N.asrt (p.2.length < sizeLine)).bind fun _ => .ok (.nx (List.set (p3.2) p.1 (p.2 ++ [d])))) fun (r5 : List (List D)) => .ok (.nx (r5))) else (.ok (.nx (p3.2)))) fun (j4 : (List (List D))) => ((N.lcG ((.ok (.lst (List.map D.lst j4)) : N D).bind seqOf) (fun d => some d) (fun c6 : D => (.ok true : N Bool)) (fun c6 : D => ((.ok c6 : N D).bind dTuple : N D)) : N D).bind dTuple : N D).bind fun d => .ok (.rt d) : N (Fl Unit Unit)).fin
theorem ok_law_gone {f : Addr} {fd : FuncData} (F : FunD Z.K "_law_gone" "_law_gone" (defArgs s_law_gone) (defBody s_law_gone) (defScope s_law_gone) [] [] f fd) (T : Txt Z mg cK fI) : FnOk P w Z.K mg base (L2.CX P w) 2 f fd ["_law_standing_here", "_law_lane", "_law_place"] (spN Z 3 (app3 m_law_gone)) := by
  refine fn_okD (ps := ["_law_standing_here", "_law_lane", "_law_place"]) F sc_law_gone (ar3 _) (fun cdv A outer s H E F0 ds hr tk hl => ?_)
  match ds, hl with
  | [a_law_standing_here, a_law_lane, a_law_place], _ =>
    refine ⟨Unit, Unit, fun _ => [.dat (a_law_standing_here), .dat (a_law_lane), .dat (a_law_place), .un, .un, .un], fun _ => [.dat (a_law_standing_here), .dat (a_law_lane), .dat (a_law_place), .un, .un, .un], _, ?_, fun _ _ h => h⟩
    exact ((ds_cons (ds_rows (i := 3) (own := [("_law_row", 5)]) (m := 6) rfl sc_law_gone.nd (src_seq rfl (de_var (i := 0) (d := a_law_standing_here))) (pat_name 5) rfl rfl rfl rfl (by decide +kernel) (blkOk_by (own := [("_law_row", 5)]) (N := N_law_gone) (sc := defScope s_law_gone) (by decide +kernel)) (fun _ _ _ _ _ => pg_name (i := 5) sc_law_gone.nd rfl (Or.inl rfl)) (fun _ _ _ _ _ c2 => (dts_nil (y := ()))) (fun _ _ _ _ _ c2 => (re_list rfl T.b_list (de_var (i := 5) (d := c2))))) (fun (rows_1 : List (List D)) => (ds_cons (ds_rowPop (i := 3) (m := 4) (dss := rows_1) sc_law_gone.nd (by decide) rfl rfl rfl (de_var (i := 1) (d := a_law_lane)) (de_var (i := 2) (d := a_law_place))) (fun (p3 : D × List (List D)) => (ds_cons (ds_if (sl := fun (j4 : (List (List D))) => [.dat (a_law_standing_here), .dat (a_law_lane), .dat (a_law_place), .own (.rows (j4)), .dat (p3.1), .un]) (dt_cmp (op_neD hr.units) r2_NeD dNeD_tot (de_var (i := 4) (d := p3.1)) (de_tup da_nil) (nomark _)) (ds_cons (ds_rowApp (i := 3) (dss := p3.2) rfl rfl (de_ixD rfl (de_var (i := 4) (d := p3.1)) de_int) (de_slT rfl (de_var (i := 4) (d := p3.1)) (do_some de_int) do_none)) (fun (r5 : List (List D)) => (ds_nil (r5)))) (ds_nil (p3.2))) (fun (j4 : (List (List D))) => (ds_freezeR (i := 3) (dss := j4) rfl (ds_one (ds_ret (de_tuple rfl T.b_tuple (de_lcG (own := [("_law_row", 5)]) (m := 6) rfl sc_law_gone.nd (src_seq rfl (de_var (i := 3) (d := (.lst (List.map D.lst j4))))) (pat_name 5) (blkOk_by (own := [("_law_row", 5)]) (N := N_law_gone) (sc := defScope s_law_gone) (by decide +kernel)) (fun _ _ _ _ _ => pg_name (i := 5) sc_law_gone.nd rfl (Or.inl rfl)) (fun _ _ _ _ _ c6 => (dts_nil (y := ()))) (fun _ _ _ _ _ c6 => (de_tuple rfl T.b_tuple (de_var (i := 5) (d := c6))))))))))))))))

abbrev s_law_firsts : Stmt := topS 41
abbrev N_law_firsts : List Str := ["_law_rooms", "_law_standing_here", "_law_found", "_law_lane", "_law_row"]
theorem sc_law_firsts : FnScope N_law_firsts ["_law_rooms", "_law_standing_here"] (defScope s_law_firsts) := ⟨rfl, rfl, rfl, by decide +kernel, rfl, by decide +kernel, by decide +kernel⟩
def m_law_firsts (a_law_rooms : D) (a_law_standing_here : D) : N D := (N.seq (.ok (.nx ())) fun (_ : Unit) => N.seq (((.ok a_law_standing_here : N D).bind fun d => (enOf d).bind fun xs => .ok (numD xs) : N (List D)).bind fun ds => (N.decs dec2 ds).bind fun ps => N.loop (fun (y2 : D × D) (s1 : (List D)) => N.seq (((((.ok y2.2 : N D).bind fun x => ((.ok [] : N (List D)).bind fun xs => (N.le1 xs).bind fun _ => .ok (.tup xs) : N D).bind fun y => dNeD x y : N D).bind N.tst : N Bool).bind fun x => if x = true then (((((.ok y2.2 : N D).bind fun x => (.ok (.int 0) : N D).bind fun y => dIx x y : N D).bind fun x => ((.ok [] : N (List D)).bind fun xs => (N.le1 xs).bind fun _ => .ok (.tup xs) : N D).bind fun y => dEqD x y : N D).bind N.tst : N Bool).bind fun x => if x = true then .ok true else (((((.ok a_law_standing_here : N D).bind fun x => (((.ok y2.2 : N D).bind fun x => (.ok (.int 0) : N D).bind fun y => dIx x y : N D).bind fun x => (.ok (.int 0) : N D).bind fun y => dIx x y : N D).bind fun y => dIx x y : N D).bind dLen : N D).bind fun x => ((.ok a_law_rooms : N D).bind fun x => (((.ok y2.2 : N D).bind fun x => (.ok (.int 0) : N D).bind fun y => dIx x y : N D).bind fun x => (.ok (.int 0) : N D).bind fun y => dIx x y : N D).bind fun y => dIx x y : N D).bind fun y => dLt x y : N D).bind N.tst)) else .ok false : N Bool).bind fun x => if x = true then (N.seq ((.ok y2.1 : N D).bind fun d => (N.asrt ((s1 : List D).length < sizeLine)).bind fun _ => .ok (.nx d)) fun (a4 : D) => .ok (.nx ((s1 ++ [a4])))) else (.ok (.nx (s1)))) fun (j3 : (List D)) => .ok (.nx (j3))) ps ([])) fun (s1 : (List D)) => (.ok (.lst s1) : N D).bind fun d => .ok (.rt d) : N (Fl Unit Unit)).fin
theorem ok_law_firsts {f : Addr} {fd : FuncData} (F : FunD Z.K "_law_firsts" "_law_firsts" (defArgs s_law_firsts) (defBody s_law_firsts) (defScope s_law_firsts) [] [] f fd) (T : Txt Z mg cK fI) : FnOk P w Z.K mg base (L2.CX P w) 2 f fd ["_law_rooms", "_law_standing_here"] (spN Z 2 (app2 m_law_firsts)) := by
  refine fn_okD (ps := ["_law_rooms", "_law_standing_here"]) F sc_law_firsts (ar2 _) (fun cdv A outer s H E F0 ds hr tk hl => ?_)
  match ds, hl with
  | [a_law_rooms, a_law_standing_here], _ =>
    refine ⟨Unit, Unit, fun _ => [.dat (a_law_rooms), .dat (a_law_standing_here), .un, .un, .un], fun _ => [.dat (a_law_rooms), .dat (a_law_standing_here), .un, .un, .un], _, ?_, fun _ _ h => h⟩
    exact ((ds_cons (ds_newL (i := 2) sc_law_firsts.nd) (fun (_ : Unit) => (ds_cons (ds_forG (sl := fun (s1 : (List D)) => [.dat (a_law_rooms), .dat (a_law_standing_here), .own (.lst (s1)), .un, .un]) ([]) (fun (y2 : D × D) (s1 : (List D)) => N.seq (((((.ok y2.2 : N D).bind fun x => ((.ok [] : N (List D)).bind fun xs => (N.le1 xs).bind fun _ => .ok (.tup xs) : N D).bind fun y => dNeD x y : N D).bind N.tst : N Bool).bind fun x => if x = true then (((((.ok y2.2 : N D).bind fun x => (.ok (.int 0) : N D).bind fun y => dIx x y : N D).bind fun x => ((.ok [] : N (List D)).bind fun xs => (N.le1 xs).bind fun _ => .ok (.tup xs) : N D).bind fun y => dEqD x y : N D).bind N.tst : N Bool).bind fun x => if x = true then .ok true else (((((.ok a_law_standing_here : N D).bind fun x => (((.ok y2.2 : N D).bind fun x => (.ok (.int 0) : N D).bind fun y => dIx x y : N D).bind fun x => (.ok (.int 0) : N D).bind fun y => dIx x y : N D).bind fun y => dIx x y : N D).bind dLen : N D).bind fun x => ((.ok a_law_rooms : N D).bind fun x => (((.ok y2.2 : N D).bind fun x => (.ok (.int 0) : N D).bind fun y => dIx x y : N D).bind fun x => (.ok (.int 0) : N D).bind fun y => dIx x y : N D).bind fun y => dIx x y : N D).bind fun y => dLt x y : N D).bind N.tst)) else .ok false : N Bool).bind fun x => if x = true then (N.seq ((.ok y2.1 : N D).bind fun d => (N.asrt ((s1 : List D).length < sizeLine)).bind fun _ => .ok (.nx d)) fun (a4 : D) => .ok (.nx ((s1 ++ [a4])))) else (.ok (.nx (s1)))) fun (j3 : (List D)) => .ok (.nx (j3))) po_cx rfl (src_en rfl T.b_enumerate (de_var (i := 1) (d := a_law_standing_here))) (pat_two (i := 3) (j := 4) rfl (by decide)) (pg_tup rfl (pgs_cons (pg_name (i := 3) sc_law_firsts.nd rfl (by first | exact Or.inl rfl | exact Or.inr rfl)) (pgs_cons (pg_name (i := 4) sc_law_firsts.nd rfl (by first | exact Or.inl rfl | exact Or.inr rfl)) pgs_nil))) (by repeat (first | exact Wk.nil | exact Wk.same (Wk.refl _) | apply Wk.same | apply Wk.un)) (fun y2 s1 => (ds_cons (ds_if (sl := fun (j3 : (List D)) => [.dat (a_law_rooms), .dat (a_law_standing_here), .own (.lst (j3)), .dat (y2.1), .dat (y2.2)]) (PW.pt (dw_and (dt_cmp (op_neD hr.units) r2_NeD dNeD_tot (de_var (i := 4) (d := y2.2)) (de_tup da_nil) (nomark _)) (dw_and1 (PW.pt (dw_or (dt_cmp (op_eqD hr.units) r2_EqD dEqD_tot (de_ixD rfl (de_var (i := 4) (d := y2.2)) de_int) (de_tup da_nil) (nomark _)) (dw_or1 (dt_cmp op_lt (r2_I0 fun _ _ _ => .bl _) (iOp_tot _) (de_len rfl T.b_len (de_ixD rfl (de_var (i := 1) (d := a_law_standing_here)) (de_ixD rfl (de_ixD rfl (de_var (i := 4) (d := y2.2)) de_int) de_int))) (de_ixD rfl (de_var (i := 0) (d := a_law_rooms)) (de_ixD rfl (de_ixD rfl (de_var (i := 4) (d := y2.2)) de_int) de_int)) (nomark _)))))))) (ds_cons (ds_appX (i := 2) (ds := s1) rfl rfl (de_var (i := 3) (d := y2.1))) (fun (a4 : D) => (ds_nil ((s1 ++ [a4]))))) (ds_nil (s1))) (fun (j3 : (List D)) => (ds_nilW (j3) (by repeat (first | exact Wk.nil | exact Wk.same (Wk.refl _) | apply Wk.same | apply Wk.un))))))) (fun (s1 : (List D)) => (ds_freeze (i := 2) (ds := s1) rfl (ds_one (ds_ret (de_var (i := 2) (d := (.lst s1)))))))))))

abbrev s_law_knot : Stmt := topS 42
abbrev N_law_knot : List Str := ["_law_rooms", "_law_standing_here", "_law_lane", "_law_turn", "_law_ring", "_law_here", "_law_row"]
theorem sc_law_knot : FnScope N_law_knot ["_law_rooms", "_law_standing_here"] (defScope s_law_knot) := ⟨rfl, rfl, rfl, by decide +kernel, rfl, by decide +kernel, by decide +kernel⟩
def m_law_knot (a_law_rooms : D) (a_law_standing_here : D) : N D := (N.seq ((((.ok a_law_rooms : N D).bind dLen : N D).bind N.rng1 : N (List D)).bind fun ds => (N.decs (fun d => some d) ds).bind fun ps => N.loop (fun (y2 : D) (s1 : Unit) => N.seq (((.ok y2 : N D).bind fun x => (.ok [] : N (List D)).bind fun xs => .ok (x :: xs) : N (List D)).bind fun ds => (N.le1 ds).bind fun _ => (.ok y2 : N D).bind fun d => .ok (.nx (ds, d))) fun (b3 : List D × D) => N.seq ((((.ok a_law_rooms : N D).bind dLen : N D).bind N.rng1 : N (List D)).bind fun ds => (N.decs (fun d => some d) ds).bind fun ps => N.loop (fun (y5 : D) (s4 : D × (List D)) => N.seq (((.ok a_law_standing_here : N D).bind fun x => (.ok s4.1 : N D).bind fun y => dIx x y : N D).bind fun d => .ok (.nx d)) fun (row_6 : D) => N.seq ((((((.ok row_6 : N D).bind dLen : N D).bind fun x => ((.ok a_law_rooms : N D).bind fun x => (.ok s4.1 : N D).bind fun y => dIx x y : N D).bind fun y => dLt x y : N D).bind N.tst : N Bool).bind fun x => if x = true then .ok true else ((((.ok row_6 : N D).bind fun x => (.ok (.int 0) : N D).bind fun y => dIx x y : N D).bind fun x => ((.ok [] : N (List D)).bind fun xs => (N.le1 xs).bind fun _ => .ok (.tup xs) : N D).bind fun y => dEqD x y : N D).bind N.tst) : N Bool).bind fun x => if x = true then (N.seq (((.ok (.int 0) : N D).bind fun x => (.ok (.int 1) : N D).bind fun y => dSub x y : N D).bind fun d => .ok (.nx d)) fun (here_8 : D) => .ok (.bk ((here_8, s4.2)))) else (.ok (.nx (())))) fun (j7 : Unit) => N.seq ((((.ok row_6 : N D).bind fun x => (.ok (.int 0) : N D).bind fun y => dIx x y : N D).bind fun x => (.ok (.int 0) : N D).bind fun y => dIx x y : N D).bind fun d => .ok (.nx d)) fun (here_9 : D) => N.seq ((((.ok here_9 : N D).bind fun d => dInD d (.lst s4.2) : N D).bind N.tst : N Bool).bind fun x => if x = true then (.ok (.bk ((here_9, s4.2)))) else (.ok (.nx (())))) fun (j10 : Unit) => N.seq ((.ok here_9 : N D).bind fun d => (N.asrt ((s4.2 : List D).length < sizeLine)).bind fun _ => .ok (.nx d)) fun (a11 : D) => .ok (.nx ((here_9, (s4.2 ++ [a11]))))) ps ((b3.2, b3.1))) fun (s4 : D × (List D)) => N.seq ((((.ok s4.1 : N D).bind fun x => (.ok y2 : N D).bind fun y => dEqD x y : N D).bind N.tst : N Bool).bind fun x => if x = true then (((.ok (.lst s4.2) : N D).bind dTuple : N D).bind fun d => .ok (.rt d)) else (.ok (.nx (())))) fun (j12 : Unit) => .ok (.nx (()))) ps (())) fun (s1 : Unit) => (.ok .non : N D).bind fun d => .ok (.rt d) : N (Fl Unit Unit)).fin
theorem ok_law_knot {f : Addr} {fd : FuncData} (F : FunD Z.K "_law_knot" "_law_knot" (defArgs s_law_knot) (defBody s_law_knot) (defScope s_law_knot) [] [] f fd) (T : Txt Z mg cK fI) : FnOk P w Z.K mg base (L2.CX P w) 2 f fd ["_law_rooms", "_law_standing_here"] (spN Z 2 (app2 m_law_knot)) := by
  refine fn_okD (ps := ["_law_rooms", "_law_standing_here"]) F sc_law_knot (ar2 _) (fun cdv A outer s H E F0 ds hr tk hl => ?_)
  match ds, hl with
  | [a_law_rooms, a_law_standing_here], _ =>
    refine ⟨Unit, Unit, fun _ => [.dat (a_law_rooms), .dat (a_law_standing_here), .un, .un, .un, .un, .un], fun _ => [.dat (a_law_rooms), .dat (a_law_standing_here), .un, .un, .un, .un, .un], _, ?_, fun _ _ h => h⟩
    exact ((ds_cons (ds_forG (sl := fun (s1 : Unit) => [.dat (a_law_rooms), .dat (a_law_standing_here), .un, .un, .un, .un, .un]) (()) (fun (y2 : D) (s1 : Unit) => N.seq (((.ok y2 : N D).bind fun x => (.ok [] : N (List D)).bind fun xs => .ok (x :: xs) : N (List D)).bind fun ds => (N.le1 ds).bind fun _ => (.ok y2 : N D).bind fun d => .ok (.nx (ds, d))) fun (b3 : List D × D) => N.seq ((((.ok a_law_rooms : N D).bind dLen : N D).bind N.rng1 : N (List D)).bind fun ds => (N.decs (fun d => some d) ds).bind fun ps => N.loop (fun (y5 : D) (s4 : D × (List D)) => N.seq (((.ok a_law_standing_here : N D).bind fun x => (.ok s4.1 : N D).bind fun y => dIx x y : N D).bind fun d => .ok (.nx d)) fun (row_6 : D) => N.seq ((((((.ok row_6 : N D).bind dLen : N D).bind fun x => ((.ok a_law_rooms : N D).bind fun x => (.ok s4.1 : N D).bind fun y => dIx x y : N D).bind fun y => dLt x y : N D).bind N.tst : N Bool).bind fun x => if x = true then .ok true else ((((.ok row_6 : N D).bind fun x => (.ok (.int 0) : N D).bind fun y => dIx x y : N D).bind fun x => ((.ok [] : N (List D)).bind fun xs => (N.le1 xs).bind fun _ => .ok (.tup xs) : N D).bind fun y => dEqD x y : N D).bind N.tst) : N Bool).bind fun x => if x = true then (N.seq (((.ok (.int 0) : N D).bind fun x => (.ok (.int 1) : N D).bind fun y => dSub x y : N D).bind fun d => .ok (.nx d)) fun (here_8 : D) => .ok (.bk ((here_8, s4.2)))) else (.ok (.nx (())))) fun (j7 : Unit) => N.seq ((((.ok row_6 : N D).bind fun x => (.ok (.int 0) : N D).bind fun y => dIx x y : N D).bind fun x => (.ok (.int 0) : N D).bind fun y => dIx x y : N D).bind fun d => .ok (.nx d)) fun (here_9 : D) => N.seq ((((.ok here_9 : N D).bind fun d => dInD d (.lst s4.2) : N D).bind N.tst : N Bool).bind fun x => if x = true then (.ok (.bk ((here_9, s4.2)))) else (.ok (.nx (())))) fun (j10 : Unit) => N.seq ((.ok here_9 : N D).bind fun d => (N.asrt ((s4.2 : List D).length < sizeLine)).bind fun _ => .ok (.nx d)) fun (a11 : D) => .ok (.nx ((here_9, (s4.2 ++ [a11]))))) ps ((b3.2, b3.1))) fun (s4 : D × (List D)) => N.seq ((((.ok s4.1 : N D).bind fun x => (.ok y2 : N D).bind fun y => dEqD x y : N D).bind N.tst : N Bool).bind fun x => if x = true then (((.ok (.lst s4.2) : N D).bind dTuple : N D).bind fun d => .ok (.rt d)) else (.ok (.nx (())))) fun (j12 : Unit) => .ok (.nx (()))) po_cx rfl (src_rng1 T.b_range (de_len rfl T.b_len (de_var (i := 0) (d := a_law_rooms)))) (pat_name 2) (pg_name (i := 2) sc_law_knot.nd rfl (by first | exact Or.inl rfl | exact Or.inr rfl)) (by repeat (first | exact Wk.nil | exact Wk.same (Wk.refl _) | apply Wk.same | apply Wk.un)) (fun y2 s1 => (ds_cons (ds_parLs (i := 4) (j := 5) rfl sc_law_knot.nd (da_cons (de_var (i := 2) (d := y2)) da_nil) (de_var (i := 2) (d := y2)) rfl rfl (by decide) rfl rfl) (fun (b3 : List D × D) => (ds_cons (ds_forG (sl := fun (s4 : D × (List D)) => [.dat (a_law_rooms), .dat (a_law_standing_here), .dat (y2), .un, .own (.lst (s4.2)), .dat (s4.1), .un]) ((b3.2, b3.1)) (fun (y5 : D) (s4 : D × (List D)) => N.seq (((.ok a_law_standing_here : N D).bind fun x => (.ok s4.1 : N D).bind fun y => dIx x y : N D).bind fun d => .ok (.nx d)) fun (row_6 : D) => N.seq ((((((.ok row_6 : N D).bind dLen : N D).bind fun x => ((.ok a_law_rooms : N D).bind fun x => (.ok s4.1 : N D).bind fun y => dIx x y : N D).bind fun y => dLt x y : N D).bind N.tst : N Bool).bind fun x => if x = true then .ok true else ((((.ok row_6 : N D).bind fun x => (.ok (.int 0) : N D).bind fun y => dIx x y : N D).bind fun x => ((.ok [] : N (List D)).bind fun xs => (N.le1 xs).bind fun _ => .ok (.tup xs) : N D).bind fun y => dEqD x y : N D).bind N.tst) : N Bool).bind fun x => if x = true then (N.seq (((.ok (.int 0) : N D).bind fun x => (.ok (.int 1) : N D).bind fun y => dSub x y : N D).bind fun d => .ok (.nx d)) fun (here_8 : D) => .ok (.bk ((here_8, s4.2)))) else (.ok (.nx (())))) fun (j7 : Unit) => N.seq ((((.ok row_6 : N D).bind fun x => (.ok (.int 0) : N D).bind fun y => dIx x y : N D).bind fun x => (.ok (.int 0) : N D).bind fun y => dIx x y : N D).bind fun d => .ok (.nx d)) fun (here_9 : D) => N.seq ((((.ok here_9 : N D).bind fun d => dInD d (.lst s4.2) : N D).bind N.tst : N Bool).bind fun x => if x = true then (.ok (.bk ((here_9, s4.2)))) else (.ok (.nx (())))) fun (j10 : Unit) => N.seq ((.ok here_9 : N D).bind fun d => (N.asrt ((s4.2 : List D).length < sizeLine)).bind fun _ => .ok (.nx d)) fun (a11 : D) => .ok (.nx ((here_9, (s4.2 ++ [a11]))))) po_cx rfl (src_rng1 T.b_range (de_len rfl T.b_len (de_var (i := 0) (d := a_law_rooms)))) (pat_name 3) (pg_name (i := 3) sc_law_knot.nd rfl (by first | exact Or.inl rfl | exact Or.inr rfl)) (by repeat (first | exact Wk.nil | exact Wk.same (Wk.refl _) | apply Wk.same | apply Wk.un)) (fun y5 s4 => (ds_cons (ds_set (i := 6) sc_law_knot.nd (de_ixD rfl (de_var (i := 1) (d := a_law_standing_here)) (de_var (i := 5) (d := s4.1)))) (fun (row_6 : D) => (ds_cons (ds_if (sl := fun (j7 : Unit) => [.dat (a_law_rooms), .dat (a_law_standing_here), .dat (y2), .dat (y5), .own (.lst (s4.2)), .dat (s4.1), .dat (row_6)]) (PW.pt (dw_or (dt_cmp op_lt (r2_I0 fun _ _ _ => .bl _) (iOp_tot _) (de_len rfl T.b_len (de_var (i := 6) (d := row_6))) (de_ixD rfl (de_var (i := 0) (d := a_law_rooms)) (de_var (i := 5) (d := s4.1))) (nomark _)) (dw_or1 (dt_cmp (op_eqD hr.units) r2_EqD dEqD_tot (de_ixD rfl (de_var (i := 6) (d := row_6)) de_int) (de_tup da_nil) (nomark _))))) (ds_cons (ds_set (i := 5) sc_law_knot.nd (de_sub de_int de_int)) (fun (here_8 : D) => (ds_one (ds_brkW ((here_8, s4.2)) (by repeat (first | exact Wk.nil | exact Wk.same (Wk.refl _) | apply Wk.same | apply Wk.un)))))) (ds_nil (()))) (fun (j7 : Unit) => (ds_cons (ds_set (i := 5) sc_law_knot.nd (de_ixD rfl (de_ixD rfl (de_var (i := 6) (d := row_6)) de_int) de_int)) (fun (here_9 : D) => (ds_cons (ds_if (sl := fun (j10 : Unit) => [.dat (a_law_rooms), .dat (a_law_standing_here), .dat (y2), .dat (y5), .own (.lst (s4.2)), .dat (here_9), .dat (row_6)]) (dt_inO (i := 4) (ds := s4.2) hr rfl rfl rfl (de_var (i := 5) (d := here_9))) (ds_one (ds_brkW ((here_9, s4.2)) (by repeat (first | exact Wk.nil | exact Wk.same (Wk.refl _) | apply Wk.same | apply Wk.un)))) (ds_nil (()))) (fun (j10 : Unit) => (ds_cons (ds_appX (i := 4) (ds := s4.2) rfl rfl (de_var (i := 5) (d := here_9))) (fun (a11 : D) => (ds_nilW ((here_9, (s4.2 ++ [a11]))) (by repeat (first | exact Wk.nil | exact Wk.same (Wk.refl _) | apply Wk.same | apply Wk.un))))))))))))))) (fun (s4 : D × (List D)) => (ds_cons (ds_if (sl := fun (j12 : Unit) => [.dat (a_law_rooms), .dat (a_law_standing_here), .dat (y2), .un, .own (.lst (s4.2)), .dat (s4.1), .un]) (dt_cmp (op_eqD hr.units) r2_EqD dEqD_tot (de_var (i := 5) (d := s4.1)) (de_var (i := 2) (d := y2)) (nomark _)) (ds_freeze (i := 4) (ds := s4.2) rfl (ds_one (ds_ret (de_tuple rfl T.b_tuple (de_var (i := 4) (d := (.lst s4.2))))))) (ds_nil (()))) (fun (j12 : Unit) => (ds_nilW (()) (by repeat (first | exact Wk.nil | exact Wk.same (Wk.refl _) | apply Wk.same | apply Wk.un))))))))))) (fun (s1 : Unit) => (ds_one (ds_ret de_non)))))

abbrev s_law_error : Stmt := topS 43
abbrev N_law_error : List Str := ["_law_work", "error"]
theorem sc_law_error : FnScope N_law_error ["_law_work"] (defScope s_law_error) := ⟨rfl, rfl, rfl, by decide +kernel, rfl, by decide +kernel, by decide +kernel⟩
def m_law_error (nl : N D) : N D := (N.seq ((N.seq ((nl : N D).bind fun _ => .ok (.nx ())) fun (_ : Unit) => .ok (.nx ()) : N (Fl Unit Unit)).tryC fun c x => handle exT 5 c x [⟨3, some 1, fun x1 => (((.ok (.str "InvalidIndex") : N D).bind fun x => ((.ok x1 : N D).bind fun x => (.ok [] : N (List D)).bind fun xs => .ok (x :: xs) : N (List D)).bind fun xs => .ok (x :: xs) : N (List D)).bind fun xs => (N.le1 xs).bind fun _ => .ok (.tup xs) : N D).bind fun d => .ok (.rt d)⟩, ⟨2, some 1, fun x2 => (((.ok (.str "InvalidLanes") : N D).bind fun x => ((.ok x2 : N D).bind fun x => (.ok [] : N (List D)).bind fun xs => .ok (x :: xs) : N (List D)).bind fun xs => .ok (x :: xs) : N (List D)).bind fun xs => (N.le1 xs).bind fun _ => .ok (.tup xs) : N D).bind fun d => .ok (.rt d)⟩, ⟨1, some 1, fun x3 => (((.ok (.str "InvalidStanding") : N D).bind fun x => ((.ok x3 : N D).bind fun x => (.ok [] : N (List D)).bind fun xs => .ok (x :: xs) : N (List D)).bind fun xs => .ok (x :: xs) : N (List D)).bind fun xs => (N.le1 xs).bind fun _ => .ok (.tup xs) : N D).bind fun d => .ok (.rt d)⟩, ⟨0, some 1, fun x4 => (((.ok (.str "InvalidTies") : N D).bind fun x => ((.ok x4 : N D).bind fun x => (.ok [] : N (List D)).bind fun xs => .ok (x :: xs) : N (List D)).bind fun xs => .ok (x :: xs) : N (List D)).bind fun xs => (N.le1 xs).bind fun _ => .ok (.tup xs) : N D).bind fun d => .ok (.rt d)⟩, ⟨4, some 1, fun x5 => (((.ok (.str "Refused") : N D).bind fun x => ((.ok x5 : N D).bind fun x => (.ok [] : N (List D)).bind fun xs => .ok (x :: xs) : N (List D)).bind fun xs => .ok (x :: xs) : N (List D)).bind fun xs => (N.le1 xs).bind fun _ => .ok (.tup xs) : N D).bind fun d => .ok (.rt d)⟩]) fun (_ : Unit) => (.ok .non : N D).bind fun d => .ok (.rt d) : N (Fl Unit Unit)).fin
theorem ok_law_error {g : Addr} {fd : FuncData} (F : FunD Z.K "_law_error" "_law_error" (defArgs s_law_error) (defBody s_law_error) (defScope s_law_error) [] [] g fd) (T : Txt Z mg cK fI) (hm : mg "_law_error" = some (.ref g)) : Giv P w Z mg base "_law_error" "_law_work" m_law_error := by
  refine giv_of (Ng := N_law_error) F sc_law_error hm (fun kV doc pm an cdv ct us h => by match us, h with | [u], _ => rfl) rfl (.inl rfl) (fun X q f c' s H cdg tl F0 nl hXK hXm act hl => ?_)
  cases X
  dsimp only at hXK hXm act ⊢
  subst hXK hXm
  refine ⟨Unit, Unit, fun _ => [.lam f c' q, .un], fun _ => [.lam f c' q, .un], _, ?_, fun _ _ h => h⟩
  exact ((ds_cons (ds_try (sl := fun _ : Unit => [.lam f c' q, .un]) (sb := fun _ : Unit => [.lam f c' q, .un]) (Sh := [.un, .un]) rfl rfl sc_law_error.nd takes_no rfl (Wk.un' rfl) (.cons ⟨rfl, by decide, .inl T.e_InvalidIndex.gC⟩ ⟨rfl, rfl⟩ (fun i hi => by cases hi; exact Nat.le_of_ble_eq_true rfl) (fun c hc => T.ex c _ hc (Nat.le_of_ble_eq_true rfl)) (fun a oe c d pn x1 hc he hz hf => (ds_one (ds_ret (de_tup (da_cons de_str (da_cons (de_exc (i := 1) rfl (fun C hC => by cases hC; exact T.eT_InvalidIndex c he) ⟨_, rfl⟩ hz hf rfl (T.hx_InvalidIndex_at c he)) da_nil)))))) (fun i t hi => by cases hi; rfl) (fun i t hi => by cases hi; rfl) (.cons ⟨rfl, by decide, .inl T.e_InvalidLanes.gC⟩ ⟨rfl, rfl⟩ (fun i hi => by cases hi; exact Nat.le_of_ble_eq_true rfl) (fun c hc => T.ex c _ hc (Nat.le_of_ble_eq_true rfl)) (fun a oe c d pn x2 hc he hz hf => (ds_one (ds_ret (de_tup (da_cons de_str (da_cons (de_exc (i := 1) rfl (fun C hC => by cases hC; exact T.eT_InvalidLanes c he) ⟨_, rfl⟩ hz hf rfl (T.hx_InvalidLanes_at c he)) da_nil)))))) (fun i t hi => by cases hi; rfl) (fun i t hi => by cases hi; rfl) (.cons ⟨rfl, by decide, .inl T.e_InvalidStanding.gC⟩ ⟨rfl, rfl⟩ (fun i hi => by cases hi; exact Nat.le_of_ble_eq_true rfl) (fun c hc => T.ex c _ hc (Nat.le_of_ble_eq_true rfl)) (fun a oe c d pn x3 hc he hz hf => (ds_one (ds_ret (de_tup (da_cons de_str (da_cons (de_exc (i := 1) rfl (fun C hC => by cases hC; exact T.eT_InvalidStanding c he) ⟨_, rfl⟩ hz hf rfl (T.hx_InvalidStanding_at c he)) da_nil)))))) (fun i t hi => by cases hi; rfl) (fun i t hi => by cases hi; rfl) (.cons ⟨rfl, by decide, .inl T.e_InvalidTies.gC⟩ ⟨rfl, rfl⟩ (fun i hi => by cases hi; exact Nat.le_of_ble_eq_true rfl) (fun c hc => T.ex c _ hc (Nat.le_of_ble_eq_true rfl)) (fun a oe c d pn x4 hc he hz hf => (ds_one (ds_ret (de_tup (da_cons de_str (da_cons (de_exc (i := 1) rfl (fun C hC => by cases hC; exact T.eT_InvalidTies c he) ⟨_, rfl⟩ hz hf rfl (T.hx_InvalidTies_at c he)) da_nil)))))) (fun i t hi => by cases hi; rfl) (fun i t hi => by cases hi; rfl) (.cons ⟨rfl, by decide, .inl T.e_Refused.gC⟩ ⟨rfl, rfl⟩ (fun i hi => by cases hi; exact Nat.le_of_ble_eq_true rfl) (fun c hc => T.ex c _ hc (Nat.le_of_ble_eq_true rfl)) (fun a oe c d pn x5 hc he hz hf => (ds_one (ds_ret (de_tup (da_cons de_str (da_cons (de_exc (i := 1) rfl (fun C hC => by cases hC; exact T.eT_Refused c he) ⟨_, rfl⟩ hz hf rfl (T.hx_Refused_at c he)) da_nil)))))) (fun i t hi => by cases hi; rfl) (fun i t hi => by cases hi; rfl) .nil))))) (fun F0 W pn xe tk po => (ds_cons (ds_expr (de_act act hl tk)) (fun (_ : Unit) => (ds_nil ()))))) (fun (_ : Unit) => (ds_one (ds_ret de_non)))))

abbrev s_law_left : Stmt := topS 44
abbrev N_law_left : List Str := ["_law_standing_here", "_law_found", "_law_row", "_law_way_here"]
theorem sc_law_left : FnScope N_law_left ["_law_standing_here"] (defScope s_law_left) := ⟨rfl, rfl, rfl, by decide +kernel, rfl, by decide +kernel, by decide +kernel⟩
def m_law_left (a_law_standing_here : D) : N D := (N.seq ((.ok (.int 0) : N D).bind fun d => .ok (.nx d)) fun (found_1 : D) => N.seq (((.ok a_law_standing_here : N D).bind seqOf : N (List D)).bind fun ds => (N.decs (fun d => some d) ds).bind fun ps => N.loop (fun (y3 : D) (s2 : D) => N.seq ((((.ok s2 : N D).bind fun x => ((.ok y3 : N D).bind dLen : N D).bind fun y => dAdd x y : N D).bind fun x => ((N.lcG ((.ok y3 : N D).bind seqOf) (fun d => some d) (fun c5 : D => (.ok true : N Bool)) (fun c5 : D => ((.ok c5 : N D).bind dLen : N D)) : N D).bind dSum : N D).bind fun y => dAdd x y : N D).bind fun d => .ok (.nx d)) fun (found_4 : D) => .ok (.nx (found_4))) ps (found_1)) fun (s2 : D) => (.ok s2 : N D).bind fun d => .ok (.rt d) : N (Fl Unit Unit)).fin
theorem ok_law_left {f : Addr} {fd : FuncData} (F : FunD Z.K "_law_left" "_law_left" (defArgs s_law_left) (defBody s_law_left) (defScope s_law_left) [] [] f fd) (T : Txt Z mg cK fI) : FnOk P w Z.K mg base (L2.CX P w) 2 f fd ["_law_standing_here"] (spN Z 1 (app1 m_law_left)) := by
  refine fn_okD (ps := ["_law_standing_here"]) F sc_law_left (ar1 _) (fun cdv A outer s H E F0 ds hr tk hl => ?_)
  match ds, hl with
  | [a_law_standing_here], _ =>
    refine ⟨Unit, Unit, fun _ => [.dat (a_law_standing_here), .un, .un, .un], fun _ => [.dat (a_law_standing_here), .un, .un, .un], _, ?_, fun _ _ h => h⟩
    exact ((ds_cons (ds_set (i := 1) sc_law_left.nd de_int) (fun (found_1 : D) => (ds_cons (ds_forG (sl := fun (s2 : D) => [.dat (a_law_standing_here), .dat (s2), .un, .un]) (found_1) (fun (y3 : D) (s2 : D) => N.seq ((((.ok s2 : N D).bind fun x => ((.ok y3 : N D).bind dLen : N D).bind fun y => dAdd x y : N D).bind fun x => ((N.lcG ((.ok y3 : N D).bind seqOf) (fun d => some d) (fun c5 : D => (.ok true : N Bool)) (fun c5 : D => ((.ok c5 : N D).bind dLen : N D)) : N D).bind dSum : N D).bind fun y => dAdd x y : N D).bind fun d => .ok (.nx d)) fun (found_4 : D) => .ok (.nx (found_4))) po_cx rfl (src_seq rfl (de_var (i := 0) (d := a_law_standing_here))) (pat_name 2) (pg_name (i := 2) sc_law_left.nd rfl (by first | exact Or.inl rfl | exact Or.inr rfl)) (by repeat (first | exact Wk.nil | exact Wk.same (Wk.refl _) | apply Wk.same | apply Wk.un)) (fun y3 s2 => (ds_cons (ds_set (i := 1) sc_law_left.nd (de_add (de_add (de_var (i := 1) (d := s2)) (de_len rfl T.b_len (de_var (i := 2) (d := y3)))) (de_sum rfl rfl T.b_sum (de_lcG (own := [("_law_way_here", 3)]) (m := 4) rfl sc_law_left.nd (src_seq rfl (de_var (i := 2) (d := y3))) (pat_name 3) (blkOk_by (own := [("_law_way_here", 3)]) (N := N_law_left) (sc := defScope s_law_left) (by decide +kernel)) (fun _ _ _ _ _ => pg_name (i := 3) sc_law_left.nd rfl (Or.inl rfl)) (fun _ _ _ _ _ c5 => (dts_nil (y := ()))) (fun _ _ _ _ _ c5 => (de_len rfl T.b_len (de_var (i := 3) (d := c5)))))))) (fun (found_4 : D) => (ds_nilW (found_4) (by repeat (first | exact Wk.nil | exact Wk.same (Wk.refl _) | apply Wk.same | apply Wk.un))))))) (fun (s2 : D) => (ds_one (ds_ret (de_var (i := 1) (d := s2)))))))))

abbrev s_law_refusals_right : Stmt := topS 45
abbrev N_law_refusals_right : List Str := ["_law_source_here", "_law_lanes", "_law_rooms", "_law_goings_here", "_law_standing_here", "_law_many", "_law_lane", "_law_wrong", "_law_bad", "_law_at", "_law_worse", "_law_odd", "_law_other"]
theorem sc_law_refusals_right : FnScope N_law_refusals_right ["_law_source_here", "_law_lanes", "_law_rooms", "_law_goings_here", "_law_standing_here"] (defScope s_law_refusals_right) := ⟨rfl, rfl, rfl, by decide +kernel, rfl, by decide +kernel, by decide +kernel⟩
def m_law_refusals_right (a_law_source_here : D) (a_law_lanes : D) (a_law_rooms : D) (a_law_goings_here : D) (a_law_standing_here : D) : N D := (N.seq (((.ok a_law_rooms : N D).bind dLen : N D).bind fun d => .ok (.nx d)) fun (many_1 : D) => N.seq (((((N.ne (m_law_error ((.ok a_law_lanes : N D).bind fun x => (.ok a_law_standing_here : N D).bind fun y => ((.ok a_law_source_here : N D).bind fun x => (((.ok many_1 : N D).bind fun x => (((.ok (.int 1) : N D).bind dNeg : N D).bind fun x => ((.ok .non : N D).bind fun x => ((.ok (.bl true) : N D).bind fun x => ((.ok (.str "0") : N D).bind fun x => (.ok [] : N (List D)).bind fun xs => .ok (x :: xs) : N (List D)).bind fun xs => .ok (x :: xs) : N (List D)).bind fun xs => .ok (x :: xs) : N (List D)).bind fun xs => .ok (x :: xs) : N (List D)).bind fun xs => .ok (x :: xs) : N (List D)).bind fun xs => (N.le1 xs).bind fun _ => .ok (.lst xs) : N D).bind fun y => m_law_of x y : N D).bind fun z => m_gone_standing x y z : N D)) : N D) : N D).bind fun x => (((.ok (.str "InvalidIndex") : N D).bind fun x => (((.ok (.int 1) : N D).bind dNeg : N D).bind fun x => (.ok [] : N (List D)).bind fun xs => .ok (x :: xs) : N (List D)).bind fun xs => .ok (x :: xs) : N (List D)).bind fun xs => (N.le1 xs).bind fun _ => .ok (.tup xs) : N D).bind fun y => dNeD x y : N D).bind N.tst : N Bool).bind fun x => if x = true then ((.ok (.bl false) : N D).bind fun d => .ok (.rt d)) else (.ok (.nx (())))) fun (j2 : Unit) => N.seq (((.ok a_law_source_here : N D).bind fun x => (.ok many_1 : N D).bind fun y => m_law_any x y : N D).bind fun d => .ok (.nx d)) fun (lane_3 : D) => N.seq (((((((((.ok [] : N (List D)).bind fun xs => (N.le1 xs).bind fun _ => .ok (.tup xs) : N D).bind fun x => (.ok [] : N (List D)).bind fun xs => .ok (x :: xs) : N (List D)).bind fun xs => (N.le1 xs).bind fun _ => .ok (.tup xs) : N D).bind fun x => (((.ok a_law_rooms : N D).bind fun x => (.ok lane_3 : N D).bind fun y => dIx x y : N D).bind fun x => (.ok (.int 1) : N D).bind fun y => dAdd x y : N D).bind fun y => dRepT x y : N D).bind fun x => ((.ok .non : N D).bind fun x => ((((((.ok lane_3 : N D).bind fun x => (.ok [] : N (List D)).bind fun xs => .ok (x :: xs) : N (List D)).bind fun xs => (N.le1 xs).bind fun _ => .ok (.tup xs) : N D).bind fun x => (.ok [] : N (List D)).bind fun xs => .ok (x :: xs) : N (List D)).bind fun xs => (N.le1 xs).bind fun _ => .ok (.lst xs) : N D).bind fun x => ((((((.ok (.str "0") : N D).bind fun x => (.ok [] : N (List D)).bind fun xs => .ok (x :: xs) : N (List D)).bind fun xs => (N.le1 xs).bind fun _ => .ok (.tup xs) : N D).bind fun x => (.ok [] : N (List D)).bind fun xs => .ok (x :: xs) : N (List D)).bind fun xs => (N.le1 xs).bind fun _ => .ok (.lst xs) : N D).bind fun x => ((((.ok .non : N D).bind fun x => (.ok [] : N (List D)).bind fun xs => .ok (x :: xs) : N (List D)).bind fun xs => (N.le1 xs).bind fun _ => .ok (.lst xs) : N D).bind fun x => ((((((.ok many_1 : N D).bind fun x => (.ok [] : N (List D)).bind fun xs => .ok (x :: xs) : N (List D)).bind fun xs => (N.le1 xs).bind fun _ => .ok (.tup xs) : N D).bind fun x => (.ok [] : N (List D)).bind fun xs => .ok (x :: xs) : N (List D)).bind fun xs => (N.le1 xs).bind fun _ => .ok (.lst xs) : N D).bind fun x => (.ok [] : N (List D)).bind fun xs => .ok (x :: xs) : N (List D)).bind fun xs => .ok (x :: xs) : N (List D)).bind fun xs => .ok (x :: xs) : N (List D)).bind fun xs => .ok (x :: xs) : N (List D)).bind fun xs => .ok (x :: xs) : N (List D)).bind fun xs => .ok (x :: xs) : N (List D)).bind fun xs => (N.le1 xs).bind fun _ => .ok (.lst xs) : N D).bind fun x => (N.lcG ((.ok many_1 : N D).bind N.rng1) (fun d => some d) (fun c5 : D => (((((.ok lane_3 : N D).bind fun x => ((.ok c5 : N D).bind fun x => (.ok [] : N (List D)).bind fun xs => .ok (x :: xs) : N (List D)).bind fun xs => .ok (x :: xs) : N (List D)).bind fun xs => (N.le1 xs).bind fun _ => .ok (.tup xs) : N D).bind fun x => (.ok a_law_goings_here : N D).bind fun y => dNotInD x y : N D).bind N.tst : N Bool)) (fun c5 : D => (((((.ok c5 : N D).bind fun x => (.ok [] : N (List D)).bind fun xs => .ok (x :: xs) : N (List D)).bind fun xs => (N.le1 xs).bind fun _ => .ok (.tup xs) : N D).bind fun x => (.ok [] : N (List D)).bind fun xs => .ok (x :: xs) : N (List D)).bind fun xs => (N.le1 xs).bind fun _ => .ok (.tup xs) : N D)) : N D).bind fun y => dCatL x y : N D).bind fun d => .ok (.nx d)) fun (wrong_4 : D) => N.seq (((((.ok a_law_standing_here : N D).bind fun d => (.ok none : N (Option Int)).bind fun l => ((.ok lane_3 : N D).bind fun d => (toI d).bind fun i => .ok (some i) : N (Option Int)).bind fun h => dSlT d l h : N D).bind fun x => ((((.ok a_law_source_here : N D).bind fun x => (.ok wrong_4 : N D).bind fun y => m_law_of x y : N D).bind fun x => (.ok [] : N (List D)).bind fun xs => .ok (x :: xs) : N (List D)).bind fun xs => (N.le1 xs).bind fun _ => .ok (.tup xs) : N D).bind fun y => dCat x y : N D).bind fun x => ((.ok a_law_standing_here : N D).bind fun d => (((.ok lane_3 : N D).bind fun x => (.ok (.int 1) : N D).bind fun y => dAdd x y : N D).bind fun d => (toI d).bind fun i => .ok (some i) : N (Option Int)).bind fun l => (.ok none : N (Option Int)).bind fun h => dSlT d l h : N D).bind fun y => dCat x y : N D).bind fun d => .ok (.nx d)) fun (bad_6 : D) => N.seq (((((N.ne (m_law_error ((.ok a_law_lanes : N D).bind fun x => (.ok bad_6 : N D).bind fun y => m_possible_goings x y : N D)) : N D) : N D).bind fun x => (((.ok (.str "InvalidStanding") : N D).bind fun x => ((.ok lane_3 : N D).bind fun x => (.ok [] : N (List D)).bind fun xs => .ok (x :: xs) : N (List D)).bind fun xs => .ok (x :: xs) : N (List D)).bind fun xs => (N.le1 xs).bind fun _ => .ok (.tup xs) : N D).bind fun y => dNeD x y : N D).bind N.tst : N Bool).bind fun x => if x = true then ((.ok (.bl false) : N D).bind fun d => .ok (.rt d)) else (.ok (.nx (())))) fun (j7 : Unit) => N.seq (((((N.ne (m_law_error ((.ok a_law_lanes : N D).bind fun x => ((.ok bad_6 : N D).bind fun d => ((.ok (.int 1) : N D).bind fun d => (toI d).bind fun i => .ok (some i) : N (Option Int)).bind fun l => (.ok none : N (Option Int)).bind fun h => dSlT d l h : N D).bind fun y => m_goings_left x y : N D)) : N D) : N D).bind fun x => (((.ok (.str "InvalidStanding") : N D).bind fun x => (((.ok (.int 1) : N D).bind dNeg : N D).bind fun x => (.ok [] : N (List D)).bind fun xs => .ok (x :: xs) : N (List D)).bind fun xs => .ok (x :: xs) : N (List D)).bind fun xs => (N.le1 xs).bind fun _ => .ok (.tup xs) : N D).bind fun y => dNeD x y : N D).bind N.tst : N Bool).bind fun x => if x = true then ((.ok (.bl false) : N D).bind fun d => .ok (.rt d)) else (.ok (.nx (())))) fun (j8 : Unit) => N.seq (((((N.ne (m_law_error (((.ok a_law_source_here : N D).bind fun x => (((.ok .non : N D).bind fun x => ((.ok a_law_rooms : N D).bind fun x => ((.ok (.int 3) : N D).bind fun x => (.ok [] : N (List D)).bind fun xs => .ok (x :: xs) : N (List D)).bind fun xs => .ok (x :: xs) : N (List D)).bind fun xs => .ok (x :: xs) : N (List D)).bind fun xs => (N.le1 xs).bind fun _ => .ok (.lst xs) : N D).bind fun y => m_law_of x y : N D).bind fun x => (.ok bad_6 : N D).bind fun y => m_need_standing x y : N D)) : N D) : N D).bind fun x => (((.ok (.str "InvalidLanes") : N D).bind fun x => (((.ok (.int 1) : N D).bind dNeg : N D).bind fun x => (.ok [] : N (List D)).bind fun xs => .ok (x :: xs) : N (List D)).bind fun xs => .ok (x :: xs) : N (List D)).bind fun xs => (N.le1 xs).bind fun _ => .ok (.tup xs) : N D).bind fun y => dNeD x y : N D).bind N.tst : N Bool).bind fun x => if x = true then ((.ok (.bl false) : N D).bind fun d => .ok (.rt d)) else (.ok (.nx (())))) fun (j9 : Unit) => N.seq (((.ok a_law_source_here : N D).bind fun x => (((.ok a_law_goings_here : N D).bind dLen : N D).bind fun x => (.ok (.int 1) : N D).bind fun y => dAdd x y : N D).bind fun y => m_law_any x y : N D).bind fun d => .ok (.nx d)) fun (at_10 : D) => N.seq (((((.ok a_law_goings_here : N D).bind fun d => (.ok none : N (Option Int)).bind fun l => ((.ok at_10 : N D).bind fun d => (toI d).bind fun i => .ok (some i) : N (Option Int)).bind fun h => dSlL d l h : N D).bind fun x => ((((.ok a_law_source_here : N D).bind fun x => (((((.ok (.int 0) : N D).bind fun x => ((.ok (.int 0) : N D).bind fun x => (.ok [] : N (List D)).bind fun xs => .ok (x :: xs) : N (List D)).bind fun xs => .ok (x :: xs) : N (List D)).bind fun xs => (N.le1 xs).bind fun _ => .ok (.tup xs) : N D).bind fun x => ((((.ok (.int 0) : N D).bind fun x => ((.ok many_1 : N D).bind fun x => (.ok [] : N (List D)).bind fun xs => .ok (x :: xs) : N (List D)).bind fun xs => .ok (x :: xs) : N (List D)).bind fun xs => (N.le1 xs).bind fun _ => .ok (.tup xs) : N D).bind fun x => ((((.ok (.int 1) : N D).bind fun x => (.ok [] : N (List D)).bind fun xs => .ok (x :: xs) : N (List D)).bind fun xs => (N.le1 xs).bind fun _ => .ok (.tup xs) : N D).bind fun x => ((.ok .non : N D).bind fun x => ((((.ok (.int 0) : N D).bind fun x => ((.ok (.bl true) : N D).bind fun x => (.ok [] : N (List D)).bind fun xs => .ok (x :: xs) : N (List D)).bind fun xs => .ok (x :: xs) : N (List D)).bind fun xs => (N.le1 xs).bind fun _ => .ok (.tup xs) : N D).bind fun x => ((.ok (.str "01") : N D).bind fun x => (.ok [] : N (List D)).bind fun xs => .ok (x :: xs) : N (List D)).bind fun xs => .ok (x :: xs) : N (List D)).bind fun xs => .ok (x :: xs) : N (List D)).bind fun xs => .ok (x :: xs) : N (List D)).bind fun xs => .ok (x :: xs) : N (List D)).bind fun xs => .ok (x :: xs) : N (List D)).bind fun xs => (N.le1 xs).bind fun _ => .ok (.lst xs) : N D).bind fun y => m_law_of x y : N D).bind fun x => (.ok [] : N (List D)).bind fun xs => .ok (x :: xs) : N (List D)).bind fun xs => (N.le1 xs).bind fun _ => .ok (.lst xs) : N D).bind fun y => dCatL x y : N D).bind fun x => ((.ok a_law_goings_here : N D).bind fun d => ((.ok at_10 : N D).bind fun d => (toI d).bind fun i => .ok (some i) : N (Option Int)).bind fun l => (.ok none : N (Option Int)).bind fun h => dSlL d l h : N D).bind fun y => dCatL x y : N D).bind fun d => .ok (.nx d)) fun (worse_11 : D) => N.seq (((((N.ne (m_law_error (((.ok a_law_rooms : N D).bind fun x => ((.ok worse_11 : N D).bind fun x => (.ok [] : N (List D)).bind fun xs => .ok (x :: xs) : N (List D)).bind fun xs => .ok (x :: xs) : N (List D)).bind fun ds => (N.asrt (ds.length = 2)).bind fun _ => app2 m_LaneMap_init (gD_LaneMap_2 ds []) : N D)) : N D) : N D).bind fun x => (((.ok (.str "InvalidTies") : N D).bind fun x => ((.ok at_10 : N D).bind fun x => (.ok [] : N (List D)).bind fun xs => .ok (x :: xs) : N (List D)).bind fun xs => .ok (x :: xs) : N (List D)).bind fun xs => (N.le1 xs).bind fun _ => .ok (.tup xs) : N D).bind fun y => dNeD x y : N D).bind N.tst : N Bool).bind fun x => if x = true then ((.ok (.bl false) : N D).bind fun d => .ok (.rt d)) else (.ok (.nx (())))) fun (j12 : Unit) => N.seq (((((N.ne (m_law_error (((.ok a_law_rooms : N D).bind fun x => ((.ok .non : N D).bind fun x => (.ok [] : N (List D)).bind fun xs => .ok (x :: xs) : N (List D)).bind fun xs => .ok (x :: xs) : N (List D)).bind fun ds => (N.asrt (ds.length = 2)).bind fun _ => app2 m_LaneMap_init (gD_LaneMap_2 ds []) : N D)) : N D) : N D).bind fun x => (((.ok (.str "InvalidTies") : N D).bind fun x => (((.ok (.int 1) : N D).bind dNeg : N D).bind fun x => (.ok [] : N (List D)).bind fun xs => .ok (x :: xs) : N (List D)).bind fun xs => .ok (x :: xs) : N (List D)).bind fun xs => (N.le1 xs).bind fun _ => .ok (.tup xs) : N D).bind fun y => dNeD x y : N D).bind N.tst : N Bool).bind fun x => if x = true then ((.ok (.bl false) : N D).bind fun d => .ok (.rt d)) else (.ok (.nx (())))) fun (j13 : Unit) => N.seq (((((.ok a_law_rooms : N D).bind fun d => (.ok none : N (Option Int)).bind fun l => ((.ok lane_3 : N D).bind fun d => (toI d).bind fun i => .ok (some i) : N (Option Int)).bind fun h => dSlL d l h : N D).bind fun x => ((((.ok a_law_source_here : N D).bind fun x => (((.ok (.int 0) : N D).bind fun x => ((.ok (.int 10) : N D).bind fun x => (((.ok (.int 1) : N D).bind dNeg : N D).bind fun x => ((.ok .non : N D).bind fun x => ((.ok (.bl true) : N D).bind fun x => ((.ok (.str "1") : N D).bind fun x => (.ok [] : N (List D)).bind fun xs => .ok (x :: xs) : N (List D)).bind fun xs => .ok (x :: xs) : N (List D)).bind fun xs => .ok (x :: xs) : N (List D)).bind fun xs => .ok (x :: xs) : N (List D)).bind fun xs => .ok (x :: xs) : N (List D)).bind fun xs => .ok (x :: xs) : N (List D)).bind fun xs => (N.le1 xs).bind fun _ => .ok (.lst xs) : N D).bind fun y => m_law_of x y : N D).bind fun x => (.ok [] : N (List D)).bind fun xs => .ok (x :: xs) : N (List D)).bind fun xs => (N.le1 xs).bind fun _ => .ok (.lst xs) : N D).bind fun y => dCatL x y : N D).bind fun x => ((.ok a_law_rooms : N D).bind fun d => (((.ok lane_3 : N D).bind fun x => (.ok (.int 1) : N D).bind fun y => dAdd x y : N D).bind fun d => (toI d).bind fun i => .ok (some i) : N (Option Int)).bind fun l => (.ok none : N (Option Int)).bind fun h => dSlL d l h : N D).bind fun y => dCatL x y : N D).bind fun d => .ok (.nx d)) fun (odd_14 : D) => N.seq (((((N.ne (m_law_error (((.ok odd_14 : N D).bind fun x => ((.ok worse_11 : N D).bind fun x => (.ok [] : N (List D)).bind fun xs => .ok (x :: xs) : N (List D)).bind fun xs => .ok (x :: xs) : N (List D)).bind fun ds => (N.asrt (ds.length = 2)).bind fun _ => app2 m_LaneMap_init (gD_LaneMap_2 ds []) : N D)) : N D) : N D).bind fun x => (((.ok (.str "InvalidLanes") : N D).bind fun x => ((.ok lane_3 : N D).bind fun x => (.ok [] : N (List D)).bind fun xs => .ok (x :: xs) : N (List D)).bind fun xs => .ok (x :: xs) : N (List D)).bind fun xs => (N.le1 xs).bind fun _ => .ok (.tup xs) : N D).bind fun y => dNeD x y : N D).bind N.tst : N Bool).bind fun x => if x = true then ((.ok (.bl false) : N D).bind fun d => .ok (.rt d)) else (.ok (.nx (())))) fun (j15 : Unit) => (((N.ne (m_law_error (((((.ok (.int 1) : N D).bind fun x => (.ok [] : N (List D)).bind fun xs => .ok (x :: xs) : N (List D)).bind fun xs => (N.le1 xs).bind fun _ => (.ok (.int 13) : N D).bind fun k => dRepL (.lst xs) k : N D).bind fun x => ((.ok worse_11 : N D).bind fun x => (.ok [] : N (List D)).bind fun xs => .ok (x :: xs) : N (List D)).bind fun xs => .ok (x :: xs) : N (List D)).bind fun ds => (N.asrt (ds.length = 2)).bind fun _ => app2 m_LaneMap_init (gD_LaneMap_2 ds []) : N D)) : N D) : N D).bind fun x => (((.ok (.str "InvalidLanes") : N D).bind fun x => (((.ok (.int 1) : N D).bind dNeg : N D).bind fun x => (.ok [] : N (List D)).bind fun xs => .ok (x :: xs) : N (List D)).bind fun xs => .ok (x :: xs) : N (List D)).bind fun xs => (N.le1 xs).bind fun _ => .ok (.tup xs) : N D).bind fun y => dEqD x y : N D).bind fun d => .ok (.rt d) : N (Fl Unit Unit)).fin
theorem ok_law_refusals_right {f : Addr} {fd : FuncData} (F : FunD Z.K "_law_refusals_right" "_law_refusals_right" (defArgs s_law_refusals_right) (defBody s_law_refusals_right) (defScope s_law_refusals_right) [] [] f fd) {c Pt : Addr} (hc : ∀ oc od fd' osl, Z.K.lookup f = some ⟨oc, od, .func fd', osl⟩ → fd'.code = .ref c) (TB : LamX.TabB base mg c Pt) (hT : (Pt, ("_law_refusals_right.<locals>.<lambda>" : Str)) ∈ Z.tl) (T : Txt Z mg cK fI) (C_law_any : Df P w Z mg base "_law_any" 1 2 (app2 m_law_any)) (C_law_of : Df P w Z mg base "_law_of" 2 2 (app2 m_law_of)) (C_gone_standing : Df P w Z mg base "gone_standing" 6 3 (app3 m_gone_standing)) (C_possible_goings : Df P w Z mg base "possible_goings" 6 2 (app2 m_possible_goings)) (C_goings_left : Df P w Z mg base "goings_left" 6 2 (app2 m_goings_left)) (C_need_standing : Df P w Z mg base "need_standing" 5 2 (app2 m_need_standing)) (M_LaneMap_2 : MkI P w Z mg base "LaneMap" 6 6 2 [] gD_LaneMap_2 2 (app2 m_LaneMap_init)) (L_law_error : Giv P w Z mg base "_law_error" "_law_work" m_law_error) : FnOk P w Z.K mg base (L2.CX P w) 10 f fd ["_law_source_here", "_law_lanes", "_law_rooms", "_law_goings_here", "_law_standing_here"] (spN Z 5 (app5 m_law_refusals_right)) := by
  refine fn_okC (ps := ["_law_source_here", "_law_lanes", "_law_rooms", "_law_goings_here", "_law_standing_here"]) F sc_law_refusals_right (ar5 _) hc (fun A outer s H E F0 ds tl hr tk hl => ?_)
  match ds, hl with
  | [a_law_source_here, a_law_lanes, a_law_rooms, a_law_goings_here, a_law_standing_here], _ =>
    refine ⟨Unit, Unit, fun _ => [.dat (a_law_source_here), .dat (a_law_lanes), .dat (a_law_rooms), .dat (a_law_goings_here), .dat (a_law_standing_here), .un, .un, .un, .un, .un, .un, .un, .un], fun _ => [.dat (a_law_source_here), .dat (a_law_lanes), .dat (a_law_rooms), .dat (a_law_goings_here), .dat (a_law_standing_here), .un, .un, .un, .un, .un, .un, .un, .un], _, ?_, fun _ _ h => h⟩
    exact ((ds_cons (ds_set (i := 5) sc_law_refusals_right.nd (de_len rfl T.b_len (de_var (i := 2) (d := a_law_rooms)))) (fun (many_1 : D) => (ds_cons (ds_if (sl := fun (j2 : Unit) => [.dat (a_law_source_here), .dat (a_law_lanes), .dat (a_law_rooms), .dat (a_law_goings_here), .dat (a_law_standing_here), .dat (many_1), .un, .un, .un, .un, .un, .un, .un]) (dt_cmp (op_neD hr.units) r2_NeD dNeD_tot (de_lam (k := 6) L_law_error TB rfl (hr.mono (by decide)) (LamX.lamS_by (sc := defScope s_law_refusals_right) (by decide +kernel)) (tl _ hT) (fun A outer s H E f c' B hr => have tk := takes_of rfl rfl rfl rfl; (de_call3 (Df.cal C_gone_standing (hr.mono (by decide))) tk (Wk.un' rfl) (de_var (i := 1) (d := a_law_lanes)) (de_var (i := 4) (d := a_law_standing_here)) (de_call2 (Df.cal C_law_of (hr.mono (by decide))) tk (Wk.un' rfl) (de_var (i := 0) (d := a_law_source_here)) (de_lst (da_cons (de_var (i := 5) (d := many_1)) (da_cons (de_neg de_int) (da_cons de_non (da_cons de_bl (da_cons de_str da_nil)))))))))) (de_tup (da_cons de_str (da_cons (de_neg de_int) da_nil))) (nomark _)) (ds_one (ds_ret de_bl)) (ds_nil (()))) (fun (j2 : Unit) => (ds_cons (ds_set (i := 6) sc_law_refusals_right.nd (de_call2 (Df.cal C_law_any (hr.mono (by decide))) tk (Wk.un' rfl) (de_var (i := 0) (d := a_law_source_here)) (de_var (i := 5) (d := many_1)))) (fun (lane_3 : D) => (ds_cons (ds_set (i := 7) sc_law_refusals_right.nd (de_catL rfl (de_lst (da_cons (de_repT rfl (de_tup (da_cons (de_tup da_nil) da_nil)) (de_add (de_ixD rfl (de_var (i := 2) (d := a_law_rooms)) (de_var (i := 6) (d := lane_3))) de_int)) (da_cons de_non (da_cons (de_lst (da_cons (de_tup (da_cons (de_var (i := 6) (d := lane_3)) da_nil)) da_nil)) (da_cons (de_lst (da_cons (de_tup (da_cons de_str da_nil)) da_nil)) (da_cons (de_lst (da_cons de_non da_nil)) (da_cons (de_lst (da_cons (de_tup (da_cons (de_var (i := 5) (d := many_1)) da_nil)) da_nil)) da_nil))))))) (de_lcG (own := [("_law_other", 12)]) (m := 13) rfl sc_law_refusals_right.nd (src_rng1 T.b_range (de_var (i := 5) (d := many_1))) (pat_name 12) (blkOk_by (own := [("_law_other", 12)]) (N := N_law_refusals_right) (sc := defScope s_law_refusals_right) (by decide +kernel)) (fun _ _ _ _ _ => pg_name (i := 12) sc_law_refusals_right.nd rfl (Or.inl rfl)) (fun _ _ _ _ _ c5 => (dts_one (dt_cmp (op_notInDD hr (room65 hr)) r2_NotInD dNotInD_tot (de_tup (da_cons (de_var (i := 6) (d := lane_3)) (da_cons (de_var (i := 12) (d := c5)) da_nil))) (de_var (i := 3) (d := a_law_goings_here)) rfl))) (fun _ _ _ _ _ c5 => (de_tup (da_cons (de_tup (da_cons (de_var (i := 12) (d := c5)) da_nil)) da_nil)))))) (fun (wrong_4 : D) => (ds_cons (ds_set (i := 8) sc_law_refusals_right.nd (de_cat rfl (de_cat rfl (de_slT rfl (de_var (i := 4) (d := a_law_standing_here)) do_none (do_some (de_var (i := 6) (d := lane_3)))) (de_tup (da_cons (de_call2 (Df.cal C_law_of (hr.mono (by decide))) tk (Wk.un' rfl) (de_var (i := 0) (d := a_law_source_here)) (de_var (i := 7) (d := wrong_4))) da_nil))) (de_slT rfl (de_var (i := 4) (d := a_law_standing_here)) (do_some (de_add (de_var (i := 6) (d := lane_3)) de_int)) do_none))) (fun (bad_6 : D) => (ds_cons (ds_if (sl := fun (j7 : Unit) => [.dat (a_law_source_here), .dat (a_law_lanes), .dat (a_law_rooms), .dat (a_law_goings_here), .dat (a_law_standing_here), .dat (many_1), .dat (lane_3), .dat (wrong_4), .dat (bad_6), .un, .un, .un, .un]) (dt_cmp (op_neD hr.units) r2_NeD dNeD_tot (de_lam (k := 6) L_law_error TB rfl (hr.mono (by decide)) (LamX.lamS_by (sc := defScope s_law_refusals_right) (by decide +kernel)) (tl _ hT) (fun A outer s H E f c' B hr => have tk := takes_of rfl rfl rfl rfl; (de_call2 (Df.cal C_possible_goings (hr.mono (by decide))) tk (Wk.un' rfl) (de_var (i := 1) (d := a_law_lanes)) (de_var (i := 8) (d := bad_6))))) (de_tup (da_cons de_str (da_cons (de_var (i := 6) (d := lane_3)) da_nil))) (nomark _)) (ds_one (ds_ret de_bl)) (ds_nil (()))) (fun (j7 : Unit) => (ds_cons (ds_if (sl := fun (j8 : Unit) => [.dat (a_law_source_here), .dat (a_law_lanes), .dat (a_law_rooms), .dat (a_law_goings_here), .dat (a_law_standing_here), .dat (many_1), .dat (lane_3), .dat (wrong_4), .dat (bad_6), .un, .un, .un, .un]) (dt_cmp (op_neD hr.units) r2_NeD dNeD_tot (de_lam (k := 6) L_law_error TB rfl (hr.mono (by decide)) (LamX.lamS_by (sc := defScope s_law_refusals_right) (by decide +kernel)) (tl _ hT) (fun A outer s H E f c' B hr => have tk := takes_of rfl rfl rfl rfl; (de_call2 (Df.cal C_goings_left (hr.mono (by decide))) tk (Wk.un' rfl) (de_var (i := 1) (d := a_law_lanes)) (de_slT rfl (de_var (i := 8) (d := bad_6)) (do_some de_int) do_none)))) (de_tup (da_cons de_str (da_cons (de_neg de_int) da_nil))) (nomark _)) (ds_one (ds_ret de_bl)) (ds_nil (()))) (fun (j8 : Unit) => (ds_cons (ds_if (sl := fun (j9 : Unit) => [.dat (a_law_source_here), .dat (a_law_lanes), .dat (a_law_rooms), .dat (a_law_goings_here), .dat (a_law_standing_here), .dat (many_1), .dat (lane_3), .dat (wrong_4), .dat (bad_6), .un, .un, .un, .un]) (dt_cmp (op_neD hr.units) r2_NeD dNeD_tot (de_lam (k := 5) L_law_error TB rfl (hr.mono (by decide)) (LamX.lamS_by (sc := defScope s_law_refusals_right) (by decide +kernel)) (tl _ hT) (fun A outer s H E f c' B hr => have tk := takes_of rfl rfl rfl rfl; (de_call2 (Df.cal C_need_standing (hr.mono (by decide))) tk (Wk.un' rfl) (de_call2 (Df.cal C_law_of (hr.mono (by decide))) tk (Wk.un' rfl) (de_var (i := 0) (d := a_law_source_here)) (de_lst (da_cons de_non (da_cons (de_var (i := 2) (d := a_law_rooms)) (da_cons de_int da_nil))))) (de_var (i := 8) (d := bad_6))))) (de_tup (da_cons de_str (da_cons (de_neg de_int) da_nil))) (nomark _)) (ds_one (ds_ret de_bl)) (ds_nil (()))) (fun (j9 : Unit) => (ds_cons (ds_set (i := 9) sc_law_refusals_right.nd (de_call2 (Df.cal C_law_any (hr.mono (by decide))) tk (Wk.un' rfl) (de_var (i := 0) (d := a_law_source_here)) (de_add (de_len rfl T.b_len (de_var (i := 3) (d := a_law_goings_here))) de_int))) (fun (at_10 : D) => (ds_cons (ds_set (i := 10) sc_law_refusals_right.nd (de_catL rfl (de_catL rfl (de_slL rfl (de_var (i := 3) (d := a_law_goings_here)) do_none (do_some (de_var (i := 9) (d := at_10)))) (de_lst (da_cons (de_call2 (Df.cal C_law_of (hr.mono (by decide))) tk (Wk.un' rfl) (de_var (i := 0) (d := a_law_source_here)) (de_lst (da_cons (de_tup (da_cons de_int (da_cons de_int da_nil))) (da_cons (de_tup (da_cons de_int (da_cons (de_var (i := 5) (d := many_1)) da_nil))) (da_cons (de_tup (da_cons de_int da_nil)) (da_cons de_non (da_cons (de_tup (da_cons de_int (da_cons de_bl da_nil))) (da_cons de_str da_nil)))))))) da_nil))) (de_slL rfl (de_var (i := 3) (d := a_law_goings_here)) (do_some (de_var (i := 9) (d := at_10))) do_none))) (fun (worse_11 : D) => (ds_cons (ds_if (sl := fun (j12 : Unit) => [.dat (a_law_source_here), .dat (a_law_lanes), .dat (a_law_rooms), .dat (a_law_goings_here), .dat (a_law_standing_here), .dat (many_1), .dat (lane_3), .dat (wrong_4), .dat (bad_6), .dat (at_10), .dat (worse_11), .un, .un]) (dt_cmp (op_neD hr.units) r2_NeD dNeD_tot (de_lam (k := 7) L_law_error TB rfl (hr.mono (by decide)) (LamX.lamS_by (sc := defScope s_law_refusals_right) (by decide +kernel)) (tl _ hT) (fun A outer s H E f c' B hr => have tk := takes_of rfl rfl rfl rfl; (de_make M_LaneMap_2 (hr.mono (by decide)) tk (Wk.un' rfl) (da_cons (de_var (i := 2) (d := a_law_rooms)) (da_cons (de_var (i := 10) (d := worse_11)) da_nil))))) (de_tup (da_cons de_str (da_cons (de_var (i := 9) (d := at_10)) da_nil))) (nomark _)) (ds_one (ds_ret de_bl)) (ds_nil (()))) (fun (j12 : Unit) => (ds_cons (ds_if (sl := fun (j13 : Unit) => [.dat (a_law_source_here), .dat (a_law_lanes), .dat (a_law_rooms), .dat (a_law_goings_here), .dat (a_law_standing_here), .dat (many_1), .dat (lane_3), .dat (wrong_4), .dat (bad_6), .dat (at_10), .dat (worse_11), .un, .un]) (dt_cmp (op_neD hr.units) r2_NeD dNeD_tot (de_lam (k := 7) L_law_error TB rfl (hr.mono (by decide)) (LamX.lamS_by (sc := defScope s_law_refusals_right) (by decide +kernel)) (tl _ hT) (fun A outer s H E f c' B hr => have tk := takes_of rfl rfl rfl rfl; (de_make M_LaneMap_2 (hr.mono (by decide)) tk (Wk.un' rfl) (da_cons (de_var (i := 2) (d := a_law_rooms)) (da_cons de_non da_nil))))) (de_tup (da_cons de_str (da_cons (de_neg de_int) da_nil))) (nomark _)) (ds_one (ds_ret de_bl)) (ds_nil (()))) (fun (j13 : Unit) => (ds_cons (ds_set (i := 11) sc_law_refusals_right.nd (de_catL rfl (de_catL rfl (de_slL rfl (de_var (i := 2) (d := a_law_rooms)) do_none (do_some (de_var (i := 6) (d := lane_3)))) (de_lst (da_cons (de_call2 (Df.cal C_law_of (hr.mono (by decide))) tk (Wk.un' rfl) (de_var (i := 0) (d := a_law_source_here)) (de_lst (da_cons de_int (da_cons de_int (da_cons (de_neg de_int) (da_cons de_non (da_cons de_bl (da_cons de_str da_nil)))))))) da_nil))) (de_slL rfl (de_var (i := 2) (d := a_law_rooms)) (do_some (de_add (de_var (i := 6) (d := lane_3)) de_int)) do_none))) (fun (odd_14 : D) => (ds_cons (ds_if (sl := fun (j15 : Unit) => [.dat (a_law_source_here), .dat (a_law_lanes), .dat (a_law_rooms), .dat (a_law_goings_here), .dat (a_law_standing_here), .dat (many_1), .dat (lane_3), .dat (wrong_4), .dat (bad_6), .dat (at_10), .dat (worse_11), .dat (odd_14), .un]) (dt_cmp (op_neD hr.units) r2_NeD dNeD_tot (de_lam (k := 7) L_law_error TB rfl (hr.mono (by decide)) (LamX.lamS_by (sc := defScope s_law_refusals_right) (by decide +kernel)) (tl _ hT) (fun A outer s H E f c' B hr => have tk := takes_of rfl rfl rfl rfl; (de_make M_LaneMap_2 (hr.mono (by decide)) tk (Wk.un' rfl) (da_cons (de_var (i := 11) (d := odd_14)) (da_cons (de_var (i := 10) (d := worse_11)) da_nil))))) (de_tup (da_cons de_str (da_cons (de_var (i := 6) (d := lane_3)) da_nil))) (nomark _)) (ds_one (ds_ret de_bl)) (ds_nil (()))) (fun (j15 : Unit) => (ds_one (ds_ret (de_cmp (op_eqD hr.units) r2_EqD dEqD_tot (de_lam (k := 7) L_law_error TB rfl (hr.mono (by decide)) (LamX.lamS_by (sc := defScope s_law_refusals_right) (by decide +kernel)) (tl _ hT) (fun A outer s H E f c' B hr => have tk := takes_of rfl rfl rfl rfl; (de_make M_LaneMap_2 (hr.mono (by decide)) tk (Wk.un' rfl) (da_cons (de_repL (da_cons de_int da_nil) de_int) (da_cons (de_var (i := 10) (d := worse_11)) da_nil))))) (de_tup (da_cons de_str (da_cons (de_neg de_int) da_nil))) (nomark _)))))))))))))))))))))))))))))))))

abbrev s_law : Stmt := topS 46
abbrev N_law : List Str := ["_law_script", "_law_source_here", "_law_first", "_law_many", "_law_lanes", "_law_standing_here", "_law_given", "_law_left_here", "_law_turn", "_law_rooms", "_law_goings_here", "_law_firsts_here", "_law_knot_here", "_law_lane", "_law_row", "_law_due", "_law_way_here", "_law_going"]
theorem sc_law : FnScope N_law ["_law_script"] (defScope s_law) := ⟨rfl, rfl, rfl, by decide +kernel, rfl, by decide +kernel, by decide +kernel⟩
def m_law (a_law_script : D) : N D := (N.seq (((.ok a_law_script : N D).bind fun x => m_law_source x : N D).bind fun d => .ok (.nx d)) fun (source_here_1 : D) => N.seq ((((((.ok (.int 1) : N D).bind fun x => ((.ok (.int 2) : N D).bind fun x => (.ok [] : N (List D)).bind fun xs => .ok (x :: xs) : N (List D)).bind fun xs => .ok (x :: xs) : N (List D)).bind fun xs => (N.le1 xs).bind fun _ => .ok (.lst xs) : N D).bind fun x => ((((((.ok (.int 0) : N D).bind fun x => ((.ok (.int 1) : N D).bind fun x => (.ok [] : N (List D)).bind fun xs => .ok (x :: xs) : N (List D)).bind fun xs => .ok (x :: xs) : N (List D)).bind fun xs => (N.le1 xs).bind fun _ => .ok (.tup xs) : N D).bind fun x => (.ok [] : N (List D)).bind fun xs => .ok (x :: xs) : N (List D)).bind fun xs => (N.le1 xs).bind fun _ => .ok (.lst xs) : N D).bind fun x => (.ok [] : N (List D)).bind fun xs => .ok (x :: xs) : N (List D)).bind fun xs => .ok (x :: xs) : N (List D)).bind fun ds => (N.asrt (ds.length = 2)).bind fun _ => app2 m_LaneMap_init (gD_LaneMap_2 ds []) : N D).bind fun d => .ok (.nx d)) fun (first_2 : D) => N.seq ((((((.ok first_2 : N D).bind fun x => (((((((.ok (.int 1) : N D).bind fun x => (.ok [] : N (List D)).bind fun xs => .ok (x :: xs) : N (List D)).bind fun xs => (N.le1 xs).bind fun _ => .ok (.tup xs) : N D).bind fun x => (.ok [] : N (List D)).bind fun xs => .ok (x :: xs) : N (List D)).bind fun xs => (N.le1 xs).bind fun _ => .ok (.tup xs) : N D).bind fun x => (((.ok [] : N (List D)).bind fun xs => (N.le1 xs).bind fun _ => .ok (.tup xs) : N D).bind fun x => (.ok [] : N (List D)).bind fun xs => .ok (x :: xs) : N (List D)).bind fun xs => .ok (x :: xs) : N (List D)).bind fun xs => (N.le1 xs).bind fun _ => .ok (.tup xs) : N D).bind fun y => (.ok (.int 0) : N D).bind fun z => m_gone_standing x y z : N D).bind fun x => ((((.ok [] : N (List D)).bind fun xs => (N.le1 xs).bind fun _ => .ok (.tup xs) : N D).bind fun x => (((((.ok [] : N (List D)).bind fun xs => (N.le1 xs).bind fun _ => .ok (.tup xs) : N D).bind fun x => (.ok [] : N (List D)).bind fun xs => .ok (x :: xs) : N (List D)).bind fun xs => (N.le1 xs).bind fun _ => .ok (.tup xs) : N D).bind fun x => (.ok [] : N (List D)).bind fun xs => .ok (x :: xs) : N (List D)).bind fun xs => .ok (x :: xs) : N (List D)).bind fun xs => (N.le1 xs).bind fun _ => .ok (.tup xs) : N D).bind fun y => dNeD x y : N D).bind N.tst : N Bool).bind fun x => if x = true then .ok true else ((((.ok first_2 : N D).bind fun x => (((((((.ok (.int 1) : N D).bind fun x => (.ok [] : N (List D)).bind fun xs => .ok (x :: xs) : N (List D)).bind fun xs => (N.le1 xs).bind fun _ => .ok (.tup xs) : N D).bind fun x => (.ok [] : N (List D)).bind fun xs => .ok (x :: xs) : N (List D)).bind fun xs => (N.le1 xs).bind fun _ => .ok (.tup xs) : N D).bind fun x => (((((.ok [] : N (List D)).bind fun xs => (N.le1 xs).bind fun _ => .ok (.tup xs) : N D).bind fun x => (.ok [] : N (List D)).bind fun xs => .ok (x :: xs) : N (List D)).bind fun xs => (N.le1 xs).bind fun _ => .ok (.tup xs) : N D).bind fun x => (.ok [] : N (List D)).bind fun xs => .ok (x :: xs) : N (List D)).bind fun xs => .ok (x :: xs) : N (List D)).bind fun xs => (N.le1 xs).bind fun _ => .ok (.tup xs) : N D).bind fun y => m_goings_left x y : N D).bind fun x => (.ok (.int 3) : N D).bind fun y => dNeD x y : N D).bind N.tst) : N Bool).bind fun x => if x = true then ((.ok (.bl false) : N D).bind fun d => .ok (.rt d)) else (.ok (.nx (())))) fun (j3 : Unit) => N.seq (((.ok (.int 2) : N D).bind fun x => ((.ok source_here_1 : N D).bind fun x => (.ok (.int 4) : N D).bind fun y => m_law_any x y : N D).bind fun y => dAdd x y : N D).bind fun d => .ok (.nx d)) fun (many_4 : D) => N.seq ((N.lcG ((.ok many_4 : N D).bind N.rng1) (fun d => some d) (fun c5 : D => (.ok true : N Bool)) (fun c5 : D => ((.ok source_here_1 : N D).bind fun x => (((.ok (.int 1) : N D).bind fun x => ((.ok (.int 2) : N D).bind fun x => ((.ok (.int 2) : N D).bind fun x => ((.ok (.int 3) : N D).bind fun x => (.ok [] : N (List D)).bind fun xs => .ok (x :: xs) : N (List D)).bind fun xs => .ok (x :: xs) : N (List D)).bind fun xs => .ok (x :: xs) : N (List D)).bind fun xs => .ok (x :: xs) : N (List D)).bind fun xs => (N.le1 xs).bind fun _ => .ok (.lst xs) : N D).bind fun y => m_law_of x y : N D)) : N D).bind fun x => ((.ok source_here_1 : N D).bind fun x => (.ok many_4 : N D).bind fun y => m_law_goings x y : N D).bind fun y => .ok (.nx (x, y))) fun (b6 : D × D) => N.seq ((((N.lcG ((((.ok b6.2 : N D).bind dRevL : N D).bind fun x => ((.ok b6.2 : N D).bind fun d => (.ok none : N (Option Int)).bind fun l => ((.ok (.int 1) : N D).bind fun d => (toI d).bind fun i => .ok (some i) : N (Option Int)).bind fun h => dSlL d l h : N D).bind fun y => dCatL x y : N D).bind seqOf) (fun d => some d) (fun c8 : D => (.ok true : N Bool)) (fun c8 : D => ((.ok c8 : N D).bind dList : N D)) : N D).bind fun x => (((.ok b6.1 : N D).bind dList : N D).bind fun x => (.ok [] : N (List D)).bind fun xs => .ok (x :: xs) : N (List D)).bind fun xs => .ok (x :: xs) : N (List D)).bind fun es => (N.asrt (es.length = 2)).bind fun _ => app2 m_LaneMap_init (gD_LaneMap_0_goings_rooms [] es) : N D).bind fun d => .ok (.nx d)) fun (lanes_7 : D) => N.seq ((((((.ok lanes_7 : N D).bind (dFld atT "rooms") : N D).bind fun x => ((.ok b6.1 : N D).bind dTuple : N D).bind fun y => dNeD x y : N D).bind N.tst : N Bool).bind fun x => if x = true then .ok true else (((((.ok lanes_7 : N D).bind (dFld atT "goings") : N D).bind fun x => ((.ok b6.2 : N D).bind dTuple : N D).bind fun y => dNeD x y : N D).bind N.tst : N Bool).bind fun x => if x = true then .ok true else ((((.ok lanes_7 : N D).bind fun x => ((((.ok b6.1 : N D).bind dTuple : N D).bind fun x => ((.ok b6.2 : N D).bind fun x => (.ok [] : N (List D)).bind fun xs => .ok (x :: xs) : N (List D)).bind fun xs => .ok (x :: xs) : N (List D)).bind fun ds => (N.asrt (ds.length = 2)).bind fun _ => app2 m_LaneMap_init (gD_LaneMap_2 ds []) : N D).bind fun y => dNeI 6 m_LaneMap_eq x y : N D).bind N.tst : N Bool).bind fun x => if x = true then .ok true else (((.ok lanes_7 : N D).bind fun x => (.ok b6.1 : N D).bind fun y => dEqI clT 6 m_LaneMap_eq x y : N D).bind N.tst))) : N Bool).bind fun x => if x = true then ((.ok (.bl false) : N D).bind fun d => .ok (.rt d)) else (.ok (.nx (())))) fun (j10 : Unit) => N.seq (((.ok source_here_1 : N D).bind fun x => (.ok b6.1 : N D).bind fun y => (.ok b6.2 : N D).bind fun z => (.ok (.int 4) : N D).bind fun u => m_law_standing x y z u : N D).bind fun d => .ok (.nx d)) fun (standing_here_11 : D) => N.seq ((N.lcG ((.ok standing_here_11 : N D).bind seqOf) (fun d => some d) (fun c13 : D => (.ok true : N Bool)) (fun c13 : D => (N.lcG ((.ok c13 : N D).bind seqOf) (fun d => some d) (fun c14 : D => (.ok true : N Bool)) (fun c14 : D => ((.ok c14 : N D).bind dList : N D)) : N D)) : N D).bind fun d => .ok (.nx d)) fun (given_12 : D) => N.seq ((((((.ok given_12 : N D).bind fun x => ((.ok lanes_7 : N D).bind fun x => (.ok [] : N (List D)).bind fun xs => .ok (x :: xs) : N (List D)).bind fun xs => .ok (x :: xs) : N (List D)).bind fun es => (N.asrt (es.length = 2)).bind fun _ => app2 m_need_standing (gD_need_standing_0_value_lanes [] es) : N D).bind fun x => (.ok standing_here_11 : N D).bind fun y => dNeD x y : N D).bind N.tst : N Bool).bind fun x => if x = true then ((.ok (.bl false) : N D).bind fun d => .ok (.rt d)) else (.ok (.nx (())))) fun (j15 : Unit) => N.seq (((.ok standing_here_11 : N D).bind fun x => m_law_left x : N D).bind fun d => .ok (.nx d)) fun (left_here_16 : D) => N.seq (((.ok (.int 12) : N D).bind N.rng1 : N (List D)).bind fun ds => (N.decs (fun d => some d) ds).bind fun ps => N.loop (fun (y18 : D) (s17 : D × D) => N.seq (((((((.ok s17.1 : N D).bind fun x => ((.ok lanes_7 : N D).bind fun x => (.ok [] : N (List D)).bind fun xs => .ok (x :: xs) : N (List D)).bind fun xs => .ok (x :: xs) : N (List D)).bind fun es => (N.asrt (es.length = 2)).bind fun _ => app2 m_goings_left (gD_goings_left_0_standing_lanes [] es) : N D).bind dRepr : N D).bind fun x => ((.ok s17.2 : N D).bind dRepr : N D).bind fun y => dNeS x y : N D).bind N.tst : N Bool).bind fun x => if x = true then ((.ok (.bl false) : N D).bind fun d => .ok (.rt d)) else (.ok (.nx (())))) fun (j19 : Unit) => N.seq (((.ok b6.1 : N D).bind fun x => (.ok s17.1 : N D).bind fun y => m_law_firsts x y : N D).bind fun d => .ok (.nx d)) fun (firsts_here_20 : D) => N.seq ((((((N.lcG ((.ok s17.1 : N D).bind seqOf) (fun d => some d) (fun c21 : D => (.ok true : N Bool)) (fun c21 : D => (N.lcG ((.ok c21 : N D).bind seqOf) (fun d => some d) (fun c22 : D => (.ok true : N Bool)) (fun c22 : D => ((.ok c22 : N D).bind dList : N D)) : N D)) : N D).bind fun x => ((.ok lanes_7 : N D).bind fun x => (.ok [] : N (List D)).bind fun xs => .ok (x :: xs) : N (List D)).bind fun xs => .ok (x :: xs) : N (List D)).bind fun es => (N.asrt (es.length = 2)).bind fun _ => app2 m_possible_goings (gD_possible_goings_0_standing_lanes [] es) : N D).bind fun x => ((.ok firsts_here_20 : N D).bind dTuple : N D).bind fun y => dNeD x y : N D).bind N.tst : N Bool).bind fun x => if x = true then ((.ok (.bl false) : N D).bind fun d => .ok (.rt d)) else (.ok (.nx (())))) fun (j25 : Unit) => N.seq (((.ok b6.1 : N D).bind fun x => (.ok s17.1 : N D).bind fun y => m_law_knot x y : N D).bind fun d => .ok (.nx d)) fun (knot_here_26 : D) => N.seq (((((((.ok lanes_7 : N D).bind fun x => (.ok s17.1 : N D).bind fun y => m_find_knot x y : N D).bind dRepr : N D).bind fun x => ((.ok knot_here_26 : N D).bind dRepr : N D).bind fun y => dNeS x y : N D).bind N.tst : N Bool).bind fun x => if x = true then .ok true else ((((.ok knot_here_26 : N D).bind fun x => (.ok .non : N D).bind fun y => dIsN x y : N D).bind N.tst : N Bool).bind fun x => if x = true then ((((.ok s17.2 : N D).bind fun x => (.ok (.int 0) : N D).bind fun y => dGt x y : N D).bind N.tst : N Bool).bind fun x => if x = true then (((.ok firsts_here_20 : N D).bind fun x => ((.ok [] : N (List D)).bind fun xs => (N.le1 xs).bind fun _ => .ok (.lst xs) : N D).bind fun y => dEqD x y : N D).bind N.tst) else .ok false) else .ok false) : N Bool).bind fun x => if x = true then ((.ok (.bl false) : N D).bind fun d => .ok (.rt d)) else (.ok (.nx (())))) fun (j27 : Unit) => N.seq (((.ok source_here_1 : N D).bind fun x => (.ok many_4 : N D).bind fun y => m_law_any x y : N D).bind fun d => .ok (.nx d)) fun (lane_28 : D) => N.seq ((((.ok lane_28 : N D).bind fun x => (.ok firsts_here_20 : N D).bind fun y => dNotInD x y : N D).bind N.tst : N Bool).bind fun x => if x = true then (N.seq (((((N.ne (m_law_error ((.ok lanes_7 : N D).bind fun x => (.ok s17.1 : N D).bind fun y => (.ok lane_28 : N D).bind fun z => m_gone_standing x y z : N D)) : N D) : N D).bind fun x => (((.ok (.str "Refused") : N D).bind fun x => ((.ok lane_28 : N D).bind fun x => (.ok [] : N (List D)).bind fun xs => .ok (x :: xs) : N (List D)).bind fun xs => .ok (x :: xs) : N (List D)).bind fun xs => (N.le1 xs).bind fun _ => .ok (.tup xs) : N D).bind fun y => dNeD x y : N D).bind N.tst : N Bool).bind fun x => if x = true then ((.ok (.bl false) : N D).bind fun d => .ok (.rt d)) else (.ok (.nx (())))) fun (j30 : Unit) => N.seq (((((.ok firsts_here_20 : N D).bind fun x => ((.ok [] : N (List D)).bind fun xs => (N.le1 xs).bind fun _ => .ok (.lst xs) : N D).bind fun y => dNeD x y : N D).bind N.tst : N Bool).bind fun x => if x = true then ((.ok source_here_1 : N D).bind fun x => (.ok firsts_here_20 : N D).bind fun y => m_law_of x y) else ((.ok (.int 1) : N D).bind dNeg) : N D).bind fun d => .ok (.nx d)) fun (lane_31 : D) => .ok (.nx (lane_31))) else (.ok (.nx (lane_28)))) fun (j29 : D) => N.seq ((((.ok j29 : N D).bind fun x => (.ok (.int 0) : N D).bind fun y => dGe x y : N D).bind N.tst : N Bool).bind fun x => if x = true then (N.seq (((.ok s17.1 : N D).bind fun x => (.ok j29 : N D).bind fun y => (.ok (.int 0) : N D).bind fun z => m_law_gone x y z : N D).bind fun d => .ok (.nx d)) fun (due_33 : D) => N.seq ((((((.ok j29 : N D).bind fun x => ((.ok s17.1 : N D).bind fun x => ((.ok lanes_7 : N D).bind fun x => (.ok [] : N (List D)).bind fun xs => .ok (x :: xs) : N (List D)).bind fun xs => .ok (x :: xs) : N (List D)).bind fun xs => .ok (x :: xs) : N (List D)).bind fun es => (N.asrt (es.length = 3)).bind fun _ => app3 m_gone_standing (gD_gone_standing_0_lane_standing_lanes [] es) : N D).bind fun x => (.ok due_33 : N D).bind fun y => dNeD x y : N D).bind N.tst : N Bool).bind fun x => if x = true then ((.ok (.bl false) : N D).bind fun d => .ok (.rt d)) else (.ok (.nx (())))) fun (j34 : Unit) => N.seq ((.ok due_33 : N D).bind fun x => ((.ok s17.2 : N D).bind fun x => (.ok (.int 1) : N D).bind fun y => dSub x y : N D).bind fun y => .ok (.nx (x, y))) fun (b35 : D × D) => .ok (.nx ((b35.1, b35.2)))) else (.ok (.nx ((s17.1, s17.2))))) fun (j32 : D × D) => .ok (.nx ((j32.1, j32.2)))) ps ((standing_here_11, left_here_16))) fun (s17 : D × D) => ((.ok source_here_1 : N D).bind fun x => (.ok lanes_7 : N D).bind fun y => (.ok b6.1 : N D).bind fun z => (.ok b6.2 : N D).bind fun u => (.ok s17.1 : N D).bind fun v => m_law_refusals_right x y z u v : N D).bind fun d => .ok (.rt d) : N (Fl Unit Unit)).fin
theorem ok_law {f : Addr} {fd : FuncData} (F : FunD Z.K "law" "law" (defArgs s_law) (defBody s_law) (defScope s_law) [] [] f fd) {c Pt : Addr} (hc : ∀ oc od fd' osl, Z.K.lookup f = some ⟨oc, od, .func fd', osl⟩ → fd'.code = .ref c) (TB : LamX.TabB base mg c Pt) (hT : (Pt, ("law.<locals>.<lambda>" : Str)) ∈ Z.tl) (T : Txt Z mg cK fI) (C_law_source : Df P w Z mg base "_law_source" 2 1 (app1 m_law_source)) (C_gone_standing : Df P w Z mg base "gone_standing" 6 3 (app3 m_gone_standing)) (C_goings_left : Df P w Z mg base "goings_left" 6 2 (app2 m_goings_left)) (C_law_any : Df P w Z mg base "_law_any" 1 2 (app2 m_law_any)) (C_law_of : Df P w Z mg base "_law_of" 2 2 (app2 m_law_of)) (C_law_goings : Df P w Z mg base "_law_goings" 2 2 (app2 m_law_goings)) (C_law_standing : Df P w Z mg base "_law_standing" 4 4 (app4 m_law_standing)) (C_law_left : Df P w Z mg base "_law_left" 2 1 (app1 m_law_left)) (C_law_firsts : Df P w Z mg base "_law_firsts" 2 2 (app2 m_law_firsts)) (C_law_knot : Df P w Z mg base "_law_knot" 2 2 (app2 m_law_knot)) (C_find_knot : Df P w Z mg base "find_knot" 6 2 (app2 m_find_knot)) (C_law_gone : Df P w Z mg base "_law_gone" 2 3 (app3 m_law_gone)) (C_law_refusals_right : Df P w Z mg base "_law_refusals_right" 10 5 (app5 m_law_refusals_right)) (G_need_standing_0_value_lanes : DfG P w Z mg base "need_standing" 5 0 ["value", "lanes"] gD_need_standing_0_value_lanes 2 (app2 m_need_standing)) (G_goings_left_0_standing_lanes : DfG P w Z mg base "goings_left" 6 0 ["standing", "lanes"] gD_goings_left_0_standing_lanes 2 (app2 m_goings_left)) (G_possible_goings_0_standing_lanes : DfG P w Z mg base "possible_goings" 6 0 ["standing", "lanes"] gD_possible_goings_0_standing_lanes 2 (app2 m_possible_goings)) (G_gone_standing_0_lane_standing_lanes : DfG P w Z mg base "gone_standing" 6 0 ["lane", "standing", "lanes"] gD_gone_standing_0_lane_standing_lanes 3 (app3 m_gone_standing)) (M_LaneMap_2 : MkI P w Z mg base "LaneMap" 6 6 2 [] gD_LaneMap_2 2 (app2 m_LaneMap_init)) (M_LaneMap_0_goings_rooms : MkI P w Z mg base "LaneMap" 6 6 0 ["goings", "rooms"] gD_LaneMap_0_goings_rooms 2 (app2 m_LaneMap_init)) (Q_LaneMap : EqC P w Z mg base 6 2 m_LaneMap_eq) (L_law_error : Giv P w Z mg base "_law_error" "_law_work" m_law_error) : FnG P w Z.K mg base (L2.CX P w) 11 f fd ["_law_script"] (spN Z 1 (app1 m_law)) := by
  refine fn_okCG (ps := ["_law_script"]) F sc_law (ar1 _) hc (fun A outer s H E F0 ds hgd tl hr tk hl => ?_)
  match ds, hl with
  | [a_law_script], _ =>
    refine ⟨Unit, Unit, fun _ => [.dat (a_law_script), .un, .un, .un, .un, .un, .un, .un, .un, .un, .un, .un, .un, .un, .un, .un, .un, .un], fun _ => [.dat (a_law_script), .un, .un, .un, .un, .un, .un, .un, .un, .un, .un, .un, .un, .un, .un, .un, .un, .un], _, ?_, fun _ _ h => h⟩
    exact ((ds_cons (ds_set (i := 1) sc_law.nd (de_call1 (Df.cal C_law_source (hr.mono (by decide))) tk (Wk.un' rfl) (de_var (i := 0) (d := a_law_script)))) (fun (source_here_1 : D) => (ds_cons (ds_set (i := 2) sc_law.nd (de_make M_LaneMap_2 (hr.mono (by decide)) tk (Wk.un' rfl) (da_cons (de_lst (da_cons de_int (da_cons de_int da_nil))) (da_cons (de_lst (da_cons (de_tup (da_cons de_int (da_cons de_int da_nil))) da_nil)) da_nil)))) (fun (first_2 : D) => (ds_cons (ds_if (sl := fun (j3 : Unit) => [.dat (a_law_script), .dat (source_here_1), .dat (first_2), .un, .un, .un, .un, .un, .un, .un, .un, .un, .un, .un, .un, .un, .un, .un]) (PW.pt (dw_or (dt_cmp (op_neD hr.units) r2_NeD dNeD_tot (de_call3 (Df.cal C_gone_standing (hr.mono (by decide))) tk (Wk.un' rfl) (de_var (i := 2) (d := first_2)) (de_tup (da_cons (de_tup (da_cons (de_tup (da_cons de_int da_nil)) da_nil)) (da_cons (de_tup da_nil) da_nil))) de_int) (de_tup (da_cons (de_tup da_nil) (da_cons (de_tup (da_cons (de_tup da_nil) da_nil)) da_nil))) (nomark _)) (dw_or1 (dt_cmp (op_neD hr.units) r2_NeD dNeD_tot (de_call2 (Df.cal C_goings_left (hr.mono (by decide))) tk (Wk.un' rfl) (de_var (i := 2) (d := first_2)) (de_tup (da_cons (de_tup (da_cons (de_tup (da_cons de_int da_nil)) da_nil)) (da_cons (de_tup (da_cons (de_tup da_nil) da_nil)) da_nil)))) de_int (nomark _))))) (ds_one (ds_ret de_bl)) (ds_nil (()))) (fun (j3 : Unit) => (ds_cons (ds_set (i := 3) sc_law.nd (de_add de_int (de_call2 (Df.cal C_law_any (hr.mono (by decide))) tk (Wk.un' rfl) (de_var (i := 1) (d := source_here_1)) de_int))) (fun (many_4 : D) => (ds_cons (ds_par2 (i := 9) (j := 10) rfl sc_law.nd rfl rfl (by decide) rfl rfl (de_lcG (own := [("_law_lane", 13)]) (m := 18) rfl sc_law.nd (src_rng1 T.b_range (de_var (i := 3) (d := many_4))) (pat_name 13) (blkOk_by (own := [("_law_lane", 13)]) (N := N_law) (sc := defScope s_law) (by decide +kernel)) (fun _ _ _ _ _ => pg_name (i := 13) sc_law.nd rfl (Or.inl rfl)) (fun _ _ _ _ _ c5 => (dts_nil (y := ()))) (fun _ _ _ _ _ c5 => (de_call2 (Df.cal C_law_of (hr.mono (by decide))) takes_no (Wk.un' rfl) (de_var (i := 1) (d := source_here_1)) (de_lst (da_cons de_int (da_cons de_int (da_cons de_int (da_cons de_int da_nil)))))))) (de_call2 (Df.cal C_law_goings (hr.mono (by decide))) tk (Wk.un' rfl) (de_var (i := 1) (d := source_here_1)) (de_var (i := 3) (d := many_4)))) (fun (b6 : D × D) => (ds_cons (ds_set (i := 4) sc_law.nd (de_makeK M_LaneMap_0_goings_rooms (hr.mono (by decide)) tk (Wk.un' rfl) (dk_cons (de_lcG (own := [("_law_going", 17)]) (m := 18) rfl sc_law.nd (src_seq rfl (de_catL rfl (de_revL rfl (de_var (i := 10) (d := b6.2))) (de_slL rfl (de_var (i := 10) (d := b6.2)) do_none (do_some de_int)))) (pat_name 17) (blkOk_by (own := [("_law_going", 17)]) (N := N_law) (sc := defScope s_law) (by decide +kernel)) (fun _ _ _ _ _ => pg_name (i := 17) sc_law.nd rfl (Or.inl rfl)) (fun _ _ _ _ _ c9 => (dts_nil (y := ()))) (fun _ _ _ _ _ c9 => (de_list rfl T.b_list (de_var (i := 17) (d := c9))))) (dk_cons (de_list rfl T.b_list (de_var (i := 9) (d := b6.1))) dk_nil)))) (fun (lanes_7 : D) => (ds_cons (ds_if (sl := fun (j10 : Unit) => [.dat (a_law_script), .dat (source_here_1), .dat (first_2), .dat (many_4), .dat (lanes_7), .un, .un, .un, .un, .dat (b6.1), .dat (b6.2), .un, .un, .un, .un, .un, .un, .un]) (PW.pt (dw_or (dt_cmp (op_neD hr.units) r2_NeD dNeD_tot (de_fld T.at_ T.fa_rooms (de_var (i := 4) (d := lanes_7))) (de_tuple rfl T.b_tuple (de_var (i := 9) (d := b6.1))) (nomark _)) (dw_or (dt_cmp (op_neD hr.units) r2_NeD dNeD_tot (de_fld T.at_ T.fa_goings (de_var (i := 4) (d := lanes_7))) (de_tuple rfl T.b_tuple (de_var (i := 10) (d := b6.2))) (nomark _)) (dw_or (dt_neI Q_LaneMap (hr.mono (by decide)) (de_var (i := 4) (d := lanes_7)) (de_make M_LaneMap_2 (hr.mono (by decide)) tk (Wk.un' rfl) (da_cons (de_tuple rfl T.b_tuple (de_var (i := 9) (d := b6.1))) (da_cons (de_var (i := 10) (d := b6.2)) da_nil)))) (dw_or1 (dt_eqI (cl := clT) Q_LaneMap (hr.mono (by decide)) (de_var (i := 4) (d := lanes_7)) (de_var (i := 9) (d := b6.1)))))))) (ds_one (ds_ret de_bl)) (ds_nil (()))) (fun (j10 : Unit) => (ds_cons (ds_set (i := 5) sc_law.nd (de_call4 (Df.cal C_law_standing (hr.mono (by decide))) tk (Wk.un' rfl) (de_var (i := 1) (d := source_here_1)) (de_var (i := 9) (d := b6.1)) (de_var (i := 10) (d := b6.2)) de_int)) (fun (standing_here_11 : D) => (ds_cons (ds_lcG (i := 6) (own := [("_law_row", 14)]) (m := 18) rfl sc_law.nd (src_seq rfl (de_var (i := 5) (d := standing_here_11))) (pat_name 14) rfl rfl rfl rfl (by decide +kernel) (blkOk_by (own := [("_law_row", 14)]) (N := N_law) (sc := defScope s_law) (by decide +kernel)) (fun _ _ _ _ _ => pg_name (i := 14) sc_law.nd rfl (Or.inl rfl)) (fun _ _ _ _ _ c13 => (dts_nil (y := ()))) (fun _ _ _ _ _ c13 => (de_lcG (own := [("_law_way_here", 16)]) (m := 18) rfl sc_law.nd (src_seq rfl (de_var (i := 14) (d := c13))) (pat_name 16) (blkOk_in (own := [("_law_way_here", 16)]) (N := N_law) (sc := defScope s_law) rfl (by decide +kernel)) (fun _ _ _ _ _ => pg_name (i := 16) sc_law.nd rfl (Or.inl rfl)) (fun _ _ _ _ _ c14 => (dts_nil (y := ()))) (fun _ _ _ _ _ c14 => (de_list rfl T.b_list (de_var (i := 16) (d := c14))))))) (fun (given_12 : D) => (ds_cons (ds_if (sl := fun (j15 : Unit) => [.dat (a_law_script), .dat (source_here_1), .dat (first_2), .dat (many_4), .dat (lanes_7), .dat (standing_here_11), .dat (given_12), .un, .un, .dat (b6.1), .dat (b6.2), .un, .un, .un, .un, .un, .un, .un]) (dt_cmp (op_neD hr.units) r2_NeD dNeD_tot (de_callKw0 (DfG.cal G_need_standing_0_value_lanes (hr.mono (by decide))) tk (Wk.un' rfl) (dk_cons (de_var (i := 6) (d := given_12)) (dk_cons (de_var (i := 4) (d := lanes_7)) dk_nil))) (de_var (i := 5) (d := standing_here_11)) (nomark _)) (ds_one (ds_ret de_bl)) (ds_nil (()))) (fun (j15 : Unit) => (ds_cons (ds_set (i := 7) sc_law.nd (de_call1 (Df.cal C_law_left (hr.mono (by decide))) tk (Wk.un' rfl) (de_var (i := 5) (d := standing_here_11)))) (fun (left_here_16 : D) => (ds_cons (ds_forG (sl := fun (s17 : D × D) => [.dat (a_law_script), .dat (source_here_1), .dat (first_2), .dat (many_4), .dat (lanes_7), .dat (s17.1), .dat (given_12), .dat (s17.2), .un, .dat (b6.1), .dat (b6.2), .un, .un, .un, .un, .un, .un, .un]) ((standing_here_11, left_here_16)) (fun (y18 : D) (s17 : D × D) => N.seq (((((((.ok s17.1 : N D).bind fun x => ((.ok lanes_7 : N D).bind fun x => (.ok [] : N (List D)).bind fun xs => .ok (x :: xs) : N (List D)).bind fun xs => .ok (x :: xs) : N (List D)).bind fun es => (N.asrt (es.length = 2)).bind fun _ => app2 m_goings_left (gD_goings_left_0_standing_lanes [] es) : N D).bind dRepr : N D).bind fun x => ((.ok s17.2 : N D).bind dRepr : N D).bind fun y => dNeS x y : N D).bind N.tst : N Bool).bind fun x => if x = true then ((.ok (.bl false) : N D).bind fun d => .ok (.rt d)) else (.ok (.nx (())))) fun (j19 : Unit) => N.seq (((.ok b6.1 : N D).bind fun x => (.ok s17.1 : N D).bind fun y => m_law_firsts x y : N D).bind fun d => .ok (.nx d)) fun (firsts_here_20 : D) => N.seq ((((((N.lcG ((.ok s17.1 : N D).bind seqOf) (fun d => some d) (fun c21 : D => (.ok true : N Bool)) (fun c21 : D => (N.lcG ((.ok c21 : N D).bind seqOf) (fun d => some d) (fun c22 : D => (.ok true : N Bool)) (fun c22 : D => ((.ok c22 : N D).bind dList : N D)) : N D)) : N D).bind fun x => ((.ok lanes_7 : N D).bind fun x => (.ok [] : N (List D)).bind fun xs => .ok (x :: xs) : N (List D)).bind fun xs => .ok (x :: xs) : N (List D)).bind fun es => (N.asrt (es.length = 2)).bind fun _ => app2 m_possible_goings (gD_possible_goings_0_standing_lanes [] es) : N D).bind fun x => ((.ok firsts_here_20 : N D).bind dTuple : N D).bind fun y => dNeD x y : N D).bind N.tst : N Bool).bind fun x => if x = true then ((.ok (.bl false) : N D).bind fun d => .ok (.rt d)) else (.ok (.nx (())))) fun (j25 : Unit) => N.seq (((.ok b6.1 : N D).bind fun x => (.ok s17.1 : N D).bind fun y => m_law_knot x y : N D).bind fun d => .ok (.nx d)) fun (knot_here_26 : D) => N.seq (((((((.ok lanes_7 : N D).bind fun x => (.ok s17.1 : N D).bind fun y => m_find_knot x y : N D).bind dRepr : N D).bind fun x => ((.ok knot_here_26 : N D).bind dRepr : N D).bind fun y => dNeS x y : N D).bind N.tst : N Bool).bind fun x => if x = true then .ok true else ((((.ok knot_here_26 : N D).bind fun x => (.ok .non : N D).bind fun y => dIsN x y : N D).bind N.tst : N Bool).bind fun x => if x = true then ((((.ok s17.2 : N D).bind fun x => (.ok (.int 0) : N D).bind fun y => dGt x y : N D).bind N.tst : N Bool).bind fun x => if x = true then (((.ok firsts_here_20 : N D).bind fun x => ((.ok [] : N (List D)).bind fun xs => (N.le1 xs).bind fun _ => .ok (.lst xs) : N D).bind fun y => dEqD x y : N D).bind N.tst) else .ok false) else .ok false) : N Bool).bind fun x => if x = true then ((.ok (.bl false) : N D).bind fun d => .ok (.rt d)) else (.ok (.nx (())))) fun (j27 : Unit) => N.seq (((.ok source_here_1 : N D).bind fun x => (.ok many_4 : N D).bind fun y => m_law_any x y : N D).bind fun d => .ok (.nx d)) fun (lane_28 : D) => N.seq ((((.ok lane_28 : N D).bind fun x => (.ok firsts_here_20 : N D).bind fun y => dNotInD x y : N D).bind N.tst : N Bool).bind fun x => if x = true then (N.seq (((((N.ne (m_law_error ((.ok lanes_7 : N D).bind fun x => (.ok s17.1 : N D).bind fun y => (.ok lane_28 : N D).bind fun z => m_gone_standing x y z : N D)) : N D) : N D).bind fun x => (((.ok (.str "Refused") : N D).bind fun x => ((.ok lane_28 : N D).bind fun x => (.ok [] : N (List D)).bind fun xs => .ok (x :: xs) : N (List D)).bind fun xs => .ok (x :: xs) : N (List D)).bind fun xs => (N.le1 xs).bind fun _ => .ok (.tup xs) : N D).bind fun y => dNeD x y : N D).bind N.tst : N Bool).bind fun x => if x = true then ((.ok (.bl false) : N D).bind fun d => .ok (.rt d)) else (.ok (.nx (())))) fun (j30 : Unit) => N.seq (((((.ok firsts_here_20 : N D).bind fun x => ((.ok [] : N (List D)).bind fun xs => (N.le1 xs).bind fun _ => .ok (.lst xs) : N D).bind fun y => dNeD x y : N D).bind N.tst : N Bool).bind fun x => if x = true then ((.ok source_here_1 : N D).bind fun x => (.ok firsts_here_20 : N D).bind fun y => m_law_of x y) else ((.ok (.int 1) : N D).bind dNeg) : N D).bind fun d => .ok (.nx d)) fun (lane_31 : D) => .ok (.nx (lane_31))) else (.ok (.nx (lane_28)))) fun (j29 : D) => N.seq ((((.ok j29 : N D).bind fun x => (.ok (.int 0) : N D).bind fun y => dGe x y : N D).bind N.tst : N Bool).bind fun x => if x = true then (N.seq (((.ok s17.1 : N D).bind fun x => (.ok j29 : N D).bind fun y => (.ok (.int 0) : N D).bind fun z => m_law_gone x y z : N D).bind fun d => .ok (.nx d)) fun (due_33 : D) => N.seq ((((((.ok j29 : N D).bind fun x => ((.ok s17.1 : N D).bind fun x => ((.ok lanes_7 : N D).bind fun x => (.ok [] : N (List D)).bind fun xs => .ok (x :: xs) : N (List D)).bind fun xs => .ok (x :: xs) : N (List D)).bind fun xs => .ok (x :: xs) : N (List D)).bind fun es => (N.asrt (es.length = 3)).bind fun _ => app3 m_gone_standing (gD_gone_standing_0_lane_standing_lanes [] es) : N D).bind fun x => (.ok due_33 : N D).bind fun y => dNeD x y : N D).bind N.tst : N Bool).bind fun x => if x = true then ((.ok (.bl false) : N D).bind fun d => .ok (.rt d)) else (.ok (.nx (())))) fun (j34 : Unit) => N.seq ((.ok due_33 : N D).bind fun x => ((.ok s17.2 : N D).bind fun x => (.ok (.int 1) : N D).bind fun y => dSub x y : N D).bind fun y => .ok (.nx (x, y))) fun (b35 : D × D) => .ok (.nx ((b35.1, b35.2)))) else (.ok (.nx ((s17.1, s17.2))))) fun (j32 : D × D) => .ok (.nx ((j32.1, j32.2)))) po_cx rfl (src_rng1 T.b_range de_int) (pat_name 8) (pg_name (i := 8) sc_law.nd rfl (by first | exact Or.inl rfl | exact Or.inr rfl)) (by repeat (first | exact Wk.nil | exact Wk.same (Wk.refl _) | apply Wk.same | apply Wk.un)) (fun y18 s17 => (ds_cons (ds_if (sl := fun (j19 : Unit) => [.dat (a_law_script), .dat (source_here_1), .dat (first_2), .dat (many_4), .dat (lanes_7), .dat (s17.1), .dat (given_12), .dat (s17.2), .dat (y18), .dat (b6.1), .dat (b6.2), .un, .un, .un, .un, .un, .un, .un]) (dt_cmp op_ne r2_NeS dNeS_tot (de_repr hgd hr rfl T.b_repr (de_callKw0 (DfG.cal G_goings_left_0_standing_lanes (hr.mono (by decide))) tk (Wk.un' rfl) (dk_cons (de_var (i := 5) (d := s17.1)) (dk_cons (de_var (i := 4) (d := lanes_7)) dk_nil)))) (de_repr hgd hr rfl T.b_repr (de_var (i := 7) (d := s17.2))) (nomark _)) (ds_one (ds_ret de_bl)) (ds_nil (()))) (fun (j19 : Unit) => (ds_cons (ds_set (i := 11) sc_law.nd (de_call2 (Df.cal C_law_firsts (hr.mono (by decide))) tk (Wk.un' rfl) (de_var (i := 9) (d := b6.1)) (de_var (i := 5) (d := s17.1)))) (fun (firsts_here_20 : D) => (ds_cons (ds_if (sl := fun (j25 : Unit) => [.dat (a_law_script), .dat (source_here_1), .dat (first_2), .dat (many_4), .dat (lanes_7), .dat (s17.1), .dat (given_12), .dat (s17.2), .dat (y18), .dat (b6.1), .dat (b6.2), .dat (firsts_here_20), .un, .un, .un, .un, .un, .un]) (dt_cmp (op_neD hr.units) r2_NeD dNeD_tot (de_callKw0 (DfG.cal G_possible_goings_0_standing_lanes (hr.mono (by decide))) tk (Wk.un' rfl) (dk_cons (de_lcG (own := [("_law_row", 14)]) (m := 18) rfl sc_law.nd (src_seq rfl (de_var (i := 5) (d := s17.1))) (pat_name 14) (blkOk_by (own := [("_law_row", 14)]) (N := N_law) (sc := defScope s_law) (by decide +kernel)) (fun _ _ _ _ _ => pg_name (i := 14) sc_law.nd rfl (Or.inl rfl)) (fun _ _ _ _ _ c23 => (dts_nil (y := ()))) (fun _ _ _ _ _ c23 => (de_lcG (own := [("_law_way_here", 16)]) (m := 18) rfl sc_law.nd (src_seq rfl (de_var (i := 14) (d := c23))) (pat_name 16) (blkOk_in (own := [("_law_way_here", 16)]) (N := N_law) (sc := defScope s_law) rfl (by decide +kernel)) (fun _ _ _ _ _ => pg_name (i := 16) sc_law.nd rfl (Or.inl rfl)) (fun _ _ _ _ _ c24 => (dts_nil (y := ()))) (fun _ _ _ _ _ c24 => (de_list rfl T.b_list (de_var (i := 16) (d := c24))))))) (dk_cons (de_var (i := 4) (d := lanes_7)) dk_nil))) (de_tuple rfl T.b_tuple (de_var (i := 11) (d := firsts_here_20))) (nomark _)) (ds_one (ds_ret de_bl)) (ds_nil (()))) (fun (j25 : Unit) => (ds_cons (ds_set (i := 12) sc_law.nd (de_call2 (Df.cal C_law_knot (hr.mono (by decide))) tk (Wk.un' rfl) (de_var (i := 9) (d := b6.1)) (de_var (i := 5) (d := s17.1)))) (fun (knot_here_26 : D) => (ds_cons (ds_if (sl := fun (j27 : Unit) => [.dat (a_law_script), .dat (source_here_1), .dat (first_2), .dat (many_4), .dat (lanes_7), .dat (s17.1), .dat (given_12), .dat (s17.2), .dat (y18), .dat (b6.1), .dat (b6.2), .dat (firsts_here_20), .dat (knot_here_26), .un, .un, .un, .un, .un]) (PW.pt (dw_or (dt_cmp op_ne r2_NeS dNeS_tot (de_repr hgd hr rfl T.b_repr (de_call2 (Df.cal C_find_knot (hr.mono (by decide))) tk (Wk.un' rfl) (de_var (i := 4) (d := lanes_7)) (de_var (i := 5) (d := s17.1)))) (de_repr hgd hr rfl T.b_repr (de_var (i := 12) (d := knot_here_26))) (nomark _)) (dw_or1 (PW.pt (dw_and (dt_isN (de_var (i := 12) (d := knot_here_26)) de_non) (dw_and (dt_cmp op_gt (r2_I0 fun _ _ _ => .bl _) (iOp_tot _) (de_var (i := 7) (d := s17.2)) de_int (nomark _)) (dw_and1 (dt_cmp (op_eqD hr.units) r2_EqD dEqD_tot (de_var (i := 11) (d := firsts_here_20)) (de_lst da_nil) (nomark _))))))))) (ds_one (ds_ret de_bl)) (ds_nil (()))) (fun (j27 : Unit) => (ds_cons (ds_set (i := 13) sc_law.nd (de_call2 (Df.cal C_law_any (hr.mono (by decide))) tk (Wk.un' rfl) (de_var (i := 1) (d := source_here_1)) (de_var (i := 3) (d := many_4)))) (fun (lane_28 : D) => (ds_cons (ds_if (sl := fun (j29 : D) => [.dat (a_law_script), .dat (source_here_1), .dat (first_2), .dat (many_4), .dat (lanes_7), .dat (s17.1), .dat (given_12), .dat (s17.2), .dat (y18), .dat (b6.1), .dat (b6.2), .dat (firsts_here_20), .dat (knot_here_26), .dat (j29), .un, .un, .un, .un]) (dt_cmp (op_notInDD hr (room65 hr)) r2_NotInD dNotInD_tot (de_var (i := 13) (d := lane_28)) (de_var (i := 11) (d := firsts_here_20)) rfl) (ds_cons (ds_if (sl := fun (j30 : Unit) => [.dat (a_law_script), .dat (source_here_1), .dat (first_2), .dat (many_4), .dat (lanes_7), .dat (s17.1), .dat (given_12), .dat (s17.2), .dat (y18), .dat (b6.1), .dat (b6.2), .dat (firsts_here_20), .dat (knot_here_26), .dat (lane_28), .un, .un, .un, .un]) (dt_cmp (op_neD hr.units) r2_NeD dNeD_tot (de_lam (k := 6) L_law_error TB rfl (hr.mono (by decide)) (LamX.lamS_by (sc := defScope s_law) (by decide +kernel)) (tl _ hT) (fun A outer s H E f c' B hr => have tk := takes_of rfl rfl rfl rfl; (de_call3 (Df.cal C_gone_standing (hr.mono (by decide))) tk (Wk.un' rfl) (de_var (i := 4) (d := lanes_7)) (de_var (i := 5) (d := s17.1)) (de_var (i := 13) (d := lane_28))))) (de_tup (da_cons de_str (da_cons (de_var (i := 13) (d := lane_28)) da_nil))) (nomark _)) (ds_one (ds_ret de_bl)) (ds_nil (()))) (fun (j30 : Unit) => (ds_cons (ds_set (i := 13) sc_law.nd (de_if (dt_cmp (op_neD hr.units) r2_NeD dNeD_tot (de_var (i := 11) (d := firsts_here_20)) (de_lst da_nil) (nomark _)) (de_call2 (Df.cal C_law_of (hr.mono (by decide))) tk (Wk.un' rfl) (de_var (i := 1) (d := source_here_1)) (de_var (i := 11) (d := firsts_here_20))) (de_neg de_int))) (fun (lane_31 : D) => (ds_nil (lane_31)))))) (ds_nil (lane_28))) (fun (j29 : D) => (ds_cons (ds_if (sl := fun (j32 : D × D) => [.dat (a_law_script), .dat (source_here_1), .dat (first_2), .dat (many_4), .dat (lanes_7), .dat (j32.1), .dat (given_12), .dat (j32.2), .dat (y18), .dat (b6.1), .dat (b6.2), .dat (firsts_here_20), .dat (knot_here_26), .dat (j29), .un, .un, .un, .un]) (dt_cmp op_ge (r2_I0 fun _ _ _ => .bl _) (iOp_tot _) (de_var (i := 13) (d := j29)) de_int (nomark _)) (ds_cons (ds_set (i := 15) sc_law.nd (de_call3 (Df.cal C_law_gone (hr.mono (by decide))) tk (Wk.un' rfl) (de_var (i := 5) (d := s17.1)) (de_var (i := 13) (d := j29)) de_int)) (fun (due_33 : D) => (ds_cons (ds_if (sl := fun (j34 : Unit) => [.dat (a_law_script), .dat (source_here_1), .dat (first_2), .dat (many_4), .dat (lanes_7), .dat (s17.1), .dat (given_12), .dat (s17.2), .dat (y18), .dat (b6.1), .dat (b6.2), .dat (firsts_here_20), .dat (knot_here_26), .dat (j29), .un, .dat (due_33), .un, .un]) (dt_cmp (op_neD hr.units) r2_NeD dNeD_tot (de_callKw0 (DfG.cal G_gone_standing_0_lane_standing_lanes (hr.mono (by decide))) tk (Wk.un' rfl) (dk_cons (de_var (i := 13) (d := j29)) (dk_cons (de_var (i := 5) (d := s17.1)) (dk_cons (de_var (i := 4) (d := lanes_7)) dk_nil)))) (de_var (i := 15) (d := due_33)) (nomark _)) (ds_one (ds_ret de_bl)) (ds_nil (()))) (fun (j34 : Unit) => (ds_cons (ds_parT (i := 5) (j := 7) rfl rfl sc_law.nd rfl rfl (by decide) (de_var (i := 15) (d := due_33)) (de_sub (de_var (i := 7) (d := s17.2)) de_int)) (fun (b35 : D × D) => (ds_nilW ((b35.1, b35.2)) (by repeat (first | exact Wk.nil | exact Wk.same (Wk.refl _) | apply Wk.same | apply Wk.un))))))))) (ds_nilW ((s17.1, s17.2)) (by repeat (first | exact Wk.nil | exact Wk.same (Wk.refl _) | apply Wk.same | apply Wk.un)))) (fun (j32 : D × D) => (ds_nilW ((j32.1, j32.2)) (by repeat (first | exact Wk.nil | exact Wk.same (Wk.refl _) | apply Wk.same | apply Wk.un))))))))))))))))))))) (fun (s17 : D × D) => (ds_one (ds_ret (de_call5 (Df.cal C_law_refusals_right (hr.mono (by decide))) tk (Wk.un' rfl) (de_var (i := 1) (d := source_here_1)) (de_var (i := 4) (d := lanes_7)) (de_var (i := 9) (d := b6.1)) (de_var (i := 10) (d := b6.2)) (de_var (i := 5) (d := s17.1))))))))))))))))))))))))))))))

end
end M

set_option Elab.async false
set_option linter.all false
set_option maxRecDepth 100000
set_option maxHeartbeats 4000000
namespace M
open PySem L2
/-! ### what is an index, a sequence -/
theorem isInt_int (i : Int) : m_is_integer (.int i) = .ok (.bl true) := by
  unfold m_is_integer
  simp [dIsi, tyN]
theorem isInt_non : m_is_integer .non = .ok (.bl false) := by
  unfold m_is_integer
  simp [dIsi, tyN]
theorem isInt_bl (b : Bool) : m_is_integer (.bl b) = .ok (.bl false) := by
  unfold m_is_integer
  simp [dIsi, tyN]
theorem isInt_str (b : Str) : m_is_integer (.str b) = .ok (.bl false) := by
  unfold m_is_integer
  simp [dIsi, tyN]
theorem isIx_int (i n : Int) : m_is_index (.int i) (.int n) = .ok (.bl (decide (0 ≤ i ∧ i < n))) := by
  unfold m_is_index
  by_cases h : 0 ≤ i
  · simp [dChain, isInt_int, dLe, dLt, iOp, h]
  · simp [dChain, isInt_int, dLe, dLt, iOp, h]
theorem isIx_no {d n : D} (h : m_is_integer d = .ok (.bl false)) : m_is_index d n = .ok (.bl false) := by
  unfold m_is_index
  simp [h]
theorem isIx_nat {i n : Nat} (h : i < n) : m_is_index (nD i) (nD n) = .ok (.bl true) := by
  unfold nD
  rw [isIx_int, decide_eq_true (by omega)]
theorem isSeq_t (xs : List D) : m_is_sequence (.tup xs) = .ok (.bl true) := by
  unfold m_is_sequence
  simp [dIsi2, tyN]
theorem isSeq_l (xs : List D) : m_is_sequence (.lst xs) = .ok (.bl true) := by
  unfold m_is_sequence
  simp [dIsi2, tyN]
theorem isSeq_non : m_is_sequence .non = .ok (.bl false) := by
  unfold m_is_sequence
  simp [dIsi2, tyN]
theorem isSeq_str (x : Str) : m_is_sequence (.str x) = .ok (.bl false) := by
  unfold m_is_sequence
  simp [dIsi2, tyN]
theorem isSeq_int (x : Int) : m_is_sequence (.int x) = .ok (.bl false) := by
  unfold m_is_sequence
  simp [dIsi2, tyN]
/-- a list or a tuple of these -/
def IsSeq (d : D) (xs : List D) : Prop := d = .tup xs ∨ d = .lst xs
theorem IsSeq.seq {d : D} {xs : List D} (h : IsSeq d xs) : m_is_sequence d = .ok (.bl true) := by
  rcases h with rfl | rfl
  · exact isSeq_t _
  · exact isSeq_l _
theorem IsSeq.len {d : D} {xs : List D} (h : IsSeq d xs) : dLen d = .ok (.int xs.length) := by rcases h with rfl | rfl <;> rfl
theorem IsSeq.of {d : D} {xs : List D} (h : IsSeq d xs) : seqOf d = .ok xs := by rcases h with rfl | rfl <;> rfl
theorem IsSeq.en {d : D} {xs : List D} (h : IsSeq d xs) : enOf d = .ok xs := by rcases h with rfl | rfl <;> rfl
theorem IsSeq.tuple {d : D} {xs : List D} (h : IsSeq d xs) : dTuple d = .ok (.tup xs) := by rcases h with rfl | rfl <;> rfl
theorem IsSeq.list {d : D} {xs : List D} (h : IsSeq d xs) : dList d = .ok (.lst xs) := by rcases h with rfl | rfl <;> rfl
theorem IsSeq.ix {d : D} {xs : List D} (h : IsSeq d xs) {i : Nat} {y : D} (e : xs[i]? = some y) : dIx d (.int (i : Int)) = .ok y := by
  rcases h with rfl | rfl
  · exact ix_t e
  · exact ix_l e
theorem decs_id (ds : List D) : N.decs (fun d => some d) ds = .ok ds := by
  unfold N.decs
  have : decAll (fun d => some d) ds = some ds := by
    induction ds with
    | nil => rfl
    | cons d ds ih => simp only [decAll, ih]
  rw [this]
theorem decs_num (ds : List D) : N.decs dec2 (numD ds) = .ok ((numbered ds).map fun p => (.int p.1, p.2)) := by
  unfold N.decs numD
  generalize numbered ds = l
  have : decAll dec2 (l.map fun p => .tup [.int p.1, p.2]) = some (l.map fun p => (.int p.1, p.2)) := by
    induction l with
    | nil => rfl
    | cons d ds ih =>
      simp only [List.map_cons, decAll, dec2]
      rw [ih]
  rw [this]
end M

set_option Elab.async false
set_option linter.all false
set_option maxRecDepth 100000
set_option maxHeartbeats 4000000
namespace M
open PySem L2
/-! ### walks with numbers -/
def numP (ds : List D) : List (D × D) := (numbered ds).map fun p => (.int p.1, p.2)
theorem numP_eq (ds : List D) : numP ds = ds.zipIdx.map fun p => (.int ((p.2 : Nat) : Int), p.1) := by
  unfold numP numbered
  rw [List.map_map]
  rfl
theorem numP_mem {ds : List D} {x : D × D} (h : x ∈ numP ds) : ∃ i : Nat, x.1 = .int (i : Int) ∧ ds[i]? = some x.2 := by
  rw [numP_eq] at h
  obtain ⟨p, hp, rfl⟩ := List.mem_map.mp h
  obtain ⟨d, i⟩ := p
  exact ⟨i, rfl, List.mem_zipIdx_iff_getElem?.mp hp⟩
theorem numP_split (pre post : List D) (x : D) : ∃ B, numP (pre ++ x :: post) = numP pre ++ (.int (pre.length : Int), x) :: B := by
  refine ⟨(post.zipIdx (pre.length + 1)).map fun p => (.int ((p.2 : Nat) : Int), p.1), ?_⟩
  rw [numP_eq, numP_eq, List.zipIdx_append, List.zipIdx_cons, List.map_append, List.map_cons]
  simp
theorem loopU_ok {α : Type} {body : α → Unit → N (Fl Unit Unit)} {β : Type} (xs : List α) (h : ∀ x ∈ xs, body x () = .ok (.nx ())) : (N.loop (β := β) body xs ()) = .ok (.nx ()) := by
  induction xs with
  | nil => rfl
  | cons x xs ih => rw [N.loop_go (h x List.mem_cons_self), ih fun y hy => h y (List.mem_cons_of_mem _ hy)]
theorem loopU_err {α : Type} {body : α → Unit → N (Fl Unit Unit)} {β : Type} {x : α} {c : Nat} {d : D} (xs ys : List α) (h : ∀ x ∈ xs, body x () = .ok (.nx ())) (hx : body x () = .err c d) : (N.loop (β := β) body (xs ++ x :: ys) ()) = .err c d := by
  induction xs with
  | nil => exact N.loop_err hx
  | cons z xs ih =>
    rw [List.cons_append, N.loop_go (h z List.mem_cons_self)]
    exact ih fun y hy => h y (List.mem_cons_of_mem _ hy)
/-! ### rooms -/
def roomOk (d : D) : Prop := ∃ r : Nat, d = nD r ∧ 1 ≤ r ∧ r ≤ 9
/-- what is no room -/
def roomOdd (d : D) : Prop := m_is_integer d = .ok (.bl false) ∨ ∃ i : Int, d = .int i ∧ (i < 1 ∨ 9 < i)
theorem needRooms_ok {d : D} {xs : List D} (h : IsSeq d xs) (h1 : xs.length ≤ 12) (h2 : ∀ x ∈ xs, roomOk x) : m_need_rooms d = .ok (.tup xs) := by
  unfold m_need_rooms
  simp only [N.ok_bind, h.seq, h.len, h.en, h.tuple, N.tst_bl, dGt, iOp_ok, N.ok_seq, decs_num, N.bind_seq, Bool.not_true, N.ite_f]
  rw [decide_eq_false (by omega)]
  simp only [N.ok_bind, N.tst_bl, N.ite_f, N.ok_seq]
  rw [show ((numbered xs).map fun p => ((.int p.1 : D), p.2)) = numP xs from rfl, loopU_ok]
  · rfl
  · intro x hx
    obtain ⟨i, e1, e2⟩ := numP_mem hx
    obtain ⟨r, e3, r1, r2⟩ := h2 _ (List.mem_of_getElem? e2)
    rw [e3]
    unfold nD
    simp only [N.ok_bind, isInt_int, N.tst_bl, Bool.not_true, N.ite_f, dChain, dLe, iOp_ok]
    rw [decide_eq_true (show (1 : Int) ≤ (r : Int) by omega), decide_eq_true (show (r : Int) ≤ 9 by omega)]
    rfl
theorem needRooms_odd {d : D} {pre post : List D} {x : D} (h : IsSeq d (pre ++ x :: post)) (h1 : (pre ++ x :: post).length ≤ 12) (h2 : ∀ y ∈ pre, roomOk y) (hx : roomOdd x) : m_need_rooms d = .err 2 (.int (pre.length : Int)) := by
  obtain ⟨B, hB⟩ := numP_split pre post x
  unfold m_need_rooms
  simp only [N.ok_bind, h.seq, h.len, h.en, h.tuple, N.tst_bl, dGt, iOp_ok, N.ok_seq, decs_num, N.bind_seq, Bool.not_true, N.ite_f]
  rw [decide_eq_false (by omega)]
  simp only [N.ok_bind, N.tst_bl, N.ite_f, N.ok_seq]
  rw [show ((numbered (pre ++ x :: post)).map fun p => ((.int p.1 : D), p.2)) = numP (pre ++ x :: post) from rfl, hB, loopU_err (c := 2) (d := .int (pre.length : Int))]
  · rfl
  · intro x hx
    obtain ⟨i, e1, e2⟩ := numP_mem hx
    obtain ⟨r, e3, r1, r2⟩ := h2 _ (List.mem_of_getElem? e2)
    rw [e3]
    unfold nD
    simp only [N.ok_bind, isInt_int, N.tst_bl, Bool.not_true, N.ite_f, dChain, dLe, iOp_ok]
    rw [decide_eq_true (show (1 : Int) ≤ (r : Int) by omega), decide_eq_true (show (r : Int) ≤ 9 by omega)]
    rfl
  · rcases hx with hx | ⟨i, rfl, hx⟩
    · simp only [N.ok_bind, hx, N.tst_bl, Bool.not_false, N.ite_t]
      rfl
    · simp only [N.ok_bind, isInt_int, N.tst_bl, Bool.not_true, N.ite_f, dChain, dLe, iOp_ok]
      by_cases z : (1 : Int) ≤ i
      · rw [decide_eq_true z, decide_eq_false (show ¬ i ≤ 9 by omega)]
        rfl
      · rw [decide_eq_false z]
        rfl
theorem needRooms_many {d : D} {xs : List D} (h : IsSeq d xs) (h1 : 12 < xs.length) : m_need_rooms d = .err 2 (.int (-1)) := by
  unfold m_need_rooms
  simp only [N.ok_bind, h.seq, h.len, N.tst_bl, dGt, iOp_ok, Bool.not_true, N.ite_f]
  rw [decide_eq_true (by omega)]
  rfl
end M

set_option Elab.async false
set_option linter.all false
set_option maxRecDepth 100000
set_option maxHeartbeats 4000000
namespace M
open PySem L2
/-! ### goings -/
abbrev Go := Nat × Nat
def gD (p : Go) : D := .tup [nD p.1, nD p.2]
def goL (p : Go) : List D := [nD p.1, nD p.2]
def lexLt (p q : Go) : Prop := p.1 < q.1 ∨ (p.1 = q.1 ∧ p.2 < q.2)
def ip (p : Go) : Int × Int := ((p.1 : Int), (p.2 : Int))
theorem ip_inj {p q : Go} (h : ip p = ip q) : p = q := by
  obtain ⟨a, b⟩ := p
  obtain ⟨c, d⟩ := q
  unfold ip at h
  simp only [Prod.mk.injEq] at h ⊢
  omega
theorem enc_go : Enc 1 gD := by
  have h : Enc 1 (fun xs : List Nat => D.tup (xs.map nD)) := enc_nat.tup
  refine ⟨fun p => h.py [p.1, p.2], fun p q a b e1 e2 => ?_⟩
  rw [h.ev [p.1, p.2] [q.1, q.2] a b e1 e2]
  obtain ⟨x, y⟩ := p
  obtain ⟨z, w⟩ := q
  simp
def goOk (n : Nat) (p : Go) : Prop := p.1 < n ∧ p.2 < n ∧ p.1 ≠ p.2
theorem ne_nat (a b : Nat) : dNeD (nD a) (nD b) = .ok (.bl (!decide (a = b))) := enc_nat.neD (by decide) a b
theorem isGo_ok {y : D} {p : Go} {n : Nat} (h : IsSeq y (goL p)) (g : goOk n p) : m_is_going y (nD n) = .ok (.bl true) := by
  have i0 : dIx y (.int 0) = .ok (nD p.1) := h.ix (i := 0) rfl
  have i1 : dIx y (.int 1) = .ok (nD p.2) := h.ix (i := 1) rfl
  unfold m_is_going
  simp only [N.ok_bind, h.seq, h.len, N.tst_bl, Bool.not_true, N.ite_f, i0, i1, isIx_nat g.1, isIx_nat g.2.1, N.ite_t, ne_nat, N.bind_seq]
  rw [decide_eq_false g.2.2]
  simp [dNeS, sEq, goL]
/-- what is no going -/
def goOdd (n : Nat) (d : D) : Prop := m_is_going d (nD n) = .ok (.bl false)
theorem goOdd_no {n : Nat} {d : D} (h : m_is_sequence d = .ok (.bl false)) : goOdd n d := by
  unfold goOdd m_is_going
  simp only [N.ok_bind, h, N.tst_bl, Bool.not_false, N.ite_t, N.bind_seq]
  rfl
theorem goOdd_len {n : Nat} {d : D} {xs : List D} (h : IsSeq d xs) (hl : xs.length ≠ 2) : goOdd n d := by
  unfold goOdd m_is_going
  simp only [N.ok_bind, h.seq, h.len, N.tst_bl, Bool.not_true, N.ite_f, N.bind_seq, dNeS, sEq]
  have : ¬ ((xs.length : Int) = 2) := by omega
  simp [this]
theorem goOdd_two {n : Nat} {d a b : D} (h : IsSeq d [a, b]) (hx : m_is_index a (nD n) = .ok (.bl false) ∨ (m_is_index a (nD n) = .ok (.bl true) ∧ m_is_index b (nD n) = .ok (.bl false))) : goOdd n d := by
  have i0 : dIx d (.int 0) = .ok a := h.ix (i := 0) rfl
  have i1 : dIx d (.int 1) = .ok b := h.ix (i := 1) rfl
  unfold goOdd m_is_going
  rcases hx with hx | ⟨hx, hy⟩
  · simp [h.seq, h.len, i0, i1, hx, dNeS, sEq]
  · simp [h.seq, h.len, i0, i1, hx, hy, dNeS, sEq]
theorem goOdd_same {n : Nat} {d : D} {a : Nat} (h : IsSeq d [nD a, nD a]) (hx : a < n) : goOdd n d := by
  have i0 : dIx d (.int 0) = .ok (nD a) := h.ix (i := 0) rfl
  have i1 : dIx d (.int 1) = .ok (nD a) := h.ix (i := 1) rfl
  unfold goOdd m_is_going
  simp [h.seq, h.len, i0, i1, isIx_nat hx, dNeS, sEq, ne_nat]
/-! the goings that were found -/
def kv (p : Go) : List Key × D := ([.inl (p.1 : Int), .inl (p.2 : Int)], .bl true)
def insG (ks : List Go) (p : Go) : List Go := if p ∈ ks then ks else ks ++ [p]
theorem kv_inj {p q : Go} (h : (kv p).1 = (kv q).1) : p = q := by
  obtain ⟨a, b⟩ := p
  obtain ⟨c, d⟩ := q
  unfold kv at h
  simp only [List.cons.injEq, Sum.inl.injEq, and_true] at h
  simp only [Prod.mk.injEq]
  omega
theorem dput_kv (ks : List Go) (p : Go) : dput (ks.map kv) (kv p).1 (.bl true) = (insG ks p).map kv := by
  unfold dput insG
  by_cases h : p ∈ ks
  · have e1 : ((ks.map kv).any fun x => decide (x.1 = (kv p).1)) = true := List.any_eq_true.mpr ⟨kv p, List.mem_map.mpr ⟨p, h, rfl⟩, by simp⟩
    rw [if_pos e1, if_pos h, List.map_map]
    refine List.map_congr_left fun q _ => ?_
    show (if (kv q).1 = (kv p).1 then ((kv q).1, D.bl true) else kv q) = kv q
    by_cases z : (kv q).1 = (kv p).1
    · rw [if_pos z]; rfl
    · rw [if_neg z]
  · have e1 : ¬ ((ks.map kv).any fun x => decide (x.1 = (kv p).1)) = true := fun z => by
      obtain ⟨x, hx, hd⟩ := List.any_eq_true.mp z
      obtain ⟨q, hq, rfl⟩ := List.mem_map.mp hx
      exact h (kv_inj (of_decide_eq_true hd) ▸ hq)
    rw [if_neg e1, if_neg h, List.map_append]
    rfl
theorem insG_len (ks : List Go) (p : Go) : (insG ks p).length ≤ ks.length + 1 := by
  unfold insG
  split
  · omega
  · simp
theorem insG_nodup {ks : List Go} {p : Go} (h : ks.Nodup) : (insG ks p).Nodup := by
  unfold insG
  split
  · exact h
  · rename_i z
    refine List.nodup_append.mpr ⟨h, by simp, fun a ha b hb => ?_⟩
    rw [List.mem_singleton.mp hb]
    exact fun y => z (y ▸ ha)
theorem insG_mem {ks : List Go} {p q : Go} : q ∈ insG ks p ↔ q ∈ ks ∨ q = p := by
  unfold insG
  split
  · rename_i z
    constructor
    · exact .inl
    · rintro (h | rfl)
      · exact h
      · exact z
  · simp
def allG (ps ks : List Go) : List Go := ps.foldl insG ks
theorem allG_nodup : ∀ (ps ks : List Go), ks.Nodup → (allG ps ks).Nodup
  | [], ks, h => h
  | p :: ps, ks, h => allG_nodup ps (insG ks p) (insG_nodup h)
theorem allG_mem : ∀ (ps ks : List Go) (q : Go), q ∈ allG ps ks ↔ q ∈ ks ∨ q ∈ ps
  | [], ks, q => by simp [allG]
  | p :: ps, ks, q => by
    show q ∈ allG ps (insG ks p) ↔ _
    rw [allG_mem ps (insG ks p) q, insG_mem, List.mem_cons, or_assoc]
theorem any_uniq {α : Type} {p : α → Prop} {a : α} (h : p a) (u : ∀ b, p b → b = a) : N.any p = .ok a := N.eq_of fun k e => ⟨fun q => q a h, fun q b hb => by rw [u b hb]; exact q⟩
theorem pairs_go : ∀ ks : List Go, pairsD (ks.map gD) = some (ks.map ip)
  | [] => rfl
  | p :: ks => by
    show (pairsD (ks.map gD)).map (fun ps => ip p :: ps) = _
    rw [pairs_go ks]
    rfl
theorem sort_go {ks gs : List Go} (hk : ks.Nodup) (hs : gs.Pairwise lexLt) (hm : ∀ p, p ∈ ks ↔ p ∈ gs) : dSortP (.lst (ks.map gD)) = .ok (.lst (gs.map gD)) := by
  have hg : gs.Nodup := hs.imp fun {a b} h e => by
    subst e
    unfold lexLt at h
    omega
  have perm : gs.Perm ks := (List.perm_ext_iff_of_nodup hg hk).mpr fun p => (hm p).symm
  have sg : (gs.map ip).Pairwise lexLe := List.pairwise_map.mpr (hs.imp fun {a b} h => by
    unfold lexLt at h
    unfold lexLe ip
    simp only
    omega)
  unfold dSortP
  simp only [pairs_go]
  rw [any_uniq (a := gs.map ip) ⟨perm.map ip, sg⟩ (fun b hb => List.Perm.eq_of_pairwise (le := lexLe) (fun x y _ _ h1 h2 => by
    unfold lexLe at h1 h2
    have e1 : x.1 = y.1 := by omega
    have e2 : x.2 = y.2 := by omega
    exact Prod.ext e1 e2) hb.2 sg (hb.1.trans (perm.map ip).symm))]
  show N.ok (D.lst ((gs.map ip).map pD)) = _
  rw [List.map_map]
  rfl
theorem tkey_go (p : Go) : tkey (.tup [nD p.1, nD p.2]) = .ok (kv p).1 := rfl
theorem goLoop {n : Nat} {β : Type} {body : D × D → List (List Key × D) → N (Fl (List (List Key × D)) (List (List Key × D)))} : ∀ (ys : List (D × D)) (ps : List Go) (ks : List Go) (t0 : List (List Key × D)), t0 = ks.map kv → ys.length = ps.length → (∀ (i : Nat) y p, ys[i]? = some y → ps[i]? = some p → IsSeq y.2 (goL p) ∧ goOk n p) → ks.length + ps.length < sizeLine →
    (∀ y p t, IsSeq y.2 (goL p) → goOk n p → t.length < sizeLine → body y t = .ok (.nx (dput t (kv p).1 (.bl true)))) → (N.loop (β := β) body ys t0) = .ok (.nx ((allG ps ks).map kv))
  | [], [], ks, _, e, _, _, _, hb => by subst e; rfl
  | [], p :: ps, ks, _, _, h, _, _, hb => by simp at h
  | y :: ys, [], ks, _, _, h, _, _, hb => by simp at h
  | y :: ys, p :: ps, ks, _, e0, hl, h, hz, hb => by
    subst e0
    obtain ⟨h1, h2⟩ := h 0 y p rfl rfl
    have e := hb y p (ks.map kv) h1 h2 (by rw [List.length_map]; simp at hz; omega)
    rw [dput_kv] at e
    rw [N.loop_go e]
    exact goLoop ys ps (insG ks p) _ rfl (by simpa using hl) (fun i y p e1 e2 => h (i + 1) y p (by simpa using e1) (by simpa using e2)) (by have := insG_len ks p; simp at hz; omega) hb
theorem goLoopE {n : Nat} {β : Type} {x : D × D} {c : Nat} {d : D} {body : D × D → List (List Key × D) → N (Fl (List (List Key × D)) (List (List Key × D)))} : ∀ (ys zs : List (D × D)) (ps : List Go) (ks : List Go) (t0 : List (List Key × D)), t0 = ks.map kv → ys.length = ps.length → (∀ (i : Nat) y p, ys[i]? = some y → ps[i]? = some p → IsSeq y.2 (goL p) ∧ goOk n p) → ks.length + ps.length < sizeLine →
    (∀ y p t, IsSeq y.2 (goL p) → goOk n p → t.length < sizeLine → body y t = .ok (.nx (dput t (kv p).1 (.bl true)))) → (∀ t, body x t = .err c d) → (N.loop (β := β) body (ys ++ x :: zs) t0) = .err c d
  | [], zs, [], ks, _, e, _, _, _, hb, hx => N.loop_err (hx _)
  | [], zs, p :: ps, ks, _, _, h, _, _, hb, hx => by simp at h
  | y :: ys, zs, [], ks, _, _, h, _, _, hb, hx => by simp at h
  | y :: ys, zs, p :: ps, ks, _, e0, hl, h, hz, hb, hx => by
    subst e0
    obtain ⟨h1, h2⟩ := h 0 y p rfl rfl
    have e := hb y p (ks.map kv) h1 h2 (by rw [List.length_map]; simp at hz; omega)
    rw [dput_kv] at e
    rw [List.cons_append, N.loop_go e]
    exact goLoopE ys zs ps (insG ks p) _ rfl (by simpa using hl) (fun i y p e1 e2 => h (i + 1) y p (by simpa using e1) (by simpa using e2)) (by have := insG_len ks p; simp at hz; omega) hb hx
theorem numP_get {ds : List D} {i : Nat} {y : D × D} (h : (numP ds)[i]? = some y) : y.1 = .int (i : Int) ∧ ds[i]? = some y.2 := by
  rw [numP_eq, List.getElem?_map, List.getElem?_zipIdx] at h
  cases e : ds[i]? with
  | none => rw [e] at h; simp at h
  | some x =>
    rw [e] at h
    simp at h
    subst h
    exact ⟨rfl, rfl⟩
theorem numP_len (ds : List D) : (numP ds).length = ds.length := by rw [numP_eq, List.length_map, List.length_zipIdx]
theorem needGoings_ok {d : D} {xs : List D} {ps gs : List Go} {n : Nat} (h : IsSeq d xs) (hl : xs.length = ps.length) (hx : ∀ (i : Nat) y p, xs[i]? = some y → ps[i]? = some p → IsSeq y (goL p) ∧ goOk n p) (hz : ps.length < 1000) (hs : gs.Pairwise lexLt) (hm : ∀ p, p ∈ ps ↔ p ∈ gs) :
    m_need_goings d (nD n) = .ok (.tup (gs.map gD)) := by
  have sz : 1000 ≤ sizeLine := by rw [sizeLine_eq]; decide
  unfold m_need_goings
  simp only [N.ok_bind, h.seq, h.en, N.tst_bl, N.ok_seq, decs_num, N.bind_seq, Bool.not_true, N.ite_f]
  rw [show ((numbered xs).map fun p => ((.int p.1 : D), p.2)) = numP xs from rfl]
  rw [goLoop (n := n) (numP xs) ps [] [] rfl (by rw [numP_len]; exact hl) (fun i y p e1 e2 => hx i y.2 p (numP_get e1).2 e2) (by simp; omega) (fun y p t h g hz => by
    have i0 : dIx y.2 (.int 0) = .ok (nD p.1) := h.ix (i := 0) rfl
    have i1 : dIx y.2 (.int 1) = .ok (nD p.2) := h.ix (i := 1) rfl
    simp only [N.ok_bind, isGo_ok h g, N.tst_bl, Bool.not_true, N.ite_f, N.ok_seq, i0, i1]
    rw [N.le1_of (by have := size64; simp; omega)]
    simp only [N.ok_bind, tkey_go]
    rw [N.asrt_of hz]
    rfl)]
  simp only [N.ok_seq]
  have e : ((allG ps []).map kv).map (fun kv => D.tup (kv.1.map keyD)) = (allG ps []).map gD := by rw [List.map_map]; rfl
  rw [e]
  rw [sort_go (gs := gs) (allG_nodup ps [] List.nodup_nil) hs (fun p => by rw [allG_mem]; simp [hm])]
  rfl
theorem needGoings_odd {d : D} {pre post : List D} {x : D} {ps : List Go} {n : Nat} (h : IsSeq d (pre ++ x :: post)) (hl : pre.length = ps.length) (hx : ∀ (i : Nat) y p, pre[i]? = some y → ps[i]? = some p → IsSeq y (goL p) ∧ goOk n p) (hz : ps.length < 1000) (ho : goOdd n x) :
    m_need_goings d (nD n) = .err 0 (.int (pre.length : Int)) := by
  have sz : 1000 ≤ sizeLine := by rw [sizeLine_eq]; decide
  obtain ⟨B, hB⟩ := numP_split pre post x
  unfold m_need_goings
  simp only [N.ok_bind, h.seq, h.en, N.tst_bl, N.ok_seq, decs_num, N.bind_seq, Bool.not_true, N.ite_f]
  rw [show ((numbered (pre ++ x :: post)).map fun p => ((.int p.1 : D), p.2)) = numP (pre ++ x :: post) from rfl, hB]
  rw [goLoopE (n := n) (x := (.int (pre.length : Int), x)) (c := 0) (d := .int (pre.length : Int)) (numP pre) B ps [] [] rfl (by rw [numP_len]; exact hl) (fun i y p e1 e2 => hx i y.2 p (numP_get e1).2 e2) (by simp; omega) (fun y p t h g hz => by
    have i0 : dIx y.2 (.int 0) = .ok (nD p.1) := h.ix (i := 0) rfl
    have i1 : dIx y.2 (.int 1) = .ok (nD p.2) := h.ix (i := 1) rfl
    simp only [N.ok_bind, isGo_ok h g, N.tst_bl, Bool.not_true, N.ite_f, N.ok_seq, i0, i1]
    rw [N.le1_of (by have := size64; simp; omega)]
    simp only [N.ok_bind, tkey_go]
    rw [N.asrt_of hz]
    rfl) (fun t => by
    unfold goOdd at ho
    simp only [N.ok_bind, ho, N.tst_bl, Bool.not_false, N.ite_t]
    rfl)]
  rfl
theorem needGoings_no {d : D} {n : D} (h : m_is_sequence d = .ok (.bl false)) : m_need_goings d n = .err 0 (.int (-1)) := by
  unfold m_need_goings
  simp only [N.ok_bind, h, N.tst_bl, N.bind_seq, Bool.not_false, N.ite_t]
  rfl
end M

set_option Elab.async false
set_option linter.all false
set_option maxRecDepth 100000
set_option maxHeartbeats 4000000
namespace M
open PySem L2
/-! ### pairs of lists, one beside the other -/
inductive All2 {α β : Type} (R : α → β → Prop) : List α → List β → Prop
  | nil : All2 R [] []
  | cons {a : α} {b : β} {as : List α} {bs : List β} : R a b → All2 R as bs → All2 R (a :: as) (b :: bs)
section
variable {α β γ : Type} {R : α → β → Prop}
theorem All2.length : ∀ {as : List α} {bs : List β}, All2 R as bs → as.length = bs.length
  | _, _, .nil => rfl
  | _, _, .cons _ h => by rw [List.length_cons, List.length_cons, All2.length h]
theorem All2.imp {S : α → β → Prop} (f : ∀ a b, R a b → S a b) : ∀ {as : List α} {bs : List β}, All2 R as bs → All2 S as bs
  | _, _, .nil => .nil
  | _, _, .cons r h => .cons (f _ _ r) (All2.imp f h)
theorem All2.of_map (f : β → α) (h : ∀ b, R (f b) b) : ∀ bs : List β, All2 R (bs.map f) bs
  | [] => .nil
  | b :: bs => .cons (h b) (All2.of_map f h bs)
theorem All2.of_mem (f : β → α) : ∀ bs : List β, (∀ b ∈ bs, R (f b) b) → All2 R (bs.map f) bs
  | [], _ => .nil
  | b :: bs, h => .cons (h b List.mem_cons_self) (All2.of_mem f bs fun c hc => h c (List.mem_cons_of_mem _ hc))
theorem All2.get {i : Nat} {a : α} {b : β} : ∀ {as : List α} {bs : List β}, All2 R as bs → as[i]? = some a → bs[i]? = some b → R a b
  | _, _, .nil, h1, h2 => by simp at h1
  | _, _, .cons r h, h1, h2 => by
    cases i with
    | zero => simp at h1 h2; subst h1 h2; exact r
    | succ i => exact h.get (i := i) (by simpa using h1) (by simpa using h2)
theorem All2.get1 {i : Nat} {a : α} : ∀ {as : List α} {bs : List β}, All2 R as bs → as[i]? = some a → ∃ b, bs[i]? = some b ∧ R a b
  | _, _, .nil, h1 => by simp at h1
  | _, _, .cons r h, h1 => by
    cases i with
    | zero => simp at h1; subst h1; exact ⟨_, rfl, r⟩
    | succ i => exact h.get1 (i := i) (by simpa using h1)
theorem All2.mapR {S : α → γ → Prop} (f : β → γ) (h : ∀ a b, R a b → S a (f b)) : ∀ {as : List α} {bs : List β}, All2 R as bs → All2 S as (bs.map f)
  | _, _, .nil => .nil
  | _, _, .cons r l => .cons (h _ _ r) (All2.mapR f h l)
theorem All2.memL {S : α → β → Prop} : ∀ {as : List α} {bs : List β}, All2 R as bs → (∀ a b, b ∈ bs → R a b → S a b) → All2 S as bs
  | _, _, .nil, _ => .nil
  | _, _, .cons r l, h => .cons (h _ _ List.mem_cons_self r) (l.memL fun a b hb => h a b (List.mem_cons_of_mem _ hb))
end
theorem comp_all2 {f : D → N D} : ∀ {ys zs : List D}, All2 (fun y z => f y = .ok z) ys zs → N.comp (fun _ => .ok true) f ys = .ok zs
  | _, _, .nil => rfl
  | _, _, .cons (a := a) (b := b) (as := as) r h => by
    show (N.ne (f a)).bind _ = _
    rw [r, comp_all2 h]
    rfl
theorem lcG_all2 {f : D → N D} {ys zs : List D} (h : All2 (fun y z => f y = .ok z) ys zs) (hz : ys.length ≤ sizeLine) : N.lcG (.ok ys) (fun d => some d) (fun _ => .ok true) f = .ok (.lst zs) := by
  unfold N.lcG
  simp only [N.ok_bind, decs_id]
  rw [N.fits_of hz, comp_all2 h]
  rfl
/-! ### maps -/
def mapD (rm : List Nat) (gs : List Go) : D := .obj 6 [.tup (rm.map nD), .tup (gs.map gD)]
theorem fld_rooms (rm gs) : dFld atT "rooms" (mapD rm gs) = .ok (.tup (rm.map nD)) := by with_unfolding_all rfl
theorem fld_goings (rm gs) : dFld atT "goings" (mapD rm gs) = .ok (.tup (gs.map gD)) := by with_unfolding_all rfl
theorem init_is {d1 d2 : D} {rm : List Nat} {gs : List Go} (h1 : m_need_rooms d1 = .ok (.tup (rm.map nD))) (h2 : m_need_goings d2 (nD rm.length) = .ok (.tup (gs.map gD))) : m_LaneMap_init d1 d2 = .ok (mapD rm gs) := by
  unfold m_LaneMap_init
  simp only [N.ok_bind, h1, N.bind_seq]
  rw [N.asrt_of (by decide)]
  simp only [N.ok_bind, N.ok_seq]
  have hl : List.lookup ("rooms" : Str) (putD ("rooms" : Str) (D.tup (rm.map nD)) []) = some (D.tup (rm.map nD)) := by with_unfolding_all rfl
  simp only [hl]
  simp only [N.ok_bind, dLen, items, List.length_map]
  rw [show (D.int (rm.length : Int)) = nD rm.length from rfl, h2]
  simp only [N.ok_bind]
  rw [N.asrt_of (p := (putD ("rooms" : Str) (D.tup (rm.map nD)) []).length < 1000) (show 1 < 1000 by decide)]
  simp only [N.ok_bind, N.ok_seq]
  unfold N.made
  simp only [N.ok_bind]
  rw [N.asrt_of (by with_unfolding_all rfl)]
  rfl
theorem init_rooms {d1 d2 : D} {c : Nat} {x : D} (h1 : m_need_rooms d1 = .err c x) : m_LaneMap_init d1 d2 = .err c x := by
  unfold m_LaneMap_init
  simp only [N.ok_bind, h1, N.bind_seq]
  rfl
theorem init_goings {d1 d2 : D} {rm : List Nat} {c : Nat} {x : D} (h1 : m_need_rooms d1 = .ok (.tup (rm.map nD))) (h2 : m_need_goings d2 (nD rm.length) = .err c x) : m_LaneMap_init d1 d2 = .err c x := by
  unfold m_LaneMap_init
  simp only [N.ok_bind, h1, N.bind_seq]
  rw [N.asrt_of (by decide)]
  simp only [N.ok_bind, N.ok_seq]
  have hl : List.lookup ("rooms" : Str) (putD ("rooms" : Str) (D.tup (rm.map nD)) []) = some (D.tup (rm.map nD)) := by with_unfolding_all rfl
  simp only [hl]
  simp only [N.ok_bind, dLen, items, List.length_map]
  rw [show (D.int (rm.length : Int)) = nD rm.length from rfl, h2]
  rfl
theorem isC_map (rm gs) : dIsC clT 6 (mapD rm gs) = .ok (.bl true) := by
  unfold dIsC mapD
  simp only []
  rw [N.asrt_of (by decide)]
  rfl
theorem eq_map (rm rm' gs gs') : m_LaneMap_eq (mapD rm gs) (mapD rm' gs') = .ok (.bl (decide (rm = rm') && decide (gs = gs'))) := by
  unfold m_LaneMap_eq
  simp only [N.ok_bind, isC_map, N.tst_bl, N.ite_t, fld_rooms, fld_goings]
  rw [enc_nat.tup.eqD (by decide), enc_go.tup.eqD (by decide)]
  by_cases h : rm = rm' <;> simp [h]
theorem eq_lst (rm gs xs) : m_LaneMap_eq (mapD rm gs) (.lst xs) = .ok (.bl false) := by
  unfold m_LaneMap_eq
  simp [dIsC, tyN]
theorem neI_map (rm rm' gs gs') : dNeI 6 m_LaneMap_eq (mapD rm gs) (mapD rm' gs') = .ok (.bl (!(decide (rm = rm') && decide (gs = gs')))) := by
  show (N.asrt _).bind _ = _
  rw [N.asrt_of ⟨rfl, rfl⟩]
  simp only [N.ok_bind, eq_map, N.ne_ok]
theorem eqI_lst (rm gs xs) : dEqI clT 6 m_LaneMap_eq (mapD rm gs) (.lst xs) = .ok (.bl false) := by
  show (N.asrt _).bind _ = _
  rw [N.asrt_of ⟨rfl, rfl⟩]
  simp only [N.ok_bind, eq_lst, N.ne_ok]
theorem needLanes_ok (rm gs) : m_need_lanes (mapD rm gs) = .ok .non := by
  unfold m_need_lanes
  simp [isC_map]
theorem needLanes_no {d : D} (h : dIsC clT 6 d = .ok (.bl false)) : m_need_lanes d = .err 2 (.int (-1)) := by
  unfold m_need_lanes
  simp only [N.ok_bind, h, N.tst_bl, Bool.not_false, N.ite_t]
  rfl
end M

set_option Elab.async false
set_option linter.all false
set_option maxRecDepth 100000
set_option maxHeartbeats 4000000
namespace M
open PySem L2
/-! ### standings -/
abbrev Way := List Nat
abbrev Rw := List Way
abbrev Std := List Rw
def wD (w : Way) : D := .tup (w.map nD)
def rowD (r : Rw) : D := .tup (r.map wD)
def stD (s : Std) : D := .tup (s.map rowD)
theorem enc_way : Enc 1 wD := enc_nat.tup
theorem enc_row : Enc 2 rowD := enc_way.tup
theorem enc_std : Enc 3 stD := enc_row.tup
theorem blsD_map : ∀ bs : List Bool, blsD (bs.map D.bl) = some bs
  | [] => rfl
  | b :: bs => by
    show (blsD (bs.map D.bl)).map (fun x => b :: x) = _
    rw [blsD_map bs]
    rfl
theorem dAll_map (bs : List Bool) : dAll (.lst (bs.map D.bl)) = .ok (.bl (bs.all id)) := by
  unfold dAll
  simp only [blsD_map]
def allowD (gs : List Go) : D := .dtt (gs.map fun p => (kv p).1) (gs.map fun _ => .bl true)
theorem allG_self : ∀ (gs ks : List Go), gs.Nodup → (∀ p ∈ gs, p ∉ ks) → allG gs ks = ks ++ gs
  | [], ks, _, _ => by simp [allG]
  | p :: gs, ks, h, hn => by
    show allG gs (insG ks p) = _
    have e : insG ks p = ks ++ [p] := by unfold insG; rw [if_neg (hn p List.mem_cons_self)]
    have h2 := List.nodup_cons.mp h
    rw [e, allG_self gs (ks ++ [p]) h2.2 (fun q hq z => by
      rcases List.mem_append.mp z with z | z
      · exact hn q (List.mem_cons_of_mem _ hq) z
      · rw [List.mem_singleton.mp z] at hq; exact h2.1 hq)]
    simp
theorem dcomp_go : ∀ (gs ks : List Go), N.dcomp (fun _ => .ok true) (fun d => .ok d) (fun _ => .ok (.bl true)) (gs.map gD) (ks.map kv) = .ok ((allG gs ks).map kv)
  | [], ks => rfl
  | p :: gs, ks => by
    show N.dcomp _ _ _ (gs.map gD) (dput (ks.map kv) (kv p).1 (.bl true)) = _
    rw [dput_kv]
    exact dcomp_go gs (insG ks p)
theorem allow_is {gs : List Go} (h : gs.Nodup) (hz : gs.length ≤ sizeLine) : N.dcG ((N.ok (.tup (gs.map gD)) : N D).bind seqOf) (fun d => some d) (fun _ => .ok true) (fun d => .ok d) (fun _ => .ok (.bl true)) = .ok (allowD gs) := by
  unfold N.dcG
  rw [show ((N.ok (.tup (gs.map gD)) : N D).bind seqOf) = .ok (gs.map gD) from rfl]
  simp only [N.ok_bind, decs_id]
  rw [N.fits_of (by rw [List.length_map]; exact hz)]
  simp only [N.ok_bind]
  have e := dcomp_go gs []
  rw [show ([] : List Go).map kv = [] from rfl] at e
  rw [e, allG_self gs [] h (by simp)]
  simp only [N.ok_bind, List.nil_append, List.map_map]
  rfl
theorem in_allow (gs : List Go) (p : Go) : dinB false (gD p) (allowD gs) = .ok (.bl (decide (p ∈ gs))) := by
  unfold dinB allowD
  show (kT (gD p)).bind _ = _
  rw [show kT (gD p) = .ok (kv p).1 from rfl]
  simp only [N.ok_bind]
  congr 2
  unfold memB
  rw [Bool.eq_iff_iff]
  simp only [Bool.false_bne, List.any_map, List.any_eq_true, Function.comp_apply, decide_eq_true_eq]
  constructor
  · rintro ⟨q, hq, e⟩
    rw [← kv_inj e]; exact hq
  · intro h
    exact ⟨p, h, rfl⟩
/-- the goings along a way -/
def adj : Nat → Way → List Go
  | _, [] => []
  | a, b :: w => (a, b) :: adj b w
theorem zip_adj : ∀ (a : Nat) (w : Way), zipL (nD a :: w.map nD) (w.map nD) = (adj a w).map gD
  | _, [] => rfl
  | a, b :: w => by
    show gD (a, b) :: zipL (nD b :: w.map nD) (w.map nD) = _
    rw [zip_adj b w]
    rfl
theorem adj_len : ∀ (a : Nat) (w : Way), (adj a w).length = w.length
  | _, [] => rfl
  | a, b :: w => by show (adj b w).length + 1 = w.length + 1; rw [adj_len b w]
theorem sz1000 : 1000 ≤ sizeLine := by rw [sizeLine_eq]; decide
theorem laneWay_eq {gs : List Go} {n lane : Nat} {y : D} {w : Way} (h : IsSeq y (w.map nD)) (hn : ∀ x ∈ w, x < n) (hz : w.length ≤ 8) : m_is_lane_way (allowD gs) (nD n) (nD lane) y = .ok (.bl ((adj lane w).all fun p => decide (p ∈ gs))) := by
  have s := sz1000
  have e1 : N.lcG (.ok (w.map nD)) (fun d => some d) (fun _ => .ok true) (fun x => m_is_index x (nD n)) = .ok (.lst ((w.map fun _ => true).map D.bl)) := by
    rw [List.map_map]
    refine lcG_all2 ?_ (by rw [List.length_map]; omega)
    have : ∀ w : Way, (∀ x ∈ w, x < n) → All2 (fun y z => m_is_index y (nD n) = .ok z) (w.map nD) (w.map (D.bl ∘ fun _ => true)) := fun w => by
      induction w with
      | nil => intro _; exact .nil
      | cons x w ih => intro h; exact .cons (isIx_nat (h x List.mem_cons_self)) (ih fun y hy => h y (List.mem_cons_of_mem _ hy))
    exact this w hn
  have e2 : N.lcG (.ok ((adj lane w).map gD)) (fun d => some d) (fun _ => .ok true) (fun x => dinB false x (allowD gs)) = .ok (.lst (((adj lane w).map fun p => decide (p ∈ gs)).map D.bl)) := by
    rw [List.map_map]
    refine lcG_all2 ?_ (by rw [List.length_map, adj_len]; omega)
    have : ∀ ps : List Go, All2 (fun y z => dinB false y (allowD gs) = .ok z) (ps.map gD) (ps.map (D.bl ∘ fun p => decide (p ∈ gs))) := fun ps => by
      induction ps with
      | nil => exact .nil
      | cons p ps ih => exact .cons (in_allow gs p) ih
    exact this _
  unfold m_is_lane_way
  simp only [N.ok_bind, h.seq, h.of, h.list, N.tst_bl, Bool.not_true, N.ite_f, N.bind_seq, e1, dAll_map, toI]
  rw [show ((w.map fun _ => true).all id) = true by simp]
  simp only [N.ok_bind, N.tst_bl, Bool.not_true, N.ite_f, N.ok_seq]
  rw [N.le1_of (by have := size64; simp; omega)]
  simp only [N.ok_bind, dCatL]
  rw [N.asrt_of (by rw [List.length_map]; simp; omega)]
  simp only [N.ok_bind, N.ok_seq, dSlL]
  rw [show cutD ([nD lane] ++ w.map nD) (some 1) none = w.map nD from cut_from _ 1]
  simp only [dZipL, N.ok_bind]
  rw [show [nD lane] ++ w.map nD = nD lane :: w.map nD from rfl, zip_adj, e2]
  simp only [N.ok_bind, dAll_map, N.bind_fin, N.rt_fin]
  congr 2
  rw [List.all_map]
  rfl
theorem laneWay_no {a n l : D} {y : D} (h : m_is_sequence y = .ok (.bl false)) : m_is_lane_way a n l y = .ok (.bl false) := by
  unfold m_is_lane_way
  simp only [N.ok_bind, h, N.tst_bl, Bool.not_false, N.ite_t, N.bind_seq]
  rfl
theorem laneWay_one {a n l : D} {y x : D} (h : IsSeq y [x]) (hx : m_is_index x n = .ok (.bl false)) : m_is_lane_way a n l y = .ok (.bl false) := by
  have s := sz1000
  have e1 : N.lcG (.ok [x]) (fun d => some d) (fun _ => .ok true) (fun x => m_is_index x n) = .ok (.lst ([false].map D.bl)) := lcG_all2 (.cons hx .nil) (by simp; omega)
  unfold m_is_lane_way
  simp only [N.ok_bind, h.seq, h.of, N.tst_bl, Bool.not_true, N.ite_f, N.bind_seq, e1, dAll_map]
  simp
end M

set_option Elab.async false
set_option linter.all false
set_option maxRecDepth 100000
set_option maxHeartbeats 4000000
namespace M
open PySem L2
structure MapOk (rm : List Nat) (gs : List Go) : Prop where
  len : rm.length ≤ 12
  room : ∀ r ∈ rm, 1 ≤ r ∧ r ≤ 9
  sort : gs.Pairwise lexLt
  go : ∀ p ∈ gs, goOk rm.length p
  many : gs.length ≤ 200
theorem MapOk.nodup {rm gs} (h : MapOk rm gs) : gs.Nodup := h.sort.imp fun {a b} h e => by
  subst e
  unfold lexLt at h
  omega
def wayOk (n : Nat) (gs : List Go) (i : Nat) (w : Way) : Prop := w.length ≤ 8 ∧ (∀ x ∈ w, x < n) ∧ ∀ p ∈ adj i w, p ∈ gs
structure Good (rm : List Nat) (gs : List Go) (st : Std) : Prop where
  len : st.length = rm.length
  row : ∀ (i : Nat) (r : Rw) (m : Nat), st[i]? = some r → rm[i]? = some m → r.length ≤ m ∧ ∀ w ∈ r, wayOk rm.length gs i w
def RepR (y : D) (r : Rw) : Prop := ∃ ys, IsSeq y ys ∧ All2 (fun y w => IsSeq y (w.map nD)) ys r
def RepS (d : D) (st : Std) : Prop := ∃ ys, IsSeq d ys ∧ All2 RepR ys st
theorem laneWay_ok {gs : List Go} {n lane : Nat} {y : D} {w : Way} (h : IsSeq y (w.map nD)) (g : wayOk n gs lane w) : m_is_lane_way (allowD gs) (nD n) (nD lane) y = .ok (.bl true) := by
  rw [laneWay_eq h g.2.1 g.1, List.all_eq_true.mpr fun p hp => decide_eq_true (g.2.2 p hp)]
theorem ways_ok {gs : List Go} {n i : Nat} {ys : List D} {r : Rw} (a : All2 (fun y w => IsSeq y (w.map nD)) ys r) (g : ∀ w ∈ r, wayOk n gs i w) (hz : ys.length ≤ 9) :
    N.lcG (.ok ys) (fun d => some d) (fun _ => .ok true) (fun u => m_is_lane_way (allowD gs) (nD n) (nD i) u) = .ok (.lst ((r.map fun _ => true).map D.bl)) := by
  have s := sz1000
  rw [List.map_map]
  exact lcG_all2 ((a.memL (S := fun y w => m_is_lane_way (allowD gs) (nD n) (nD i) y = .ok (.bl true)) fun y w hw h => laneWay_ok h (g w hw)).mapR (D.bl ∘ fun _ => true) fun y w h => h) (by omega)
theorem tuples_way {ys : List D} {r : Rw} (a : All2 (fun y w => IsSeq y (w.map nD)) ys r) (hz : ys.length ≤ 9) : N.lcG (.ok ys) (fun d => some d) (fun _ => .ok true) (fun c => dTuple c) = .ok (.lst (r.map wD)) := by
  have s := sz1000
  exact lcG_all2 (a.mapR wD fun y w h => h.tuple) (by omega)
theorem needStanding_ok {rm : List Nat} {gs : List Go} {st : Std} {d : D} (mo : MapOk rm gs) (g : Good rm gs st) (h : RepS d st) : m_need_standing (mapD rm gs) d = .ok (stD st) := by
  have s := sz1000
  obtain ⟨ys, hs, al⟩ := h
  have hl := al.length
  unfold m_need_standing
  simp only [N.ok_bind, needLanes_ok, N.bind_seq, N.ok_seq, hs.seq, hs.len, hs.of, hs.en, N.tst_bl, Bool.not_true, N.ite_f, fld_rooms, fld_goings, dNeS, sEq]
  rw [show dLen (.tup (rm.map nD)) = .ok (nD rm.length) by simp [dLen, items, nD]]
  simp only [N.ok_bind, nD]
  rw [decide_eq_true (show (ys.length : Int) = (rm.length : Int) by rw [hl, g.len])]
  have ea := allow_is mo.nodup (by have := mo.many; omega)
  simp only [N.ok_bind] at ea
  simp only [Bool.not_true, N.ite_f, N.ok_seq, N.ok_bind, N.tst_bl, ea]
  simp only [N.ok_bind, N.ok_seq, decs_num]
  rw [show ((numbered ys).map fun p => ((.int p.1 : D), p.2)) = numP ys from rfl, loopU_ok]
  · simp only [N.ok_seq]
    have e : N.lcG (.ok ys) (fun d => some d) (fun _ => .ok true) (fun c9 => ((N.lcG ((.ok c9 : N D).bind seqOf) (fun d => some d) (fun c10 : D => (.ok true : N Bool)) (fun c10 : D => ((.ok c10 : N D).bind dTuple : N D)) : N D).bind dTuple : N D)) = .ok (.lst (st.map rowD)) := by
      refine lcG_all2 ?_ (by have := mo.len; have := g.len; omega)
      have key : ∀ (i : Nat) y r, ys[i]? = some y → st[i]? = some r → ((N.lcG ((.ok y : N D).bind seqOf) (fun d => some d) (fun c10 : D => (.ok true : N Bool)) (fun c10 : D => ((.ok c10 : N D).bind dTuple : N D)) : N D).bind dTuple : N D) = .ok (rowD r) := fun i y r h1 h2 => by
        obtain ⟨zs, hz, a⟩ := al.get h1 h2
        obtain ⟨m, hm⟩ : ∃ m, rm[i]? = some m := by
          have := (List.getElem?_eq_some_iff.mp h2).1
          exact ⟨rm[i]'(by rw [← g.len]; exact this), List.getElem?_eq_getElem _⟩
        have hr := (g.row i r m h2 hm).1
        have hm9 := (mo.room m (List.mem_of_getElem? hm)).2
        simp only [N.ok_bind, hz.of]
        rw [tuples_way a (by rw [a.length]; omega)]
        rfl
      clear hl hs
      have gen : ∀ (ys : List D) (st : Std), All2 RepR ys st → (∀ (i : Nat) y r, ys[i]? = some y → st[i]? = some r → ((N.lcG ((.ok y : N D).bind seqOf) (fun d => some d) (fun c10 : D => (.ok true : N Bool)) (fun c10 : D => ((.ok c10 : N D).bind dTuple : N D)) : N D).bind dTuple : N D) = .ok (rowD r)) → All2 (fun y z => ((N.lcG ((.ok y : N D).bind seqOf) (fun d => some d) (fun c10 : D => (.ok true : N Bool)) (fun c10 : D => ((.ok c10 : N D).bind dTuple : N D)) : N D).bind dTuple : N D) = .ok z) ys (st.map rowD) := by
        intro ys st a
        induction a with
        | nil => intro _; exact .nil
        | cons r l ih => intro k; exact .cons (k 0 _ _ rfl rfl) (ih fun i y r h1 h2 => k (i + 1) y r (by simpa using h1) (by simpa using h2))
      exact gen ys st al key
    simp only [N.ok_bind] at e
    rw [e]
    rfl
  · intro x hx
    obtain ⟨i, e1, e2⟩ := numP_mem hx
    obtain ⟨r, h2, zs, hz, a⟩ := al.get1 e2
    obtain ⟨m, hm⟩ : ∃ m, rm[i]? = some m := by
      have := (List.getElem?_eq_some_iff.mp h2).1
      exact ⟨rm[i]'(by rw [← g.len]; exact this), List.getElem?_eq_getElem _⟩
    obtain ⟨hr, hw⟩ := g.row i r m h2 hm
    have hm9 := (mo.room m (List.mem_of_getElem? hm)).2
    have ix : dIx (.tup (rm.map nD)) (.int (i : Int)) = .ok (.int (m : Int)) := ix_t (by rw [List.getElem?_map, hm]; rfl)
    have al := a.length
    have wk : N.lcG (.ok zs) (fun d => some d) (fun _ => .ok true) (fun u => m_is_lane_way (allowD gs) (.int (rm.length : Int)) (.int (i : Int)) u) = .ok (.lst ((r.map fun _ => true).map D.bl)) := ways_ok (n := rm.length) (i := i) a hw (by omega)
    simp only [e1, N.ok_bind, hz.seq, hz.len, hz.of, N.tst_bl, Bool.not_true, N.ite_f, ix, dGt, iOp_ok]
    rw [decide_eq_false (show ¬ (m : Int) < (zs.length : Int) by omega)]
    simp only [N.ok_bind, N.tst_bl, N.ite_f, N.ok_seq, wk, dAll_map]
    rw [show ((r.map fun _ => true).all id) = true by simp]
    rfl
end M

set_option Elab.async false
set_option linter.all false
set_option maxRecDepth 100000
set_option maxHeartbeats 4000000
namespace M
open PySem L2
/-! ### who may go -/
def lenAt (st : Std) (i : Nat) : Nat := (st.getD i []).length
def canGo (rm : List Nat) (st : Std) (i : Nat) : Bool := match st.getD i [] with
  | [] => false
  | [] :: _ => true
  | (x :: _) :: _ => !decide (lenAt st x = rm.getD x 0)
def Stops (n : Nat) (st : Std) : Prop := ∀ r ∈ st, ∀ w ∈ r, ∀ x ∈ w, x < n
theorem Good.stops {rm gs st} (g : Good rm gs st) : Stops rm.length st := fun r hr w hw x hx => by
  obtain ⟨i, hi, e⟩ := List.mem_iff_getElem.mp hr
  have h2 : st[i]? = some r := by rw [List.getElem?_eq_getElem hi, e]
  exact ((g.row i r _ h2 (List.getElem?_eq_getElem (by rw [← g.len]; exact hi))).2 w hw).2.1 x hx
theorem st_ix {st : Std} {i : Nat} (h : i < st.length) : dIx (stD st) (.int (i : Int)) = .ok (rowD (st.getD i [])) := by
  refine ix_t ?_
  rw [List.getElem?_map, List.getElem?_eq_getElem h, List.getD_eq_getElem?_getD, List.getElem?_eq_getElem h]
  rfl
theorem rm_ix {rm : List Nat} {i : Nat} (h : i < rm.length) : dIx (.tup (rm.map nD)) (.int (i : Int)) = .ok (nD (rm.getD i 0)) := by
  refine ix_t ?_
  rw [List.getElem?_map, List.getElem?_eq_getElem h, List.getD_eq_getElem?_getD, List.getElem?_eq_getElem h]
  rfl
theorem row_len (r : Rw) : dLen (rowD r) = .ok (nD r.length) := by simp [dLen, items, rowD, nD]
theorem way_len (r : Way) : dLen (wD r) = .ok (nD r.length) := by simp [dLen, items, wD, nD]
theorem isFull_eq {rm : List Nat} {gs : List Go} {st : Std} {i : Nat} (h : i < st.length) (h2 : i < rm.length) : m_is_full (mapD rm gs) (stD st) (.int (i : Int)) = .ok (.bl (decide (lenAt st i = rm.getD i 0))) := by
  unfold m_is_full
  simp only [N.ok_bind, st_ix h, row_len, fld_rooms, rm_ix h2, enc_nat.eqD (by decide : 0 ≤ 64), N.bind_fin, N.rt_fin]
  rfl
theorem row0 (w : Way) (r : Rw) : dIx (rowD (w :: r)) (.int 0) = .ok (wD w) := ix_t (i := 0) rfl
theorem way0 (x : Nat) (w : Way) : dIx (wD (x :: w)) (.int 0) = .ok (.int (x : Int)) := ix_t (i := 0) rfl
theorem getD_mem {st : Std} {i : Nat} {w : Way} {r : Rw} (e : st.getD i [] = w :: r) : (w :: r) ∈ st := by
  rw [List.getD_eq_getElem?_getD] at e
  cases q : st[i]? with
  | none => rw [q] at e; cases e
  | some z => rw [q] at e; rw [← show z = w :: r from e]; exact List.mem_of_getElem? q
theorem eqS0 (k : Nat) : dEqS (nD k) (.int 0) = .ok (.bl (decide (k = 0))) := by
  unfold nD
  simp only [dEqS, sEq, N.ok_bind]
  congr 2
  rw [Bool.eq_iff_iff, decide_eq_true_eq, decide_eq_true_eq]
  omega
theorem canGo_eq {rm : List Nat} {gs : List Go} {st : Std} {i : Nat} (h : i < st.length) (hl : st.length = rm.length) (s : Stops rm.length st) : m_can_go (mapD rm gs) (stD st) (.int (i : Int)) = .ok (.bl (canGo rm st i)) := by
  unfold m_can_go
  simp only [N.ok_bind, st_ix h, row_len, N.bind_seq, eqS0, N.tst_bl]
  unfold canGo
  cases e : st.getD i [] with
  | nil => rfl
  | cons w r =>
    simp only [row0, N.ok_bind, way_len, eqS0, N.tst_bl]
    rw [decide_eq_false (show ¬ (w :: r).length = 0 by simp)]
    simp only [N.ite_f, N.ok_seq, N.ok_bind, way_len, eqS0, N.tst_bl]
    cases w with
    | nil => rfl
    | cons x w =>
      have hx : x < rm.length := s _ (getD_mem e) _ List.mem_cons_self _ List.mem_cons_self
      simp only [way0, N.ok_bind]
      rw [decide_eq_false (show ¬ (x :: w).length = 0 by simp), isFull_eq (gs := gs) (show x < st.length by rw [hl]; exact hx) hx]
      rfl
/-- the lanes whose first robot may go -/
def firsts (rm : List Nat) (st : Std) : List Nat := (List.range st.length).filter (canGo rm st)
def onI (p : Nat → Bool) (d : D) : Bool := match d with
  | .int i => p i.toNat
  | _ => false
theorem run0L (n : Nat) : runD 0 n = (List.range n).map nD := by
  unfold runD nD
  refine List.map_congr_left fun i _ => ?_
  simp
theorem filt_run (p : Nat → Bool) (n : Nat) : (((List.range n).map nD).filter (onI p)).map (fun d => d) = ((List.range n).filter p).map nD := by
  rw [List.filter_map, List.map_id'']
  · congr 1
  · intro x; rfl
theorem goingsOf_eq {rm : List Nat} {gs : List Go} {st : Std} (hl : st.length = rm.length) (hn : st.length ≤ 12) (s : Stops rm.length st) : m_goings_of (mapD rm gs) (stD st) = .ok (.tup ((firsts rm st).map nD)) := by
  have z := sz1000
  unfold m_goings_of N.lcG
  simp only [N.ok_bind]
  rw [show dLen (stD st) = .ok (.int (st.length : Int)) by simp [dLen, items, stD]]
  simp only [N.ok_bind, N.rng1]
  rw [N.asrt_of ⟨by omega, by omega⟩]
  simp only [N.ok_bind, Int.toNat_natCast, run0L, decs_id]
  rw [N.fits_of (by rw [List.length_map, List.length_range]; omega)]
  simp only [N.ok_bind]
  rw [N.comp_ok (p := onI (canGo rm st)) (g := fun d => d) _ (fun x hx => by
    obtain ⟨i, hi, rfl⟩ := List.mem_map.mp hx
    unfold nD
    rw [canGo_eq (List.mem_range.mp hi) hl s]
    simp [onI]) (fun x _ => rfl)]
  rw [filt_run]
  rfl
/-! ### what is left -/
def leftN (st : Std) : Nat := (st.map fun r => (r.map fun w => w.length + 1).sum).sum
theorem intsD_nat : ∀ xs : List Nat, intsD (xs.map nD) = some (xs.map fun n : Nat => (n : Int))
  | [] => rfl
  | x :: xs => by
    show (intsD (xs.map nD)).map (fun l => (x : Int) :: l) = _
    rw [intsD_nat xs]
    rfl
theorem sum_cast (xs : List Nat) : (xs.map fun n : Nat => (n : Int)).sum = ((xs.sum : Nat) : Int) := by
  induction xs with
  | nil => rfl
  | cons x xs ih => rw [List.map_cons, List.sum_cons, List.sum_cons, ih]; omega
theorem sum_nat (xs : List Nat) : dSum (.lst (xs.map nD)) = .ok (nD xs.sum) := by
  unfold dSum
  simp only [intsD_nat]
  rw [sum_cast]
  rfl
theorem all2_map {α : Type} {f : D → N D} {g : α → D} {h : α → D} : ∀ xs : List α, (∀ x ∈ xs, f (g x) = .ok (h x)) → All2 (fun y z => f y = .ok z) (xs.map g) (xs.map h)
  | [], _ => .nil
  | x :: xs, k => .cons (k x List.mem_cons_self) (all2_map xs fun y hy => k y (List.mem_cons_of_mem _ hy))
theorem left_row {r : Rw} (hr : r.length ≤ 9) : ((N.lcG (.ok (r.map wD)) (fun d => some d) (fun _ => .ok true) (fun c => (dLen c).bind fun x => dAdd x (.int 1))).bind dSum : N D) = .ok (nD (r.map fun w => w.length + 1).sum) := by
  have z := sz1000
  rw [lcG_all2 (all2_map (h := fun w => nD (w.length + 1)) r fun w _ => by rw [way_len]; rfl) (by rw [List.length_map]; omega)]
  simp only [N.ok_bind]
  have := sum_nat (r.map fun w => w.length + 1)
  rw [List.map_map] at this
  exact this
theorem goingsLeft_eq {rm : List Nat} {gs : List Go} {st : Std} {d : D} (mo : MapOk rm gs) (g : Good rm gs st) (h : RepS d st) : m_goings_left (mapD rm gs) d = .ok (nD (leftN st)) := by
  have z := sz1000
  unfold m_goings_left
  simp only [N.ok_bind, needStanding_ok mo g h]
  rw [show seqOf (stD st) = .ok (st.map rowD) from rfl]
  rw [lcG_all2 (all2_map (h := fun r => nD (r.map fun w => w.length + 1).sum) st fun r hr => ?_) (by rw [List.length_map, g.len]; have := mo.len; omega)]
  · simp only [N.ok_bind]
    have := sum_nat (st.map fun r => (r.map fun w => w.length + 1).sum)
    rw [List.map_map] at this
    rw [show (fun r : Rw => nD (r.map fun w => w.length + 1).sum) = nD ∘ (fun r : Rw => (r.map fun w => w.length + 1).sum) from rfl, this]
    rfl
  · obtain ⟨i, hi, e⟩ := List.mem_iff_getElem.mp hr
    have h2 : st[i]? = some r := by rw [List.getElem?_eq_getElem hi, e]
    have hi' : i < rm.length := by rw [← g.len]; exact hi
    have := (g.row i r _ h2 (List.getElem?_eq_getElem hi')).1
    have := (mo.room _ (List.getElem_mem hi')).2
    show ((seqOf (rowD r)).lcG _ _ _).bind _ = _
    rw [show seqOf (rowD r) = .ok (r.map wD) from rfl]
    exact left_row (by omega)
end M

set_option Elab.async false
set_option linter.all false
set_option maxRecDepth 100000
set_option maxHeartbeats 4000000
namespace M
open PySem L2
/-! ### the going itself -/
def gone (st : Std) (i : Nat) : Std := match st.getD i [] with
  | [] => st
  | [] :: r => st.set i r
  | (x :: w) :: r => (st.set i r).set x ((st.set i r).getD x [] ++ [w])
theorem setAt_ok {ds : List D} {i : Nat} {v : D} (h : i < ds.length) : setAt ds (.int (i : Int)) v = .ok (ds.set i v) := by
  have e : ixN ds.length (i : Int) = some i := by unfold ixN; rw [if_pos (by omega), if_pos (by omega)]; rfl
  simp [setAt, e]
theorem set_rows (st : Std) (i : Nat) (r : Rw) : (st.map rowD).set i (rowD r) = (st.set i r).map rowD := by rw [List.map_set]
theorem l_ix {st : Std} {i : Nat} (h : i < st.length) : dIx (.lst (st.map rowD)) (.int (i : Int)) = .ok (rowD (st.getD i [])) := by
  refine ix_l ?_
  rw [List.getElem?_map, List.getElem?_eq_getElem h, List.getD_eq_getElem?_getD, List.getElem?_eq_getElem h]
  rfl
theorem cutRow (w : Way) (r : Rw) : dSlT (rowD (w :: r)) (some 1) none = .ok (rowD r) := by
  show N.ok (D.tup (cutD _ _ _)) = _
  rw [show cutD ((w :: r).map wD) (some 1) none = ((w :: r).map wD).drop 1 from cut_from _ 1]
  rfl
theorem cutWay (x : Nat) (w : Way) : dSlT (wD (x :: w)) (some 1) none = .ok (wD w) := by
  show N.ok (D.tup (cutD _ _ _)) = _
  rw [show cutD ((x :: w).map nD) (some 1) none = ((x :: w).map nD).drop 1 from cut_from _ 1]
  rfl
theorem gtS0 (k : Nat) : dGt (nD k) (.int 0) = .ok (.bl (decide (0 < k))) := by
  show N.ok (D.bl (decide ((0 : Int) < (k : Int)))) = _
  congr 2
  rw [Bool.eq_iff_iff, decide_eq_true_eq, decide_eq_true_eq]
  omega
theorem cat_row {r : Rw} {w : Way} (h : r.length ≤ 20) : dCat (rowD r) (.tup [wD w]) = .ok (rowD (r ++ [w])) := by
  have z := sz1000
  show (N.asrt _).bind _ = _
  rw [N.asrt_of (by rw [List.length_map]; simp; omega)]
  show N.ok (D.tup (r.map wD ++ [wD w])) = _
  unfold rowD
  rw [List.map_append]
  rfl
theorem afterGoing_eq {st : Std} {i n : Nat} (h : i < st.length) (hn : st.length = n) (s : Stops n st) (hr : ∀ r ∈ st, r.length ≤ 9) (hne : st.getD i [] ≠ []) : m_after_going (stD st) (.int (i : Int)) = .ok (stD (gone st i)) := by
  have z := sz1000
  unfold m_after_going gone
  simp only [N.ok_bind, st_ix h, N.bind_seq]
  cases e : st.getD i [] with
  | nil => exact absurd e hne
  | cons w r =>
    simp only [row0, N.ok_bind, N.ok_seq]
    rw [show seqOf (stD st) = .ok (st.map rowD) from rfl]
    simp only [N.ok_bind, N.ok_seq, l_ix h, e, toI, cutRow]
    rw [setAt_ok (by rw [List.length_map]; exact h), set_rows]
    simp only [N.ok_bind, N.ok_seq, way_len, gtS0, N.tst_bl]
    cases w with
    | nil => rfl
    | cons x w =>
      have hx : x < n := s _ (getD_mem e) _ List.mem_cons_self _ List.mem_cons_self
      have hx2 : x < (st.set i r).length := by rw [List.length_set, hn]; exact hx
      rw [decide_eq_true (show 0 < (x :: w).length by simp)]
      simp only [N.ite_t, way0, N.ok_bind, l_ix hx2, cutWay]
      rw [N.le1_of (by have := size64; simp; omega)]
      have hl : ((st.set i r).getD x []).length ≤ 20 := by
        rw [List.getD_eq_getElem?_getD]
        cases q : (st.set i r)[x]? with
        | none => simp
        | some u =>
          show u.length ≤ 20
          rcases List.mem_or_eq_of_mem_set (List.mem_of_getElem? q) with z | z
          · have := hr u z; omega
          · have := hr _ (getD_mem e)
            rw [z]
            simp at this
            omega
      simp only [N.ok_bind, cat_row hl]
      rw [setAt_ok (by rw [List.length_map]; exact hx2), set_rows]
      rfl
theorem possible_eq {rm : List Nat} {gs : List Go} {st : Std} {d : D} (mo : MapOk rm gs) (g : Good rm gs st) (h : RepS d st) : m_possible_goings (mapD rm gs) d = .ok (.tup ((firsts rm st).map nD)) := by
  unfold m_possible_goings
  simp only [N.ok_bind, needStanding_ok mo g h, goingsOf_eq g.len (by rw [g.len]; exact mo.len) g.stops, N.bind_fin, N.rt_fin]
theorem Good.rows {rm gs st} (mo : MapOk rm gs) (g : Good rm gs st) : ∀ r ∈ st, r.length ≤ 9 := fun r hr => by
  obtain ⟨i, hi, e⟩ := List.mem_iff_getElem.mp hr
  have h2 : st[i]? = some r := by rw [List.getElem?_eq_getElem hi, e]
  have hi' : i < rm.length := by rw [← g.len]; exact hi
  have := (g.row i r _ h2 (List.getElem?_eq_getElem hi')).1
  have := (mo.room _ (List.getElem_mem hi')).2
  omega
theorem st_len (st : Std) : dLen (stD st) = .ok (nD st.length) := by simp [dLen, items, stD, nD]
theorem canGo_ne {rm st i} (h : canGo rm st i = true) : st.getD i [] ≠ [] := fun e => by
  unfold canGo at h
  rw [e] at h
  cases h
theorem goneStanding_ok {rm : List Nat} {gs : List Go} {st : Std} {d : D} {i : Nat} (mo : MapOk rm gs) (g : Good rm gs st) (h : RepS d st) (hi : i < rm.length) (hc : canGo rm st i = true) : m_gone_standing (mapD rm gs) d (.int (i : Int)) = .ok (stD (gone st i)) := by
  unfold m_gone_standing
  simp only [N.ok_bind, needStanding_ok mo g h, N.ok_seq, N.bind_seq, st_len]
  rw [show m_is_index (.int (i : Int)) (nD st.length) = .ok (.bl true) from isIx_nat (by rw [g.len]; exact hi)]
  simp only [N.ok_bind, N.tst_bl, Bool.not_true, N.ite_f, N.ok_seq]
  rw [canGo_eq (by rw [g.len]; exact hi) g.len g.stops, hc]
  simp only [N.ok_bind, N.tst_bl, Bool.not_true, N.ite_f, N.ok_seq]
  rw [afterGoing_eq (by rw [g.len]; exact hi) g.len g.stops (g.rows mo) (canGo_ne hc)]
  rfl
theorem goneStanding_no {rm : List Nat} {gs : List Go} {st : Std} {d : D} {i : Nat} (mo : MapOk rm gs) (g : Good rm gs st) (h : RepS d st) (hi : i < rm.length) (hc : canGo rm st i = false) : m_gone_standing (mapD rm gs) d (.int (i : Int)) = .err 4 (.int (i : Int)) := by
  unfold m_gone_standing
  simp only [N.ok_bind, needStanding_ok mo g h, N.ok_seq, N.bind_seq, st_len]
  rw [show m_is_index (.int (i : Int)) (nD st.length) = .ok (.bl true) from isIx_nat (by rw [g.len]; exact hi)]
  simp only [N.ok_bind, N.tst_bl, Bool.not_true, N.ite_f, N.ok_seq]
  rw [canGo_eq (by rw [g.len]; exact hi) g.len g.stops, hc]
  rfl
theorem goneStanding_ix {rm : List Nat} {gs : List Go} {st : Std} {d l : D} (mo : MapOk rm gs) (g : Good rm gs st) (h : RepS d st) (hi : m_is_index l (nD rm.length) = .ok (.bl false)) : m_gone_standing (mapD rm gs) d l = .err 3 (.int (-1)) := by
  unfold m_gone_standing
  simp only [N.ok_bind, needStanding_ok mo g h, N.ok_seq, N.bind_seq, st_len, g.len, hi, N.tst_bl, Bool.not_false, N.ite_t]
  rfl
/-! ### standings that are refused -/
theorem needStanding_lanes {l d : D} (h : dIsC clT 6 l = .ok (.bl false)) : m_need_standing l d = .err 2 (.int (-1)) := by
  unfold m_need_standing
  simp only [N.ok_bind, needLanes_no h, N.bind_seq]
  rfl
theorem needStanding_len {rm : List Nat} {gs : List Go} {d : D} {ys : List D} (h : IsSeq d ys) (hl : ys.length ≠ rm.length) : m_need_standing (mapD rm gs) d = .err 1 (.int (-1)) := by
  unfold m_need_standing
  simp only [N.ok_bind, needLanes_ok, N.bind_seq, N.ok_seq, h.seq, h.len, N.tst_bl, Bool.not_true, N.ite_f, fld_rooms, dNeS, sEq]
  rw [show dLen (.tup (rm.map nD)) = .ok (nD rm.length) by simp [dLen, items, nD]]
  simp only [N.ok_bind, nD]
  rw [decide_eq_false (show ¬ (ys.length : Int) = (rm.length : Int) by omega)]
  rfl
def rowOdd (rm : List Nat) (gs : List Go) (i m : Nat) (y : D) : Prop := m_is_sequence y = .ok (.bl false) ∨ (∃ ys, IsSeq y ys ∧ m < ys.length) ∨ ∃ x, IsSeq y [x] ∧ 1 ≤ m ∧ m_is_lane_way (allowD gs) (nD rm.length) (nD i) x = .ok (.bl false)
theorem needStanding_odd {rm : List Nat} {gs : List Go} {pst : Std} {d y : D} {pre post : List D} {m : Nat} (mo : MapOk rm gs) (h : IsSeq d (pre ++ y :: post)) (hl : (pre ++ y :: post).length = rm.length) (al : All2 RepR pre pst)
    (g : ∀ (i : Nat) (r : Rw) (m : Nat), pst[i]? = some r → rm[i]? = some m → r.length ≤ m ∧ ∀ w ∈ r, wayOk rm.length gs i w) (hm : rm[pre.length]? = some m) (ho : rowOdd rm gs pre.length m y) : m_need_standing (mapD rm gs) d = .err 1 (.int (pre.length : Int)) := by
  have s := sz1000
  obtain ⟨B, hB⟩ := numP_split pre post y
  unfold m_need_standing
  simp only [N.ok_bind, needLanes_ok, N.bind_seq, N.ok_seq, h.seq, h.len, h.of, h.en, N.tst_bl, Bool.not_true, N.ite_f, fld_rooms, fld_goings, dNeS, sEq]
  rw [show dLen (.tup (rm.map nD)) = .ok (nD rm.length) by simp [dLen, items, nD]]
  simp only [N.ok_bind, nD]
  rw [decide_eq_true (show ((pre ++ y :: post).length : Int) = (rm.length : Int) by rw [hl])]
  have ea := allow_is mo.nodup (by have := mo.many; omega)
  simp only [N.ok_bind] at ea
  simp only [Bool.not_true, N.ite_f, N.ok_seq, N.ok_bind, N.tst_bl, ea]
  simp only [N.ok_bind, N.ok_seq, decs_num]
  have ixm : dIx (.tup (rm.map nD)) (.int (pre.length : Int)) = .ok (.int (m : Int)) := ix_t (by rw [List.getElem?_map, hm]; rfl)
  rw [show ((numbered (pre ++ y :: post)).map fun p => ((.int p.1 : D), p.2)) = numP (pre ++ y :: post) from rfl, hB, loopU_err (c := 1) (d := .int (pre.length : Int))]
  · rfl
  · intro x hx
    obtain ⟨i, e1, e2⟩ := numP_mem hx
    obtain ⟨r, h2, zs, hz, a⟩ := al.get1 e2
    obtain ⟨m, hm⟩ : ∃ m, rm[i]? = some m := by
      have := (List.getElem?_eq_some_iff.mp e2).1
      exact ⟨rm[i]'(by rw [← hl, List.length_append]; omega), List.getElem?_eq_getElem _⟩
    obtain ⟨hr, hw⟩ := g i r m h2 hm
    have hm9 := (mo.room m (List.mem_of_getElem? hm)).2
    have ix : dIx (.tup (rm.map nD)) (.int (i : Int)) = .ok (.int (m : Int)) := ix_t (by rw [List.getElem?_map, hm]; rfl)
    have al := a.length
    have wk : N.lcG (.ok zs) (fun d => some d) (fun _ => .ok true) (fun u => m_is_lane_way (allowD gs) (.int (rm.length : Int)) (.int (i : Int)) u) = .ok (.lst ((r.map fun _ => true).map D.bl)) := ways_ok (n := rm.length) (i := i) a hw (by omega)
    simp only [e1, N.ok_bind, hz.seq, hz.len, hz.of, N.tst_bl, Bool.not_true, N.ite_f, ix, dGt, iOp_ok]
    rw [decide_eq_false (show ¬ (m : Int) < (zs.length : Int) by omega)]
    simp only [N.ok_bind, N.tst_bl, N.ite_f, N.ok_seq, wk, dAll_map]
    rw [show ((r.map fun _ => true).all id) = true by simp]
    rfl
  · rcases ho with ho | ⟨ys, hy, ho⟩ | ⟨x, hy, h1, ho⟩
    · simp only [N.ok_bind, ho, N.tst_bl, Bool.not_false, N.ite_t]
      rfl
    · simp only [N.ok_bind, hy.seq, hy.len, N.tst_bl, Bool.not_true, N.ite_f, ixm, dGt, iOp_ok]
      rw [decide_eq_true (show (m : Int) < (ys.length : Int) by omega)]
      rfl
    · have wk : N.lcG (.ok [x]) (fun d => some d) (fun _ => .ok true) (fun u => m_is_lane_way (allowD gs) (.int (rm.length : Int)) (.int (pre.length : Int)) u) = .ok (.lst ([false].map D.bl)) := lcG_all2 (.cons ho .nil) (by simp; omega)
      simp only [N.ok_bind, hy.seq, hy.len, hy.of, N.tst_bl, Bool.not_true, N.ite_f, ixm, dGt, iOp_ok]
      rw [decide_eq_false (show ¬ (m : Int) < (([x] : List D).length : Int) by simp; omega)]
      simp only [N.ok_bind, N.tst_bl, N.ite_f, N.ok_seq, wk, dAll_map]
      rfl
end M

set_option Elab.async false
set_option linter.all false
set_option maxRecDepth 100000
set_option maxHeartbeats 4000000
namespace M
open PySem L2
/-! ### knots -/
def nxt (rm : List Nat) (st : Std) (a : Nat) : Option Nat := if lenAt st a = rm.getD a 0 then (match st.getD a [] with
  | (x :: _) :: _ => some x
  | _ => none) else none
def oD : Option Nat → D
  | none => .non
  | some x => nD x
def oT : Option (List Nat) → D
  | none => .non
  | some x => .tup (x.map nD)
theorem fullWish_eq {rm : List Nat} {gs : List Go} {st : Std} {a : Nat} (h : a < rm.length) (hl : st.length = rm.length) (hr : ∀ r ∈ rm, 1 ≤ r) : m_full_wish (mapD rm gs) (stD st) (.int (a : Int)) = .ok (oD (nxt rm st a)) := by
  have h2 : a < st.length := by rw [hl]; exact h
  unfold m_full_wish nxt
  simp only [N.ok_bind, isFull_eq (gs := gs) h2 h, N.tst_bl, N.bind_seq, st_ix h2]
  by_cases z : lenAt st a = rm.getD a 0
  · rw [decide_eq_true z, if_pos z]
    cases e : st.getD a [] with
    | nil =>
      exfalso
      have h1 : 1 ≤ rm.getD a 0 := by
        rw [List.getD_eq_getElem?_getD, List.getElem?_eq_getElem h]
        exact hr _ (List.getElem_mem h)
      unfold lenAt at z
      rw [e] at z
      simp at z
      simp at h1
      omega
    | cons w r =>
      simp only [Bool.not_true, N.ite_f, row0, N.ok_bind, way_len, eqS0, N.tst_bl]
      cases w with
      | nil => rfl
      | cons x w =>
        rw [decide_eq_false (show ¬ (x :: w).length = 0 by simp)]
        simp only [N.ite_f, N.ok_seq, way0]
        rfl
  · rw [decide_eq_false z, if_neg z]
    rfl
def trail (f : Nat → Option Nat) : Nat → List Nat → Nat → List Nat × Option Nat
  | 0, ring, _ => (ring, none)
  | k + 1, ring, a => match f a with
    | none => (ring, none)
    | some b => if b ∈ ring then (ring, some b) else trail f k (ring ++ [b]) b
theorem trail_none {f : Nat → Option Nat} {k : Nat} {ring : List Nat} {a : Nat} (e : f a = none) : trail f (k + 1) ring a = (ring, none) := by
  unfold trail
  rw [e]
theorem trail_in {f : Nat → Option Nat} {k : Nat} {ring : List Nat} {a b : Nat} (e : f a = some b) (h : b ∈ ring) : trail f (k + 1) ring a = (ring, some b) := by
  unfold trail
  rw [e]
  exact if_pos h
theorem trail_go {f : Nat → Option Nat} {k : Nat} {ring : List Nat} {a b : Nat} (e : f a = some b) (h : b ∉ ring) : trail f (k + 1) ring a = trail f k (ring ++ [b]) b := by
  rw [trail, e]
  exact if_neg h
def knot (f : Nat → Option Nat) (n a : Nat) : Option (List Nat) := if (trail f n [a] a).2 = some a then some (trail f n [a] a).1 else none
theorem pigeon : ∀ (n : Nat) (l : List Nat), l.Nodup → (∀ x ∈ l, x < n) → l.length ≤ n
  | 0, [], _, _ => Nat.le_refl _
  | 0, x :: l, _, h => absurd (h x List.mem_cons_self) (by omega)
  | n + 1, l, hn, h => by
    have h1 := pigeon n (l.filter fun x => x != n) (hn.filter _) (fun x hx => by
      obtain ⟨h2, h3⟩ := List.mem_filter.mp hx
      have := h x h2
      simp at h3
      omega)
    have h2 : l.length ≤ (l.filter fun x => x != n).length + 1 := by
      clear h1 h
      induction l with
      | nil => simp
      | cons x l ih =>
        have hn2 := List.nodup_cons.mp hn
        by_cases z : x = n
        · subst z
          have : l.filter (fun y => y != x) = l := List.filter_eq_self.mpr fun y hy => by
            have : y ≠ x := fun e => hn2.1 (e ▸ hy)
            simpa using this
          rw [List.filter_cons_of_neg (by simp), this]
          simp
        · rw [List.filter_cons_of_pos (by simpa using z)]
          have := ih hn2.2
          simp
          omega
    omega
theorem nodup_snoc {l : List Nat} {b : Nat} (h : l.Nodup) (hb : b ∉ l) : (l ++ [b]).Nodup := List.nodup_append.mpr ⟨h, by simp, fun a ha c hc => by rw [List.mem_singleton.mp hc]; exact fun e => hb (e ▸ ha)⟩
theorem notIn_l (b : Nat) (ring : List Nat) : dNotInD (nD b) (.lst (ring.map nD)) = .ok (.bl (!decide (b ∈ ring))) := by
  unfold dNotInD
  rw [enc_nat.in_ (by decide) b ring D.lst (fun _ => rfl)]
  rfl
theorem in_l (b : Nat) (ring : List Nat) : dInD (nD b) (.lst (ring.map nD)) = .ok (.bl (decide (b ∈ ring))) := by
  unfold dInD
  rw [enc_nat.in_ (by decide) b ring D.lst (fun _ => rfl)]
  rfl
theorem while_trail {f : Nat → Option Nat} {n : Nat} {β : Type} {tn : List D × D → N Bool} {bn : List D × D → N (Fl (List D × D) (List D × D))} (hf : ∀ a b, f a = some b → b < n)
    (t0 : ∀ xs, tn (xs, .non) = .ok false) (t1 : ∀ (ring : List Nat) (b : Nat), tn (ring.map nD, nD b) = .ok (!decide (b ∈ ring))) (hb : ∀ (ring : List Nat) (b : Nat), b < n → ring.length ≤ n → bn (ring.map nD, nD b) = .ok (.nx (ring.map nD ++ [nD b], oD (f b)))) :
    ∀ (k j : Nat) (ring : List Nat) (a : Nat), ring.Nodup → (∀ x ∈ ring, x < n) → n + 1 ≤ k + ring.length → k < j → (N.while (β := β) tn bn j (ring.map nD, oD (f a))) = .ok (.nx ((trail f k ring a).1.map nD, oD (trail f k ring a).2))
  | 0, j, ring, a, h1, h2, h3, _ => absurd (pigeon n ring h1 h2) (by omega)
  | k + 1, j + 1, ring, a, h1, h2, h3, h4 => by
    have hp := pigeon n ring h1 h2
    unfold N.while
    cases e : f a with
    | none =>
      rw [trail_none e]
      show (tn (ring.map nD, .non)).bind _ = _
      rw [t0]
      rfl
    | some b =>
      show (tn (ring.map nD, nD b)).bind _ = _
      rw [t1]
      by_cases z : b ∈ ring
      · rw [decide_eq_true z, trail_in e z]
        rfl
      · rw [decide_eq_false z, trail_go e z]
        show (bn (ring.map nD, nD b)).bind _ = _
        rw [hb ring b (hf _ _ e) hp]
        have e2 : ring.map nD ++ [nD b] = (ring ++ [b]).map nD := by rw [List.map_append]; rfl
        rw [e2]
        exact while_trail hf t0 t1 hb k j (ring ++ [b]) b (nodup_snoc h1 z) (fun x hx => by
          rcases List.mem_append.mp hx with y | y
          · exact h2 x y
          · rw [List.mem_singleton.mp y]; exact hf _ _ e) (by rw [List.length_append, List.length_singleton]; omega) (by omega)
theorem oD_eq (o : Option Nat) (a : Nat) : dEqD (oD o) (nD a) = .ok (.bl (decide (o = some a))) := by
  cases o with
  | none =>
    show (pEq .non (nD a)).bind _ = _
    have : pEq .non (nD a) = .ok false := by
      unfold pEq nD
      simp only [toPy_int, show toPy .non = some .none from by unfold toPy; rfl]
      rw [N.asrt_of ⟨by decide, shaped_of (by unfold PyData.canLay0; rfl) (by unfold PyData.depth; decide)⟩]
      rfl
    rw [this]
    rfl
  | some b =>
    show dEqD (nD b) (nD a) = _
    rw [enc_nat.eqD (by decide)]
    simp
theorem nxt_lt {rm : List Nat} {st : Std} {n : Nat} (s : Stops n st) {a b : Nat} (e : nxt rm st a = some b) : b < n := by
  unfold nxt at e
  split at e
  · split at e
    · rename_i x w r q
      cases e
      exact s _ (getD_mem q) _ List.mem_cons_self _ List.mem_cons_self
    · cases e
  · cases e
theorem knotFrom_eq {rm : List Nat} {gs : List Go} {st : Std} {a : Nat} (mo : MapOk rm gs) (h : a < rm.length) (hl : st.length = rm.length) (s : Stops rm.length st) : m_knot_from (mapD rm gs) (stD st) (.int (a : Int)) = .ok (oT (knot (nxt rm st) rm.length a)) := by
  have z := sz1000
  have hn := mo.len
  have hr : ∀ r ∈ rm, 1 ≤ r := fun r hr => (mo.room r hr).1
  unfold m_knot_from
  simp only [N.ok_bind, N.ok_seq]
  have first : ∀ {β : Type} (tn : List D × D → N Bool) (bn : List D × D → N (Fl (List D × D) (List D × D))) (t1 : tn ([], nD a) = .ok true) (hb : bn ([], nD a) = .ok (.nx ([nD a], oD (nxt rm st a)))), (N.while (β := β) tn bn 20 ([], nD a)) = N.while tn bn 19 ([nD a], oD (nxt rm st a)) := fun tn bn t1 hb => by
    show (tn ([], nD a)).bind _ = _
    rw [t1]
    show (bn ([], nD a)).bind _ = _
    rw [hb]
    rfl
  have wish : ∀ b, b < rm.length → m_full_wish (mapD rm gs) (stD st) (nD b) = .ok (oD (nxt rm st b)) := fun b hb => fullWish_eq hb hl hr
  rw [show (D.int (a : Int)) = nD a from rfl, first _ _ (by
    show (dNotInD (nD a) (.lst (([] : List Nat).map nD))).bind N.tst = _
    rw [notIn_l]
    rfl) (by
    simp only [N.ok_bind]
    rw [N.asrt_of (by simp; omega)]
    simp only [N.ok_bind, N.ok_seq, wish a h]
    rfl)]
  rw [show ([nD a] : List D) = [a].map nD from rfl, while_trail (f := nxt rm st) (n := rm.length) (fun x y e => nxt_lt s e) (fun xs => rfl) (fun ring b => by
    show (dNotInD (nD b) (.lst (ring.map nD))).bind N.tst = _
    rw [notIn_l]
    rfl) (fun ring b hb hk => by
    simp only [N.ok_bind]
    rw [N.asrt_of (by rw [List.length_map]; omega)]
    simp only [N.ok_bind, N.ok_seq, wish b hb]) rm.length 19 [a] a (by simp) (by simpa using h) (by simp) (by omega)]
  simp only [N.ok_seq, N.bind_fin, oD_eq, N.ok_bind, N.tst_bl]
  unfold knot
  by_cases q : (trail (nxt rm st) rm.length [a] a).2 = some a
  · simp only [q, decide_true, N.ite_t, if_true]
    rfl
  · simp only [q, decide_false, N.ite_f, if_false]
    rfl
theorem loop_find {α β : Type} {body : D → Unit → N (Fl Unit Unit)} (g : α → D) (F : α → Option D) : ∀ xs : List α, (∀ x ∈ xs, body (g x) () = match F x with | some d => .ok (.rt d) | none => .ok (.nx ())) → (N.loop (β := β) body (xs.map g) ()) = match xs.findSome? F with | some d => .ok (.rt d) | none => .ok (.nx ())
  | [], _ => rfl
  | x :: xs, h => by
    have h1 := h x List.mem_cons_self
    show (body (g x) ()).bind _ = _
    rw [h1, List.findSome?_cons]
    cases F x with
    | some d => rfl
    | none => exact loop_find g F xs fun y hy => h y (List.mem_cons_of_mem _ hy)
def firstKnot (rm : List Nat) (st : Std) : Option (List Nat) := (List.range rm.length).findSome? (knot (nxt rm st) rm.length)
theorem findSome_map {α β γ : Type} (f : α → Option β) (g : β → γ) : ∀ xs : List α, xs.findSome? (fun x => (f x).map g) = (xs.findSome? f).map g
  | [] => rfl
  | x :: xs => by
    rw [List.findSome?_cons, List.findSome?_cons]
    cases f x with
    | none => exact findSome_map f g xs
    | some y => rfl
theorem knotOf_eq {rm : List Nat} {gs : List Go} {st : Std} (mo : MapOk rm gs) (hl : st.length = rm.length) (s : Stops rm.length st) : m_knot_of (mapD rm gs) (stD st) = .ok (oT (firstKnot rm st)) := by
  have hn := mo.len
  unfold m_knot_of
  simp only [N.ok_bind]
  rw [show dLen (stD st) = .ok (.int (st.length : Int)) by simp [dLen, items, stD]]
  simp only [N.ok_bind, N.rng1]
  rw [N.asrt_of ⟨by omega, by omega⟩]
  simp only [N.ok_bind, Int.toNat_natCast, run0L, decs_id]
  rw [loop_find nD (fun i => (knot (nxt rm st) rm.length i).map fun r => D.tup (r.map nD)) _ (fun i hi => by
    have hi' : i < rm.length := by rw [← hl]; exact List.mem_range.mp hi
    rw [show m_knot_from (mapD rm gs) (stD st) (nD i) = _ from knotFrom_eq mo hi' hl s]
    simp only [N.ok_bind, N.ok_seq]
    cases knot (nxt rm st) rm.length i with
    | none => rfl
    | some r => rfl), findSome_map, hl]
  unfold firstKnot
  cases (List.range rm.length).findSome? (knot (nxt rm st) rm.length) with
  | none => rfl
  | some r => rfl
theorem findKnot_eq {rm : List Nat} {gs : List Go} {st : Std} {d : D} (mo : MapOk rm gs) (g : Good rm gs st) (h : RepS d st) : m_find_knot (mapD rm gs) d = .ok (oT (firstKnot rm st)) := by
  unfold m_find_knot
  simp only [N.ok_bind, needStanding_ok mo g h, knotOf_eq mo g.len g.stops, N.bind_fin, N.rt_fin]
end M

set_option Elab.async false
set_option linter.all false
set_option maxRecDepth 100000
set_option maxHeartbeats 1000000
namespace M
open PySem L2
/-! ### the law's own knot -/
def hD : Option Nat → D
  | none => .int (-1)
  | some x => nD x
/-- a for loop of which nothing but the number of turns counts, against a trail -/
theorem loop_trail {f : Nat → Option Nat} {n : Nat} {β : Type} {bn : D → D × List D → N (Fl (D × List D) (D × List D))} (hf : ∀ a b, f a = some b → b < n)
    (b0 : ∀ (y : D) (ring : List Nat) (a : Nat), a < n → f a = none → bn y (nD a, ring.map nD) = .ok (.bk (.int (-1), ring.map nD)))
    (b1 : ∀ (y : D) (ring : List Nat) (a b : Nat), a < n → ring.length ≤ n → f a = some b → bn y (nD a, ring.map nD) = if b ∈ ring then .ok (.bk (nD b, ring.map nD)) else .ok (.nx (nD b, (ring ++ [b]).map nD))) :
    ∀ (ys : List D) (ring : List Nat) (a : Nat), a < n → ring.Nodup → (∀ x ∈ ring, x < n) → n + 1 ≤ ys.length + ring.length → (N.loop (β := β) bn ys (nD a, ring.map nD)) = .ok (.nx (hD (trail f ys.length ring a).2, (trail f ys.length ring a).1.map nD))
  | [], ring, a, _, h1, h2, h3 => absurd (pigeon n ring h1 h2) (by simp at h3; omega)
  | y :: ys, ring, a, ha, h1, h2, h3 => by
    have hp := pigeon n ring h1 h2
    show (bn y (nD a, ring.map nD)).bind _ = _
    cases e : f a with
    | none =>
      rw [b0 y ring a ha e, List.length_cons, trail_none e]
      rfl
    | some b =>
      rw [b1 y ring a b ha hp e, List.length_cons]
      by_cases z : b ∈ ring
      · rw [if_pos z, trail_in e z]
        rfl
      · rw [if_neg z, trail_go e z]
        exact loop_trail hf b0 b1 ys (ring ++ [b]) b (hf _ _ e) (nodup_snoc h1 z) (fun x hx => by
          rcases List.mem_append.mp hx with q | q
          · exact h2 x q
          · rw [List.mem_singleton.mp q]; exact hf _ _ e) (by rw [List.length_append, List.length_singleton]; simp at h3; omega)
theorem rmL_ix {rm : List Nat} {i : Nat} (h : i < rm.length) : dIx (.lst (rm.map nD)) (.int (i : Int)) = .ok (nD (rm.getD i 0)) := by
  refine ix_l ?_
  rw [List.getElem?_map, List.getElem?_eq_getElem h, List.getD_eq_getElem?_getD, List.getElem?_eq_getElem h]
  rfl
theorem lt_nat (a b : Nat) : dLt (nD a) (nD b) = .ok (.bl (decide (a < b))) := by
  show N.ok (D.bl (decide ((a : Int) < (b : Int)))) = _
  congr 2
  rw [Bool.eq_iff_iff, decide_eq_true_eq, decide_eq_true_eq]
  omega
theorem Good.fits {rm gs st} (g : Good rm gs st) {i : Nat} (h : i < rm.length) : lenAt st i ≤ rm.getD i 0 := by
  have h2 : i < st.length := by rw [g.len]; exact h
  have := (g.row i _ _ (List.getElem?_eq_getElem h2) (List.getElem?_eq_getElem h)).1
  unfold lenAt
  rw [List.getD_eq_getElem?_getD, List.getD_eq_getElem?_getD, List.getElem?_eq_getElem h2, List.getElem?_eq_getElem h]
  exact this
theorem eqWay0 (w : Way) : dEqD (wD w) (.tup []) = .ok (.bl (decide (w = []))) := enc_way.eqD (by decide) w []
theorem oD_eqH (o : Option Nat) (a : Nat) : dEqD (hD o) (nD a) = .ok (.bl (decide (o = some a))) := by
  cases o with
  | none =>
    show dEqD (D.int (-1)) (D.int (a : Int)) = _
    rw [enc_int.eqD (by decide)]
    rw [decide_eq_false (by omega), decide_eq_false (by simp)]
  | some b =>
    show dEqD (nD b) (nD a) = _
    rw [enc_nat.eqD (by decide)]
    simp
theorem lawKnot_eq {rm : List Nat} {gs : List Go} {st : Std} (mo : MapOk rm gs) (g : Good rm gs st) : m_law_knot (.lst (rm.map nD)) (stD st) = .ok (oT (firstKnot rm st)) := by
  have z := sz1000
  have hn := mo.len
  have hr : ∀ i, i < rm.length → 1 ≤ rm.getD i 0 := fun i hi => by
    rw [List.getD_eq_getElem?_getD, List.getElem?_eq_getElem hi]
    exact (mo.room _ (List.getElem_mem hi)).1
  have sx : ∀ i, i < rm.length → dIx (stD st) (nD i) = .ok (rowD (st.getD i [])) := fun i hi => st_ix (by rw [g.len]; exact hi)
  have rx : ∀ i, i < rm.length → dIx (.lst (rm.map nD)) (nD i) = .ok (nD (rm.getD i 0)) := fun i hi => rmL_ix hi
  unfold m_law_knot
  simp only [N.ok_bind]
  rw [show dLen (.lst (rm.map nD)) = .ok (.int (rm.length : Int)) by simp [dLen, items]]
  simp only [N.ok_bind, N.rng1]
  rw [N.asrt_of ⟨by omega, by omega⟩]
  simp only [N.ok_bind, Int.toNat_natCast, run0L, decs_id]
  rw [loop_find nD (fun i => (knot (nxt rm st) rm.length i).map fun r => D.tup (r.map nD)) _ (fun i hi => by
    have hi' : i < rm.length := List.mem_range.mp hi
    rw [N.le1_of (by have := size64; simp; omega)]
    simp only [N.ok_bind, N.ok_seq]
    rw [show ([nD i] : List D) = [i].map nD from rfl, loop_trail (f := nxt rm st) (n := rm.length) (fun x y e => nxt_lt g.stops e) (fun y ring a ha e => by
      simp only [sx a ha, rx a ha, N.ok_bind, N.ok_seq, row_len, lt_nat, N.tst_bl]
      by_cases q : (st.getD a []).length < rm.getD a 0
      · rw [decide_eq_true q]
        rfl
      · rw [decide_eq_false q]
        cases e2 : st.getD a [] with
        | nil =>
          exfalso
          rw [e2] at q
          have := hr a ha
          simp at q this
          omega
        | cons w r =>
          simp only [N.ite_f, row0, N.ok_bind]
          rw [N.le1_of (by simp)]
          simp only [N.ok_bind, eqWay0]
          cases w with
          | nil => rfl
          | cons x w =>
            exfalso
            have hfit := g.fits ha
            unfold nxt at e
            unfold lenAt at hfit e
            rw [e2] at e hfit q
            rw [if_pos (by omega)] at e
            cases e) (fun y ring a b ha hk e => by
      simp only [sx a ha, rx a ha, N.ok_bind, N.ok_seq, row_len, lt_nat, N.tst_bl]
      unfold nxt at e
      split at e
      · rename_i hfull
        unfold lenAt at hfull
        rw [decide_eq_false (by omega)]
        split at e
        · rename_i x w r e2
          cases e
          rw [e2]
          simp only [N.ite_f, row0, N.ok_bind]
          rw [N.le1_of (by simp)]
          simp only [N.ok_bind, eqWay0]
          rw [decide_eq_false (by simp)]
          simp only [N.tst_bl, N.ok_bind, N.ite_f, N.ok_seq, way0]
          rw [show (D.int (b : Int)) = nD b from rfl, in_l]
          simp only [N.tst_bl, N.ok_bind]
          by_cases q : b ∈ ring
          · rw [decide_eq_true q, if_pos q]
            rfl
          · rw [decide_eq_false q, if_neg q]
            simp only [N.ite_f, N.ok_seq]
            rw [N.asrt_of (by rw [List.length_map]; omega)]
            rw [List.map_append]
            rfl
        · cases e
      · cases e) _ [i] i hi' (by simp) (by simpa using hi') (by simp)]
    simp only [N.ok_seq, oD_eqH, N.ok_bind, N.tst_bl, List.length_map, List.length_range]
    unfold knot
    by_cases q : (trail (nxt rm st) rm.length [i] i).2 = some i
    · simp only [q, decide_true, N.ite_t, if_true]
      rfl
    · simp only [q, decide_false, N.ite_f, if_false]
      rfl), findSome_map]
  unfold firstKnot
  cases (List.range rm.length).findSome? (knot (nxt rm st) rm.length) with
  | none => rfl
  | some r => rfl
end M

set_option Elab.async false
set_option linter.all false
set_option maxRecDepth 100000
set_option maxHeartbeats 1000000
namespace M
open PySem L2
/-! ### the law's own firsts, its own count and its own going -/
theorem numP_range (ds : List D) : numP ds = (List.range ds.length).map fun i => (nD i, ds.getD i .non) := by
  rw [numP_eq]
  refine List.ext_getElem? fun i => ?_
  rw [List.getElem?_map, List.getElem?_map, List.getElem?_zipIdx]
  by_cases h : i < ds.length
  · rw [List.getElem?_eq_getElem h, List.getElem?_range h]
    simp [nD, List.getD_eq_getElem?_getD, h]
  · rw [List.getElem?_eq_none (by omega), List.getElem?_eq_none (by rw [List.length_range]; omega)]
    rfl
theorem loop_filt {β : Type} {body : D × D → List D → N (Fl (List D) (List D))} (g : Nat → D × D) (p : Nat → Bool) (m : Nat) : ∀ (xs : List Nat) (s : List D), s.length + xs.length ≤ m → (∀ i ∈ xs, ∀ s : List D, s.length < m → body (g i) s = .ok (.nx (if p i = true then s ++ [nD i] else s))) → (N.loop (β := β) body (xs.map g) s) = .ok (.nx (s ++ (xs.filter p).map nD))
  | [], s, _, _ => by
    show N.ok (Fl.nx s) = _
    simp
  | x :: xs, s, hl, h => by
    have e := h x List.mem_cons_self s (by simp at hl; omega)
    rw [List.map_cons, N.loop_go e]
    have k := fun s' hs => loop_filt (β := β) g p m xs s' hs fun i hi => h i (List.mem_cons_of_mem _ hi)
    cases q : p x with
    | true =>
      rw [if_pos rfl, k _ (by simp at hl ⊢; omega), List.filter_cons_of_pos q]
      simp
    | false =>
      rw [if_neg Bool.false_ne_true, k _ (by simp at hl; omega), List.filter_cons_of_neg (by rw [q]; exact Bool.false_ne_true)]
theorem neRow0 (r : Rw) : dNeD (rowD r) (.tup []) = .ok (.bl (!decide (r = []))) := enc_row.neD (by decide) r []
theorem neWay0 (r : Way) : dNeD (wD r) (.tup []) = .ok (.bl (!decide (r = []))) := enc_way.neD (by decide) r []
theorem lawFirsts_eq {rm : List Nat} {gs : List Go} {st : Std} (mo : MapOk rm gs) (g : Good rm gs st) : m_law_firsts (.lst (rm.map nD)) (stD st) = .ok (.lst ((firsts rm st).map nD)) := by
  have z := sz1000
  have hn := mo.len
  have hl := g.len
  have sx : ∀ i, i < rm.length → dIx (stD st) (.int (i : Int)) = .ok (rowD (st.getD i [])) := fun i hi => st_ix (by rw [g.len]; exact hi)
  have rx : ∀ i, i < rm.length → dIx (.lst (rm.map nD)) (.int (i : Int)) = .ok (nD (rm.getD i 0)) := fun i hi => rmL_ix hi
  unfold m_law_firsts
  simp only [N.ok_bind, N.ok_seq]
  rw [show enOf (stD st) = .ok (st.map rowD) from rfl]
  simp only [N.ok_bind, decs_num]
  rw [show ((numbered (st.map rowD)).map fun p => ((.int p.1 : D), p.2)) = numP (st.map rowD) from rfl, numP_range, List.length_map]
  rw [loop_filt _ (canGo rm st) 900 _ _ (by rw [List.length_range]; simp; omega) (fun i hi s hs => by
    have hi2 : i < st.length := List.mem_range.mp hi
    have hi' : i < rm.length := by rw [← g.len]; exact hi2
    have e0 : (st.map rowD).getD i .non = rowD (st.getD i []) := by
      rw [List.getD_eq_getElem?_getD, List.getD_eq_getElem?_getD, List.getElem?_map, List.getElem?_eq_getElem hi2]
      rfl
    simp only [e0]
    rw [N.le1_of (by simp)]
    simp only [N.ok_bind, neRow0, N.tst_bl]
    cases e : st.getD i [] with
    | nil =>
      rw [show canGo rm st i = false by unfold canGo; rw [e]]
      rfl
    | cons w r =>
      rw [decide_eq_false (by simp)]
      simp only [Bool.not_false, N.ite_t, if_true, row0, N.ok_bind, eqWay0, N.tst_bl]
      cases w with
      | nil =>
        rw [show canGo rm st i = true by unfold canGo; rw [e]]
        rw [decide_eq_true rfl]
        simp only [N.ite_t, N.ok_bind]
        rw [N.asrt_of (by omega)]
        rfl
      | cons x w =>
        have hx : x < rm.length := g.stops _ (getD_mem e) _ List.mem_cons_self _ List.mem_cons_self
        have fit := g.fits hx
        rw [decide_eq_false (by simp)]
        simp only [N.ite_f, N.ok_bind, way0, sx x hx, rx x hx, row_len, lt_nat, N.tst_bl]
        by_cases q : lenAt st x = rm.getD x 0
        · have q2 : ¬ (st.getD x []).length < rm.getD x 0 := by unfold lenAt at q; omega
          rw [show canGo rm st i = false by unfold canGo; rw [e]; show (!decide _) = false; rw [decide_eq_true q]; rfl, decide_eq_false q2]
          rfl
        · have q2 : (st.getD x []).length < rm.getD x 0 := by unfold lenAt at q fit; omega
          rw [show canGo rm st i = true by unfold canGo; rw [e]; show (!decide _) = true; rw [decide_eq_false q]; rfl, decide_eq_true q2]
          simp only [N.ite_t]
          rw [N.asrt_of (by omega)]
          rfl)]
  simp only [N.ok_seq, List.nil_append]
  rfl
/-! what is left -/
theorem loop_sum {α β : Type} {body : D → D → N (Fl D D)} (g : α → D) (w : α → Nat) : ∀ (xs : List α) (n : Nat), (∀ x ∈ xs, ∀ n : Nat, body (g x) (nD n) = .ok (.nx (nD (n + w x)))) → (N.loop (β := β) body (xs.map g) (nD n)) = .ok (.nx (nD (n + (xs.map w).sum)))
  | [], n, _ => rfl
  | x :: xs, n, h => by
    rw [List.map_cons, N.loop_go (h x List.mem_cons_self n), loop_sum g w xs (n + w x) fun y hy => h y (List.mem_cons_of_mem _ hy), List.map_cons, List.sum_cons, Nat.add_assoc]
theorem add_nat (a b : Nat) : dAdd (nD a) (nD b) = .ok (nD (a + b)) := by
  show N.ok (D.int ((a : Int) + (b : Int))) = _
  unfold nD
  congr 2
theorem left_split (r : Rw) : (r.map fun w => w.length + 1).sum = r.length + (r.map fun w => w.length).sum := by
  induction r with
  | nil => rfl
  | cons w r ih =>
    rw [List.map_cons, List.map_cons, List.sum_cons, List.sum_cons, List.length_cons, ih]
    omega
theorem lawLeft_eq {rm : List Nat} {gs : List Go} {st : Std} (mo : MapOk rm gs) (g : Good rm gs st) : m_law_left (stD st) = .ok (nD (leftN st)) := by
  have z := sz1000
  unfold m_law_left
  simp only [N.ok_bind, N.ok_seq]
  rw [show seqOf (stD st) = .ok (st.map rowD) from rfl]
  simp only [N.ok_bind, decs_id]
  rw [show (D.int 0) = nD 0 from rfl, loop_sum rowD (fun r => (r.map fun w => w.length + 1).sum) st 0 (fun r hr n => by
    have h9 := g.rows mo r hr
    rw [show seqOf (rowD r) = .ok (r.map wD) from rfl]
    rw [lcG_all2 (all2_map (h := fun w => nD w.length) r fun w _ => by rw [way_len]) (by rw [List.length_map]; omega)]
    have e := sum_nat (r.map fun w => w.length)
    rw [List.map_map] at e
    simp only [N.ok_bind, row_len, add_nat]
    rw [show (fun w : Way => nD w.length) = nD ∘ (fun w : Way => w.length) from rfl, e]
    simp only [N.ok_bind, add_nat, N.ok_seq]
    rw [left_split]
    congr 3
    omega)]
  simp only [N.ok_seq, Nat.zero_add]
  rfl
end M

set_option Elab.async false
set_option linter.all false
set_option maxRecDepth 100000
set_option maxHeartbeats 1000000
namespace M
open PySem L2
/-! ### the law's own going -/
def rowsD (st : Std) : List (List D) := st.map fun r => r.map wD
theorem compR_all {α : Type} {f : α → N (List D)} {g : α → List D} : ∀ xs : List α, (∀ x ∈ xs, f x = .ok (g x)) → N.compR (fun _ => .ok true) f xs = .ok (xs.map g)
  | [], _ => rfl
  | x :: xs, h => by
    show (N.ne (f x)).bind _ = _
    rw [h x List.mem_cons_self, compR_all xs fun y hy => h y (List.mem_cons_of_mem _ hy)]
    rfl
theorem rowAt_st {st : Std} {i : Nat} (h : i < st.length) : rowAt (rowsD st) (.int (i : Int)) = .ok (i, (st.getD i []).map wD) := by
  have e : ixN (rowsD st).length (i : Int) = some i := by
    unfold ixN rowsD
    rw [List.length_map, if_pos (by omega), if_pos (by omega)]
    rfl
  have e2 : (rowsD st)[i]? = some ((st.getD i []).map wD) := by
    unfold rowsD
    rw [List.getElem?_map, List.getElem?_eq_getElem h, List.getD_eq_getElem?_getD, List.getElem?_eq_getElem h]
    rfl
  unfold rowAt
  simp only [e, Option.bind_some, e2, Option.map_some]
theorem pop0 {β : Type} (dss : List (List D)) (i : Nat) (y : D) (ys : List D) : (dPopR (β := β) dss (i, y :: ys) (.int 0)) = .ok (.nx (y, dss.set i ys)) := by
  unfold dPopR
  have e : seqIndex? 0 (y :: ys).length = some 0 := by unfold seqIndex?; simp
  simp only [e, Option.bind_some, List.getElem?_cons_zero, Option.map_some]
  rw [N.asrt_of ⟨by decide, by decide⟩]
  rfl
theorem rows_set (st : Std) (i : Nat) (r : Rw) : (rowsD st).set i (r.map wD) = rowsD (st.set i r) := by
  unfold rowsD
  rw [List.map_set]
theorem lawGone_eq {st : Std} {i n : Nat} (h : i < st.length) (hn : st.length = n) (h12 : n ≤ 12) (s : Stops n st) (hr : ∀ r ∈ st, r.length ≤ 9) (hne : st.getD i [] ≠ []) : m_law_gone (stD st) (.int (i : Int)) (.int 0) = .ok (stD (gone st i)) := by
  have z := sz1000
  have out : ∀ s2 : Std, s2.length ≤ 12 → ((N.lcG ((.ok (.lst (List.map D.lst (rowsD s2))) : N D).bind seqOf) (fun d => some d) (fun c6 : D => (.ok true : N Bool)) (fun c6 : D => ((.ok c6 : N D).bind dTuple : N D)) : N D).bind dTuple : N D) = .ok (stD s2) := fun s2 hs => by
    have e1 : List.map D.lst (rowsD s2) = s2.map fun r => D.lst (r.map wD) := by unfold rowsD; rw [List.map_map]; rfl
    rw [e1]
    have e2 : N.lcG (.ok (s2.map fun r => D.lst (r.map wD))) (fun d => some d) (fun _ => .ok true) (fun c => dTuple c) = .ok (.lst (s2.map rowD)) := lcG_all2 (all2_map (f := fun c => dTuple c) (g := fun r : Rw => D.lst (r.map wD)) (h := rowD) s2 fun r _ => rfl) (by rw [List.length_map]; omega)
    simp only [N.ok_bind]
    rw [show seqOf (.lst (s2.map fun r => D.lst (r.map wD))) = .ok (s2.map fun r => D.lst (r.map wD)) from rfl, e2]
    rfl
  simp only [N.ok_bind] at out
  unfold m_law_gone gone
  simp only [N.ok_bind, N.bind_seq]
  rw [show seqOf (stD st) = .ok (st.map rowD) from rfl]
  unfold N.lrG
  simp only [N.ok_bind, decs_id]
  rw [N.fits_of (by rw [List.length_map]; omega)]
  simp only [N.ok_bind]
  rw [show N.compR (fun _ => .ok true) (fun c2 : D => seqOf c2) (st.map rowD) = .ok (rowsD st) by
    rw [compR_all (g := fun d => match d with | .tup xs => xs | _ => []) _ (fun x hx => by
      obtain ⟨r, _, rfl⟩ := List.mem_map.mp hx
      rfl), List.map_map]
    rfl]
  simp only [N.ok_bind, N.ok_seq, rowAt_st h]
  cases e : st.getD i [] with
  | nil => exact absurd e hne
  | cons w r =>
    rw [List.map_cons, pop0, rows_set]
    simp only [N.ok_seq]
    rw [N.le1_of (by simp)]
    simp only [N.ok_bind, neWay0, N.tst_bl]
    cases w with
    | nil =>
      rw [decide_eq_true rfl]
      simp only [Bool.not_true, N.ite_f, N.ok_seq, out (st.set i r) (by rw [List.length_set]; omega)]
      rfl
    | cons x w =>
      have hx : x < n := s _ (getD_mem e) _ List.mem_cons_self _ List.mem_cons_self
      have hx2 : x < (st.set i r).length := by rw [List.length_set, hn]; exact hx
      rw [decide_eq_false (by simp)]
      simp only [Bool.not_false, if_true, way0, N.ok_bind, rowAt_st hx2, toI, cutWay]
      have hl : ((st.set i r).getD x []).length ≤ 20 := by
        rw [List.getD_eq_getElem?_getD]
        cases q : (st.set i r)[x]? with
        | none => simp
        | some u =>
          show u.length ≤ 20
          rcases List.mem_or_eq_of_mem_set (List.mem_of_getElem? q) with z | z
          · have := hr u z; omega
          · have := hr _ (getD_mem e)
            rw [z]
            simp at this
            omega
      rw [N.asrt_of (by rw [List.length_map]; omega)]
      simp only [N.ok_bind, N.ok_seq]
      rw [show ((st.set i r).getD x []).map wD ++ [wD w] = ((st.set i r).getD x [] ++ [w]).map wD by rw [List.map_append]; rfl, rows_set]
      rw [out _ (by rw [List.length_set, List.length_set]; omega)]
      rfl
/-! ### what a going keeps -/
theorem adj_tail {i x : Nat} {w : Way} {gs : List Go} (h : ∀ p ∈ adj i (x :: w), p ∈ gs) : ∀ p ∈ adj x w, p ∈ gs := fun p hp => h p (List.mem_cons_of_mem _ hp)
theorem getD_of {st : Std} {i : Nat} {r : Rw} (h : st[i]? = some r) : st.getD i [] = r := by
  rw [List.getD_eq_getElem?_getD, h]
  rfl
theorem Good.gone {rm : List Nat} {gs : List Go} {st : Std} {i : Nat} (mo : MapOk rm gs) (g : Good rm gs st) (hi : i < rm.length) (hc : canGo rm st i = true) : Good rm gs (gone st i) := by
  have hi2 : i < st.length := by rw [g.len]; exact hi
  have hg := g.row i _ _ (List.getElem?_eq_getElem hi2) (List.getElem?_eq_getElem hi)
  have ei : st.getD i [] = st[i] := getD_of (List.getElem?_eq_getElem hi2)
  unfold M.gone
  cases e : st.getD i [] with
  | nil => exact g
  | cons w r =>
    rw [← ei, e] at hg
    obtain ⟨hlen, hw⟩ := hg
    have keep : ∀ (j : Nat) (u : Rw) (m : Nat), (st.set i r)[j]? = some u → rm[j]? = some m → u.length ≤ m ∧ ∀ w ∈ u, wayOk rm.length gs j w := fun j u m h1 h2 => by
      by_cases z : j = i
      · subst z
        rw [List.getElem?_set_self hi2] at h1
        cases h1
        rw [List.getElem?_eq_getElem hi] at h2
        cases h2
        exact ⟨by simp at hlen; omega, fun v hv => hw v (List.mem_cons_of_mem _ hv)⟩
      · rw [List.getElem?_set_ne (fun y => z y.symm)] at h1
        exact g.row j u m h1 h2
    cases w with
    | nil => exact ⟨by rw [List.length_set]; exact g.len, keep⟩
    | cons x w =>
      have wo := hw (x :: w) List.mem_cons_self
      have hx : x < rm.length := wo.2.1 x List.mem_cons_self
      have hx2 : x < (st.set i r).length := by rw [List.length_set, g.len]; exact hx
      refine ⟨by rw [List.length_set, List.length_set]; exact g.len, fun j u m h1 h2 => ?_⟩
      by_cases z : j = x
      · subst z
        rw [List.getElem?_set_self hx2] at h1
        cases h1
        have hp : (j, j) ∉ gs := fun y => (mo.go _ y).2.2 rfl
        have hadj : (i, j) ∈ gs := wo.2.2 (i, j) List.mem_cons_self
        have ne : j ≠ i := fun y => by
          subst y; exact hp hadj
        have hj2 : j < st.length := by rw [g.len]; exact hx
        have e3 : (st.set i r).getD j [] = st.getD j [] := by
          rw [List.getD_eq_getElem?_getD, List.getD_eq_getElem?_getD, List.getElem?_set_ne (fun y => ne y.symm)]
        rw [e3]
        have hg2 := g.row j _ m (List.getElem?_eq_getElem hj2) h2
        have ej : st.getD j [] = st[j] := getD_of (List.getElem?_eq_getElem hj2)
        rw [← ej] at hg2
        have hfull : lenAt st j ≠ rm.getD j 0 := fun y => by
          unfold canGo at hc
          rw [e] at hc
          have : (!decide (lenAt st j = rm.getD j 0)) = true := hc
          rw [decide_eq_true y] at this
          cases this
        have em : rm.getD j 0 = m := by rw [List.getD_eq_getElem?_getD, h2]; rfl
        unfold lenAt at hfull
        rw [em] at hfull
        refine ⟨by rw [List.length_append, List.length_singleton]; omega, fun v hv => ?_⟩
        rcases List.mem_append.mp hv with y | y
        · exact hg2.2 v y
        · rw [List.mem_singleton.mp y]
          exact ⟨by have := wo.1; simp at this; omega, fun a ha => wo.2.1 a (List.mem_cons_of_mem _ ha), adj_tail wo.2.2⟩
      · rw [List.getElem?_set_ne (fun y => z y.symm)] at h1
        exact keep j u m h1 h2
def rowN (r : Rw) : Nat := (r.map fun w => w.length + 1).sum
theorem sum_set (st : Std) (i : Nat) (r : Rw) (h : i < st.length) : leftN (st.set i r) + rowN (st.getD i []) = leftN st + rowN r := by
  induction st generalizing i with
  | nil => simp at h
  | cons u st ih =>
    cases i with
    | zero =>
      show (rowN r + leftN st) + rowN u = (rowN u + leftN st) + rowN r
      omega
    | succ i =>
      have := ih i (by simpa using h)
      show (rowN u + leftN (st.set i r)) + rowN (st.getD i []) = (rowN u + leftN st) + rowN r
      omega
theorem left_gone {rm : List Nat} {gs : List Go} {st : Std} {i : Nat} (mo : MapOk rm gs) (g : Good rm gs st) (hi : i < rm.length) (hc : canGo rm st i = true) : leftN (gone st i) + 1 = leftN st := by
  have hi2 : i < st.length := by rw [g.len]; exact hi
  unfold gone
  cases e : st.getD i [] with
  | nil => exact absurd e (canGo_ne hc)
  | cons w r =>
    have h1 := sum_set st i r hi2
    rw [e] at h1
    have e2 : rowN (w :: r) = w.length + 1 + rowN r := rfl
    rw [e2] at h1
    cases w with
    | nil => simp at h1 ⊢; omega
    | cons x w =>
      have hx : x < rm.length := g.stops _ (getD_mem e) _ List.mem_cons_self _ List.mem_cons_self
      have h2 := sum_set (st.set i r) x ((st.set i r).getD x [] ++ [w]) (by rw [List.length_set, g.len]; exact hx)
      have e3 : rowN ((st.set i r).getD x [] ++ [w]) = rowN ((st.set i r).getD x []) + (w.length + 1) := by
        unfold rowN
        rw [List.map_append, List.sum_append]
        simp
      rw [e3] at h2
      simp at h1 h2 ⊢
      omega
end M

set_option Elab.async false
set_option linter.all false
set_option maxRecDepth 100000
set_option maxHeartbeats 1000000
namespace M
open PySem L2
/-! ### no knot, something left: somebody may go -/
def Chn (f : Nat → Option Nat) : Nat → List Nat → Nat → Prop
  | a, [], b => f a = some b
  | a, c :: post, b => f a = some c ∧ Chn f c post b
theorem Chn.split {f : Nat → Option Nat} {b e : Nat} : ∀ {a : Nat} {p1 p2 : List Nat}, Chn f a (p1 ++ b :: p2) e → Chn f b p2 e
  | _, [], _, h => h.2
  | _, _ :: p1, _, h => Chn.split (p1 := p1) h.2
theorem trail_chn {f : Nat → Option Nat} {b : Nat} : ∀ (post : List Nat) (don : List Nat) (a k : Nat), Chn f a post b → b ∈ don → (don ++ post).Nodup → post.length < k → trail f k don a = (don ++ post, some b)
  | [], don, a, k + 1, h, hb, _, _ => by
    rw [trail_in h hb, List.append_nil]
  | c :: post, don, a, k + 1, h, hb, hn, hk => by
    have hc : c ∉ don := fun z => (List.nodup_append.mp hn).2.2 c z c List.mem_cons_self rfl
    rw [trail_go h.1 hc, trail_chn post (don ++ [c]) c k h.2 (List.mem_append_left _ hb) (by rw [List.append_assoc]; exact hn) (by simp at hk; omega), List.append_assoc]
    rfl
theorem trail_ends {f : Nat → Option Nat} {n : Nat} {P : Nat → Prop} (hf : ∀ a, P a → ∃ b, f a = some b ∧ P b ∧ b < n) : ∀ (k : Nat) (ring : List Nat) (a : Nat), P a → ring.Nodup → (∀ x ∈ ring, x < n) → n + 1 ≤ k + ring.length →
    ∃ post b, trail f k ring a = (ring ++ post, some b) ∧ Chn f a post b ∧ b ∈ ring ++ post ∧ (ring ++ post).Nodup ∧ ∀ x ∈ ring ++ post, x < n
  | 0, ring, a, _, h1, h2, h3 => absurd (pigeon n ring h1 h2) (by omega)
  | k + 1, ring, a, hp, h1, h2, h3 => by
    obtain ⟨b, e, hb, hlt⟩ := hf a hp
    by_cases z : b ∈ ring
    · exact ⟨[], b, by rw [trail_in e z, List.append_nil], e, by rw [List.append_nil]; exact z, by rw [List.append_nil]; exact h1, by rw [List.append_nil]; exact h2⟩
    · obtain ⟨post, c, k1, k2, k3, k4, k5⟩ := trail_ends hf k (ring ++ [b]) b hb (nodup_snoc h1 z) (fun x hx => by
        rcases List.mem_append.mp hx with q | q
        · exact h2 x q
        · rw [List.mem_singleton.mp q]; exact hlt) (by rw [List.length_append, List.length_singleton]; omega)
      have e2 : ring ++ [b] ++ post = ring ++ b :: post := by rw [List.append_assoc]; rfl
      rw [e2] at k1 k3 k4 k5
      exact ⟨b :: post, c, by rw [trail_go e z, k1], ⟨e, k2⟩, k3, k4, k5⟩
theorem knot_some {f : Nat → Option Nat} {n : Nat} {P : Nat → Prop} (hf : ∀ a, P a → ∃ b, f a = some b ∧ P b ∧ b < n) {x : Nat} (hp : P x) (hx : x < n) : ∃ c, c < n ∧ knot f n c ≠ none := by
  obtain ⟨post, b, k1, k2, k3, k4, k5⟩ := trail_ends hf n [x] x hp (by simp) (by simpa using hx) (by simp)
  have hb := k5 b k3
  refine ⟨b, hb, ?_⟩
  unfold knot
  by_cases z : b = x
  · subst z
    rw [k1, if_pos rfl]
    simp
  · have hm : b ∈ post := by
      rcases List.mem_append.mp k3 with q | q
      · exact absurd (List.mem_singleton.mp q) z
      · exact q
    obtain ⟨p1, p2, e⟩ := List.append_of_mem hm
    subst e
    have hn : ([b] ++ p2).Nodup := by
      have q1 := (List.nodup_append.mp k4).2.1
      exact (List.nodup_append.mp q1).2.1
    have hl := pigeon n ([b] ++ p2) hn (fun y hy => k5 y (List.mem_append_right _ (List.mem_append_right _ hy)))
    have h2 : Chn f b p2 b := Chn.split k2
    rw [trail_chn p2 [b] b n h2 (by simp) hn (by simp at hl; omega), if_pos rfl]
    simp
theorem someone {rm : List Nat} {gs : List Go} {st : Std} (mo : MapOk rm gs) (g : Good rm gs st) (hl : 0 < leftN st) (hk : firstKnot rm st = none) : firsts rm st ≠ [] := by
  intro hf
  have no : ∀ i, i < rm.length → canGo rm st i = false := fun i hi => by
    cases q : canGo rm st i with
    | false => rfl
    | true =>
      exfalso
      have : i ∈ firsts rm st := List.mem_filter.mpr ⟨List.mem_range.mpr (by rw [g.len]; exact hi), q⟩
      rw [hf] at this
      cases this
  -- a row that holds somebody: its first one waits for a full lane
  have wait : ∀ a w r, a < rm.length → st.getD a [] = w :: r → ∃ x w', w = x :: w' ∧ lenAt st x = rm.getD x 0 ∧ x < rm.length := fun a w r ha e => by
    have h := no a ha
    unfold canGo at h
    rw [e] at h
    cases w with
    | nil => cases h
    | cons x w =>
      have hx : x < rm.length := g.stops _ (getD_mem e) _ List.mem_cons_self _ List.mem_cons_self
      refine ⟨x, w, rfl, ?_, hx⟩
      by_cases q : lenAt st x = rm.getD x 0
      · exact q
      · have h : (!decide (lenAt st x = rm.getD x 0)) = false := h
        rw [decide_eq_false q] at h
        cases h
  have step : ∀ a, (a < rm.length ∧ lenAt st a = rm.getD a 0) → ∃ b, nxt rm st a = some b ∧ (b < rm.length ∧ lenAt st b = rm.getD b 0) ∧ b < rm.length := fun a ⟨ha, hfull⟩ => by
    have h1 : 1 ≤ rm.getD a 0 := by
      rw [List.getD_eq_getElem?_getD, List.getElem?_eq_getElem ha]
      exact (mo.room _ (List.getElem_mem ha)).1
    cases e : st.getD a [] with
    | nil =>
      unfold lenAt at hfull
      rw [e] at hfull
      rw [← hfull] at h1
      simp at h1
    | cons w r =>
      obtain ⟨x, w', rfl, k1, k2⟩ := wait a w r ha e
      refine ⟨x, ?_, ⟨k2, k1⟩, k2⟩
      unfold nxt
      rw [if_pos hfull, e]
  -- some row holds somebody
  have some_ : ∃ a w r, a < rm.length ∧ st.getD a [] = w :: r := by
    have : ∃ u ∈ st, u ≠ [] := by
      by_cases q : ∃ u ∈ st, u ≠ []
      · exact q
      · exfalso
        have all : ∀ u ∈ st, u = [] := fun u hu => by
          by_cases z : u = []
          · exact z
          · exact absurd ⟨u, hu, z⟩ q
        have : leftN st = 0 := by
          clear hl hk hf no wait step q g mo
          unfold leftN
          induction st with
          | nil => rfl
          | cons u st ih =>
            rw [List.map_cons, List.sum_cons, all u List.mem_cons_self, ih fun v hv => all v (List.mem_cons_of_mem _ hv)]
            rfl
        omega
    obtain ⟨u, hu, hne⟩ := this
    obtain ⟨i, hi, e⟩ := List.mem_iff_getElem.mp hu
    cases u with
    | nil => exact absurd rfl hne
    | cons w r => exact ⟨i, w, r, by rw [← g.len]; exact hi, getD_of (by rw [List.getElem?_eq_getElem hi, e])⟩
  obtain ⟨a, w, r, ha, e⟩ := some_
  obtain ⟨x, _, _, k1, k2⟩ := wait a w r ha e
  obtain ⟨c, hc, kn⟩ := knot_some (P := fun a => a < rm.length ∧ lenAt st a = rm.getD a 0) step (x := x) ⟨k2, k1⟩ k2
  unfold firstKnot at hk
  exact kn (List.findSome?_eq_none_iff.mp hk c (List.mem_range.mpr hc))
end M

set_option Elab.async false
set_option linter.all false
set_option maxRecDepth 100000
set_option maxHeartbeats 1000000
namespace M
open PySem L2
/-! ### what is drawn -/
theorem loop_rng {α τ β : Type} {g : Nat → α} {body : α → τ → N (Fl τ τ)} {I : Nat → τ → Prop} {n : Nat} {k : Fl τ β → Prop} {e : Nat → D → Prop}
    (hb : ∀ i t, i < n → I i t → (body (g i) t).wp (fun f => match f with | .nx t' => I (i + 1) t' | .ct t' => I (i + 1) t' | .bk t' => k (.nx t') | .rt d => k (.rt d)) e) (h0 : ∀ t, I n t → k (.nx t)) :
    ∀ j i t, i + j = n → I i t → (N.loop (β := β) body ((List.range' i j).map g) t).wp k e
  | 0, i, t, hi, h => h0 t (by rw [show n = i by omega]; exact h)
  | j + 1, i, t, hi, h => (body (g i) t).mono (fun f z => by
      cases f with
      | nx t' => exact loop_rng hb h0 j (i + 1) t' (by omega) z
      | ct t' => exact loop_rng hb h0 j (i + 1) t' (by omega) z
      | bk t' => exact z
      | rt d => exact z) (fun _ _ z => z) (hb i t (by omega) h)
theorem loop_rng0 {α τ β : Type} {g : Nat → α} {body : α → τ → N (Fl τ τ)} (I : Nat → τ → Prop) {n : Nat} {t : τ} {k : Fl τ β → Prop} {e : Nat → D → Prop} (h : I 0 t)
    (hb : ∀ i t, i < n → I i t → (body (g i) t).wp (fun f => match f with | .nx t' => I (i + 1) t' | .ct t' => I (i + 1) t' | .bk t' => k (.nx t') | .rt d => k (.rt d)) e) (h0 : ∀ t, I n t → k (.nx t)) :
    (N.loop (β := β) body ((List.range n).map g) t).wp k e := by
  rw [List.range_eq_range']
  exact loop_rng hb h0 n 0 t (by omega) h
theorem of_wp {xs : List D} {k : D → Prop} {e : Nat → D → Prop} (h0 : xs ≠ []) (h1 : xs.length < 1000) (h : ∀ d ∈ xs, k d) : (m_law_of (.dl 0) (.lst xs)).wp k e := by
  unfold m_law_of
  simp only [N.ok_bind]
  rw [show dLen (.lst xs) = .ok (.int (xs.length : Int)) by simp [dLen, items]]
  simp only [N.ok_bind]
  have hp : 0 < xs.length := List.length_pos_iff.mpr h0
  refine any_bind (by omega) (by omega) fun r r0 r1 => ?_
  have hr : r.toNat < xs.length := by omega
  have e1 : dIx (.lst xs) (.int r) = .ok xs[r.toNat] := by
    have := ix_l (xs := xs) (i := r.toNat) (List.getElem?_eq_getElem hr)
    rw [show ((r.toNat : Nat) : Int) = r by omega] at this
    exact this
  rw [e1]
  exact h _ (List.getElem_mem hr)
theorem rng_ok {n : Nat} (h : n ≤ 1000) : N.rng1 (nD n) = .ok ((List.range n).map nD) := by
  unfold N.rng1 nD
  simp only []
  rw [N.asrt_of ⟨by omega, by omega⟩]
  simp only [N.ok_bind, Int.toNat_natCast]
  rw [show runD 0 n = (List.range n).map nD from run0L n]
  rfl
theorem neS_nat (a b : Nat) : dNeS (nD a) (nD b) = .ok (.bl (!decide (a = b))) := by
  unfold nD
  simp only [dNeS, sEq, N.ok_bind]
  congr 2
  rw [show (decide ((a : Int) = (b : Int))) = decide (a = b) by rw [Bool.eq_iff_iff, decide_eq_true_eq, decide_eq_true_eq]; omega]
theorem rng_fin {α τ τ2 β : Type} {g : Nat → α} {body : α → τ → N (Fl τ τ)} {m : τ → N (Fl τ2 β)} (I : Nat → τ → Prop) {n : Nat} {t : τ} {k : D → Prop} {e : Nat → D → Prop} (h : I 0 t)
    (hb : ∀ i t, i < n → I i t → (body (g i) t).wp (fun f => match f with | .nx t' => I (i + 1) t' | .ct t' => I (i + 1) t' | .bk t' => (m t').fin.wp k e | .rt d => k d) e) (h0 : ∀ t, I n t → (m t).fin.wp k e) :
    (N.fin (N.seq (N.loop body ((List.range n).map g) t) m)).wp k e :=
  (N.loop (β := β) body ((List.range n).map g) t).mono (fun f z => by cases f <;> exact z) (fun _ _ z => z) (loop_rng0 (β := β) I (k := fun f => match f with | .nx t => (m t).fin.wp k e | .rt d => k d | .bk b => False | .ct b => False) h hb h0)
theorem rng_seq {α τ τ2 β : Type} {g : Nat → α} {body : α → τ → N (Fl τ τ)} {m : τ → N (Fl τ2 β)} (I : Nat → τ → Prop) {n : Nat} {t : τ} {k : Fl τ2 β → Prop} {e : Nat → D → Prop} (h : I 0 t)
    (hb : ∀ i t, i < n → I i t → (body (g i) t).wp (fun f => match f with | .nx t' => I (i + 1) t' | .ct t' => I (i + 1) t' | .bk t' => (m t').wp k e | .rt d => k (.rt d)) e) (h0 : ∀ t, I n t → (m t).wp k e) :
    (N.seq (N.loop body ((List.range n).map g) t) m).wp k e :=
  (N.loop (β := β) body ((List.range n).map g) t).mono (fun f z => by cases f <;> first | exact z | exact z.elim) (fun _ _ z => z) (loop_rng0 (β := β) I (k := fun f => match f with | .nx t => (m t).wp k e | .rt d => k (.rt d) | .bk b => False | .ct b => False) h hb h0)
/-- goings that are drawn -/
structure Drawn (n a b : Nat) (gs : List Go) : Prop where
  sort : gs.Pairwise lexLt
  go : ∀ p ∈ gs, goOk n p
  lt : ∀ p ∈ gs, p.1 < a ∨ (p.1 = a ∧ p.2 < b)
  many : gs.length ≤ a * n + b
theorem Drawn.add {n a b : Nat} {gs : List Go} (h : Drawn n a b gs) (ha : a < n) (hb : b < n) (hne : a ≠ b) : Drawn n a (b + 1) (gs ++ [(a, b)]) := by
  refine ⟨List.pairwise_append.mpr ⟨h.sort, by simp, fun p hp q hq => ?_⟩, fun p hp => ?_, fun p hp => ?_, ?_⟩
  · rw [List.mem_singleton.mp hq]
    exact h.lt p hp
  · rcases List.mem_append.mp hp with z | z
    · exact h.go p z
    · rw [List.mem_singleton.mp z]; exact ⟨ha, hb, hne⟩
  · rcases List.mem_append.mp hp with z | z
    · rcases h.lt p z with y | y
      · exact .inl y
      · exact .inr ⟨y.1, by omega⟩
    · rw [List.mem_singleton.mp z]; exact .inr ⟨rfl, by simp⟩
  · rw [List.length_append, List.length_singleton]
    have := h.many
    omega
theorem Drawn.skip {n a b : Nat} {gs : List Go} (h : Drawn n a b gs) : Drawn n a (b + 1) gs := ⟨h.sort, h.go, fun p hp => by
  rcases h.lt p hp with y | y
  · exact .inl y
  · exact .inr ⟨y.1, by omega⟩, by have := h.many; omega⟩
theorem Drawn.next {n a : Nat} {gs : List Go} (h : Drawn n a n gs) : Drawn n (a + 1) 0 gs := ⟨h.sort, h.go, fun p hp => by
  rcases h.lt p hp with y | y
  · exact .inl (by omega)
  · exact .inl (by omega), by have := h.many; rw [Nat.add_mul]; omega⟩
theorem lawGoings_wp {n : Nat} {k : D → Prop} {e : Nat → D → Prop} (hn : n ≤ 5) (h : ∀ gs : List Go, Drawn n n 0 gs → k (.lst (gs.map gD))) : (m_law_goings (.dl 0) (nD n)).wp k e := by
  have z := sz1000
  have fin : ∀ gs : List Go, Drawn n n 0 gs → gs.length ≤ 25 := fun gs d => by
    have := d.many
    have : n * n ≤ 25 := Nat.mul_le_mul hn hn
    omega
  unfold m_law_goings
  simp only [N.ok_bind, N.ok_seq, rng_ok (show n ≤ 1000 by omega), decs_id]
  refine rng_fin (fun a (t : List D) => ∃ gs, t = gs.map gD ∧ Drawn n a 0 gs) ⟨[], rfl, List.Pairwise.nil, by simp, by simp, by simp⟩ (fun a t ha ⟨gs, et, dr⟩ => ?_) (fun t ⟨gs, et, dr⟩ => by subst et; exact h gs dr)
  subst et
  refine rng_seq (fun b (t : List D) => ∃ gs, t = gs.map gD ∧ Drawn n a b gs) ⟨gs, rfl, dr⟩ (fun b t hb ⟨gs, et, dr⟩ => ?_) (fun t ⟨gs, et, dr⟩ => ⟨gs, et, dr.next⟩)
  subst et
  simp only [neS_nat, N.ok_bind, N.tst_bl]
  by_cases q : a = b
  · rw [decide_eq_true q]
    exact ⟨gs, rfl, dr.skip⟩
  · rw [decide_eq_false q]
    refine any_bind (by decide) (by decide) fun r r0 r1 => ?_
    have lt : dLt (D.int r) (.int 2) = .ok (.bl (decide (r < 2))) := rfl
    by_cases q2 : r < 2
    · rw [lt, decide_eq_true q2]
      refine ⟨by simp; omega, ?_⟩
      refine ⟨?_, ?_⟩
      · rw [List.length_map]
        have := dr.many
        have : a * n ≤ 4 * 5 := Nat.mul_le_mul (by omega) hn
        omega
      · exact ⟨gs ++ [(a, b)], by rw [List.map_append]; rfl, dr.add ha hb q⟩
    · rw [lt, decide_eq_false q2]
      exact ⟨gs, rfl, dr.skip⟩
end M

set_option Elab.async false
set_option linter.all false
set_option maxRecDepth 100000
set_option maxHeartbeats 1000000
namespace M
open PySem L2
/-! ### the source, ways, standings that are drawn -/
theorem cut_map (ns : List Int) (lo hi : Option Int) : ∃ ms : List Int, cutD (ns.map D.int) lo hi = ms.map D.int ∧ ms.length ≤ ns.length := by
  refine ⟨(ns.drop (HT.sIx ns.length 0 lo)).take (HT.sIx ns.length ns.length hi - HT.sIx ns.length 0 lo), ?_, ?_⟩
  · unfold cutD
    rw [List.length_map, ← List.map_drop, ← List.map_take]
  · rw [List.length_take, List.length_drop]
    omega
theorem intsD_map : ∀ ms : List Int, intsD (ms.map D.int) = some ms
  | [] => rfl
  | m :: ms => by
    show (intsD (ms.map D.int)).map (m :: ·) = _
    rw [intsD_map ms]
    rfl
theorem mkCells_ok {ms : List Int} (h : ms.length ≤ sizeLine) : mkCells (.lst (ms.map D.int)) = .ok (.dl 1) := by
  unfold mkCells
  simp only []
  rw [N.asrt_of ⟨by rw [List.length_map]; exact h, ms, intsD_map ms⟩]
  rfl
def gAbs : D → D
  | .int i => .int (if i < 0 then -i else i)
  | d => d
theorem source_wp {ns : List Int} (h : ns.length ≤ 63) {k : D → Prop} {e : Nat → D → Prop} (hk : k (.dl 0)) : (m_law_source (.lst (ns.map D.int))).wp k e := by
  unfold m_law_source N.lcG
  obtain ⟨ms, e1, hm⟩ := cut_map ns none (some 48)
  have e2 : dSlL (.lst (ns.map D.int)) none (some 48) = .ok (.lst (ms.map D.int)) := by
    unfold dSlL
    simp only [e1]
  have e3 : toI (.int 48) = .ok 48 := rfl
  have e4 : seqOf (.lst (ms.map D.int)) = .ok (ms.map D.int) := rfl
  have z := size64
  obtain ⟨as, ha, hl⟩ : ∃ as : List Int, (ms.map D.int).map gAbs = as.map D.int ∧ as.length = ms.length := ⟨ms.map fun i => if i < 0 then -i else i, by rw [List.map_map, List.map_map]; rfl, List.length_map _⟩
  have e5 : N.comp (fun _ => .ok true) (fun c2 => (dInt c2).bind dAbs) (ms.map D.int) = .ok (as.map D.int) := by
    rw [N.comp_all (g := gAbs) _ (fun x hx => by
      rw [List.mem_map] at hx
      obtain ⟨i, _, rfl⟩ := hx
      rfl), ha]
  have e6 : seqOf (.lst (as.map D.int)) = .ok (as.map D.int) := rfl
  simp only [N.ok_bind, e3, e2, e4, decs_id, N.fits_of (show (ms.map D.int).length ≤ sizeLine by rw [List.length_map]; omega), e5, N.ok_seq, dAdd, iOp_ok, e6]
  have ep : dPow (.int 10) (.int 18) = .ok (.int 1000000000000000000) := iOpC_ok (f := fun i j => .int (i ^ j.toNat)) ⟨by decide, by decide, by decide⟩
  have ec : N.comp (fun c7 => (((dPow (.int 10) (.int 18)).bind fun y => dGe c7 y).bind N.tst)) (fun c7 => (.ok c7)) (as.map D.int) = .ok ((as.filter fun i => decide (1000000000000000000 ≤ i)).map D.int) := by
    rw [N.comp_ok (p := fun d => match d with | .int i => decide (1000000000000000000 ≤ i) | _ => false) (g := fun d => d) (as.map D.int) (fun x hx => by
      rw [List.mem_map] at hx
      obtain ⟨i, _, rfl⟩ := hx
      simp only [ep, N.ok_bind, dGe, iOp_ok, N.tst_bl]) (fun _ _ => rfl)]
    rw [List.map_id'' (fun _ => rfl), List.filter_map]
    rfl
  simp only [ep, N.ok_bind] at ec
  refine N.loop_thenM (fun x => ∃ i : Int, x = .int i) (fun _ t => ∃ z : Int, t = .int z) (fun x t n hx ht => ?_) (fun t ht => ?_) _ _ (fun x hx => ?_) ⟨_, rfl⟩
  · obtain ⟨i, rfl⟩ := hx
    obtain ⟨z, rfl⟩ := ht
    have f1 : dMul (.int z) (.int 48271) = .ok (.int (z * 48271)) := iOpC_ok (.inr ⟨by decide, by decide⟩)
    have f2 : dMod (.int i) (.int 2147483543) = .ok (.int (i % 2147483543)) := iOpC_ok (C := fun _ j => 0 < j) (by decide)
    have f3 : dMod (.int (z * 48271 + i % 2147483543 + 53)) (.int 2147483629) = .ok (.int ((z * 48271 + i % 2147483543 + 53) % 2147483629)) := iOpC_ok (C := fun _ j => 0 < j) (by decide)
    simp only [f1, f2, dAdd, iOp_ok, N.ok_bind, dInt, f3, N.ok_seq]
    exact ⟨_, rfl⟩
  · obtain ⟨z, rfl⟩ := ht
    simp only [ep, N.ok_bind, N.fits_of (show (as.map D.int).length ≤ sizeLine by rw [List.length_map]; omega), ec, mkCells_ok (ms := as.filter fun i => decide (1000000000000000000 ≤ i)) (by have := List.length_filter_le (fun i => decide ((1000000000000000000 : Int) ≤ i)) as; omega), mkDeal]
    exact hk
  · rw [List.mem_map] at hx
    obtain ⟨i, _, rfl⟩ := hx
    exact ⟨_, rfl⟩
/-! ways -/
theorem comp_okM {α β : Type} {t : β → N Bool} {fn : β → N D} {f : α → β} {p : α → Bool} {g : α → D} : ∀ xs : List α, (∀ x ∈ xs, t (f x) = .ok (p x)) → (∀ x ∈ xs, fn (f x) = .ok (g x)) → N.comp t fn (xs.map f) = .ok ((xs.filter p).map g)
  | [], _, _ => rfl
  | x :: xs, ht, hf => by
    show (N.ne (t (f x))).bind _ = _
    rw [ht x List.mem_cons_self, hf x List.mem_cons_self, comp_okM xs (fun y h => ht y (List.mem_cons_of_mem _ h)) (fun y h => hf y (List.mem_cons_of_mem _ h))]
    show (if p x = true then _ else _) = _
    cases h : p x with
    | true => rw [if_pos rfl, List.filter_cons_of_pos h]; rfl
    | false => rw [if_neg Bool.false_ne_true, List.filter_cons_of_neg (by rw [h]; exact Bool.false_ne_true)]
theorem decs_go : ∀ gs : List Go, N.decs dec2 (gs.map gD) = .ok (gs.map fun p => (nD p.1, nD p.2))
  | gs => by
    unfold N.decs
    have : decAll dec2 (gs.map gD) = some (gs.map fun p => (nD p.1, nD p.2)) := by
      induction gs with
      | nil => rfl
      | cons p gs ih =>
        simp only [List.map_cons, decAll, ih]
        rfl
    rw [this]
def lst (a : Nat) (w : Way) : Nat := w.getLast?.getD a
theorem adj_snoc : ∀ (a : Nat) (w : Way) (b : Nat), adj a (w ++ [b]) = adj a w ++ [(lst a w, b)]
  | a, [], b => rfl
  | a, c :: w, b => by
    show (a, c) :: adj c (w ++ [b]) = _
    rw [adj_snoc c w b]
    have : lst a (c :: w) = lst c w := by
      unfold lst
      rw [List.getLast?_cons]
      rfl
    rw [this]
    rfl
theorem lst_snoc (a : Nat) (w : Way) (b : Nat) : lst a (w ++ [b]) = b := by unfold lst; simp
theorem lawWay_wp {n lane : Nat} {gs : List Go} {k : D → Prop} {e : Nat → D → Prop} (hgo : ∀ p ∈ gs, goOk n p) (hm : gs.length ≤ 25) (hk : ∀ w : Way, wayOk n gs lane w → k (wD w)) : (m_law_way (.dl 0) (.lst (gs.map gD)) (nD lane) (.int 4)).wp k e := by
  have z := sz1000
  unfold m_law_way
  simp only [N.ok_bind, N.ok_seq]
  rw [show dAdd (.int 4) (.int 1) = .ok (.int 5) from rfl]
  simp only [N.ok_bind]
  refine any_bind (by decide) (by decide) fun r r0 r1 => ?_
  rw [show D.int r = nD r.toNat by unfold nD; congr 1; omega, rng_ok (by omega)]
  simp only [N.ok_bind, decs_id]
  refine rng_fin (fun i (t : D × List D) => ∃ w : Way, t = (nD (lst lane w), w.map nD) ∧ w.length ≤ i ∧ (∀ x ∈ w, x < n) ∧ ∀ p ∈ adj lane w, p ∈ gs) ⟨[], rfl, by simp, by simp, by intro p hp; cases hp⟩ (fun i t hi ⟨w, et, h1, h2, h3⟩ => ?_) (fun t ⟨w, et, h1, h2, h3⟩ => by subst et; exact hk w ⟨by omega, h2, h3⟩)
  subst et
  have e1 : N.lcG (seqOf (.lst (gs.map gD))) dec2 (fun c4 : D × D => ((dEqD c4.1 (nD (lst lane w))).bind N.tst)) (fun c4 : D × D => .ok c4.2) = .ok (.lst (((gs.filter fun p => decide (p.1 = lst lane w)).map fun p => p.2).map nD)) := by
    unfold N.lcG
    rw [show seqOf (.lst (gs.map gD)) = .ok (gs.map gD) from rfl]
    simp only [N.ok_bind, decs_go]
    rw [N.fits_of (by rw [List.length_map]; omega)]
    simp only [N.ok_bind]
    rw [comp_okM (t := fun c4 : D × D => (dEqD c4.1 (nD (lst lane w))).bind N.tst) (fn := fun c4 : D × D => .ok c4.2) (f := fun p : Go => (nD p.1, nD p.2)) (p := fun p : Go => decide (p.1 = lst lane w)) (g := fun p => nD p.2) gs (fun p _ => by show (dEqD (nD p.1) (nD (lst lane w))).bind N.tst = _; rw [enc_nat.eqD (by decide)]; rfl) (fun p _ => rfl), List.map_map]
    rfl
  simp only [e1, N.ok_bind, N.ok_seq]
  rw [N.le1_of (by simp)]
  simp only [N.ok_bind]
  have ne : ∀ L : List Nat, dNeD (.lst (L.map nD)) (.lst []) = .ok (.bl (!decide (L = []))) := fun L => enc_nat.lst.neD (by decide) L []
  rw [ne]
  simp only [N.ok_bind, N.tst_bl]
  by_cases q : ((gs.filter fun p => decide (p.1 = lst lane w)).map fun p => p.2) = []
  · rw [decide_eq_true q]
    exact ⟨w, rfl, by omega, h2, h3⟩
  · rw [decide_eq_false q]
    refine of_wp (by simpa using q) (by rw [List.length_map, List.length_map]; have := List.length_filter_le (fun p : Go => decide (p.1 = lst lane w)) gs; omega) fun d hd => ?_
    obtain ⟨b, hb, rfl⟩ := List.mem_map.mp hd
    obtain ⟨p, hp, rfl⟩ := List.mem_map.mp hb
    obtain ⟨p1, p2⟩ := List.mem_filter.mp hp
    have e2 := of_decide_eq_true p2
    refine ⟨by rw [List.length_map]; omega, ⟨w ++ [p.2], ?_, by rw [List.length_append]; simp; omega, fun x hx => ?_, fun y hy => ?_⟩⟩
    · rw [lst_snoc, List.map_append]
      rfl
    · rcases List.mem_append.mp hx with y | y
      · exact h2 x y
      · rw [List.mem_singleton.mp y]; exact (hgo p p1).2.1
    · rw [adj_snoc] at hy
      rcases List.mem_append.mp hy with q | q
      · exact h3 y q
      · rw [List.mem_singleton.mp q, ← e2]; exact p1
end M

set_option Elab.async false
set_option linter.all false
set_option maxRecDepth 100000
set_option maxHeartbeats 1000000
namespace M
open PySem L2
/-! ### standings that are drawn -/
theorem comp_wp {α : Type} {f : α → N D} {Q : D → Prop} : ∀ (xs : List α) {k : List D → Prop} {e : Nat → D → Prop}, (∀ x ∈ xs, (f x).wp Q (fun _ _ => False)) → (∀ ys : List D, ys.length = xs.length → (∀ y ∈ ys, Q y) → k ys) → (N.comp (fun _ => .ok true) f xs).wp k e
  | [], k, e, _, hk => hk [] rfl (by simp)
  | x :: xs, k, e, hf, hk => by
    show (f x).wp (fun y => (N.comp (fun _ => .ok true) f xs).wp (fun ys => k (y :: ys)) e) (fun _ _ => False)
    exact (f x).mono (fun y hy => comp_wp xs (fun z hz => hf z (List.mem_cons_of_mem _ hz)) fun ys hl hq => hk (y :: ys) (by simp [hl]) (fun z hz => by
      rcases List.mem_cons.mp hz with q | q
      · subst q; exact hy
      · exact hq z q)) (fun _ _ z => z) (hf x List.mem_cons_self)
theorem rows_of {n i : Nat} {gs : List Go} : ∀ ys : List D, (∀ y ∈ ys, ∃ w, y = wD w ∧ wayOk n gs i w) → ∃ r : Rw, ys = r.map wD ∧ ∀ w ∈ r, wayOk n gs i w
  | [], _ => ⟨[], rfl, by simp⟩
  | y :: ys, h => by
    obtain ⟨w, e, hw⟩ := h y List.mem_cons_self
    obtain ⟨r, e2, hr⟩ := rows_of ys fun z hz => h z (List.mem_cons_of_mem _ hz)
    exact ⟨w :: r, by rw [e, e2]; rfl, fun v hv => by
      rcases List.mem_cons.mp hv with q | q
      · subst q; exact hw
      · exact hr v q⟩
theorem lawStanding_wp {rm : List Nat} {gs : List Go} {k : D → Prop} {e : Nat → D → Prop} (mo : MapOk rm gs) (hm : gs.length ≤ 25) (hk : ∀ st : Std, Good rm gs st → k (stD st)) : (m_law_standing (.dl 0) (.lst (rm.map nD)) (.lst (gs.map gD)) (.int 4)).wp k e := by
  have z := sz1000
  have h12 := mo.len
  unfold m_law_standing
  simp only [N.ok_bind, N.ok_seq]
  rw [show enOf (.lst (rm.map nD)) = .ok (rm.map nD) from rfl]
  simp only [N.ok_bind, decs_num]
  rw [show ((numbered (rm.map nD)).map fun p => ((.int p.1 : D), p.2)) = numP (rm.map nD) from rfl, numP_range, List.length_map]
  refine rng_fin (fun i (t : List D) => ∃ st : Std, t = st.map rowD ∧ st.length = i ∧ ∀ (j : Nat) (r : Rw) (m : Nat), st[j]? = some r → rm[j]? = some m → r.length ≤ m ∧ ∀ w ∈ r, wayOk rm.length gs j w) ⟨[], rfl, rfl, by intro j r m h; simp at h⟩ (fun i t hi ⟨st, et, hl, hst⟩ => ?_) (fun t ⟨st, et, hl, hst⟩ => by subst et; exact hk st ⟨hl, hst⟩)
  subst et
  have hrm : rm[i]? = some rm[i] := List.getElem?_eq_getElem hi
  have e0 : (rm.map nD).getD i .non = nD rm[i] := by
    rw [List.getD_eq_getElem?_getD, List.getElem?_map, hrm]
    rfl
  have hr9 := mo.room rm[i] (List.getElem_mem hi)
  simp only [e0]
  refine any_bind (by decide) (by decide) fun r r0 r1 => ?_
  have e1 : dEqS (.int r) (.int 0) = .ok (.bl (decide (r = 0))) := by simp [dEqS, sEq]
  obtain ⟨c, ec, hc⟩ : ∃ c : Nat, (dInt (.bl (decide (r = 0)))).bind (fun y => dSub (nD rm[i]) y) = .ok (nD c) ∧ c ≤ rm[i] := by
    by_cases q : r = 0
    · refine ⟨rm[i] - 1, ?_, by omega⟩
      rw [decide_eq_true q]
      show N.ok (D.int ((rm[i] : Int) - 1)) = _
      unfold nD
      congr 2
      omega
    · refine ⟨rm[i], ?_, by omega⟩
      rw [decide_eq_false q]
      show N.ok (D.int ((rm[i] : Int) - 0)) = _
      unfold nD
      rw [Int.sub_zero]
  rw [e1]
  show ((dInt (.bl (decide (r = 0)))).bind (fun y => dSub (nD rm[i]) y)).wp _ e
  rw [ec]
  simp only [N.wp_ok]
  unfold N.lcG
  simp only [rng_ok (show c ≤ 1000 by omega), N.ok_bind, decs_id]
  rw [N.fits_of (by rw [List.length_map, List.length_range]; omega)]
  simp only [N.ok_bind]
  refine comp_wp (Q := fun y => ∃ w, y = wD w ∧ wayOk rm.length gs i w) _ (fun x _ => lawWay_wp mo.go hm fun w hw => ⟨w, rfl, hw⟩) fun ys hlen hq => ?_
  obtain ⟨rw_, ey, hrw⟩ := rows_of ys hq
  have hl2 : rw_.length = c := by rw [← List.length_map (f := wD), ← ey, hlen, List.length_map, List.length_range]
  refine ⟨by rw [List.length_map]; omega, ⟨st ++ [rw_], ?_, by rw [List.length_append]; simp; omega, fun j r' m h1 h2 => ?_⟩⟩
  · rw [List.map_append, ey]
    rfl
  · by_cases q : j < st.length
    · rw [List.getElem?_append_left q] at h1
      exact hst j r' m h1 h2
    · have hj : j = i := by
        have := (List.getElem?_eq_some_iff.mp h1).1
        rw [List.length_append, List.length_singleton] at this
        omega
      subst hj
      rw [List.getElem?_append_right (by omega), hl, Nat.sub_self] at h1
      simp at h1
      subst h1
      rw [hrm] at h2
      cases h2
      exact ⟨by omega, hrw⟩
end M

set_option Elab.async false
set_option linter.all false
set_option maxRecDepth 100000
set_option maxHeartbeats 1000000
namespace M
open PySem L2
/-! ### what is refused, as the law tells it -/
theorem handle_skip {τ β : Type} {hs : List (Hd τ β)} {m : D → N (Fl τ β)} {i : Option Nat} {c c' : Nat} {ex : Nat → Nat → Bool} {nE : Nat} {x : D} (hc : c < nE) (he : ex c c' = false) : handle ex nE c x (⟨c', i, m⟩ :: hs) = handle ex nE c x hs := by
  show (N.asrt (c < nE)).bind (fun _ => if ex c c' = true then N.ne (m x) else handle ex nE c x hs) = _
  rw [N.asrt_of hc]
  show (if ex c c' = true then N.ne (m x) else handle ex nE c x hs) = _
  rw [he]
  rfl
def erD (s : Str) (v : Int) : D := .tup [.str s, .int v]
def erN (c : Nat) : Str := match c with
  | 0 => "InvalidTies"
  | 1 => "InvalidStanding"
  | 2 => "InvalidLanes"
  | 3 => "InvalidIndex"
  | _ => "Refused"
theorem error_wp {nl : N D} {c : Nat} {v : Int} {e : Nat → D → Prop} (hc : c < 5) (h : nl.wp (fun _ => False) (fun c' x => c' = c ∧ x = .int v)) : (m_law_error nl).wp (fun d => d = erD (erN c) v) e := by
  unfold m_law_error
  refine nl.mono (fun _ z => z.elim) (fun c' x ⟨h1, h2⟩ => ?_) h
  subst h1 h2
  have sz := size64
  show (handle exT 5 c' (.int v) _).wp _ e
  match c', hc with
  | 3, _ =>
    rw [handle_is (by decide) (by decide)]
    simp only [N.ok_bind]
    rw [N.le1_of (by simp; omega)]
    rfl
  | 2, _ =>
    rw [handle_skip (by decide) (by decide), handle_is (by decide) (by decide)]
    simp only [N.ok_bind]
    rw [N.le1_of (by simp; omega)]
    rfl
  | 1, _ =>
    rw [handle_skip (by decide) (by decide), handle_skip (by decide) (by decide), handle_is (by decide) (by decide)]
    simp only [N.ok_bind]
    rw [N.le1_of (by simp; omega)]
    rfl
  | 0, _ =>
    rw [handle_skip (by decide) (by decide), handle_skip (by decide) (by decide), handle_skip (by decide) (by decide), handle_is (by decide) (by decide)]
    simp only [N.ok_bind]
    rw [N.le1_of (by simp; omega)]
    rfl
  | 4, _ =>
    rw [handle_skip (by decide) (by decide), handle_skip (by decide) (by decide), handle_skip (by decide) (by decide), handle_skip (by decide) (by decide), handle_is (by decide) (by decide)]
    simp only [N.ok_bind]
    rw [N.le1_of (by simp; omega)]
    rfl
theorem toPy_er (s : Str) (v : Int) : toPy (erD s v) = some (.tuple [.str s, .int v]) := by
  unfold erD
  simp [toPy, toPys]
theorem er_eq (s : Str) (v : Int) (hs : PyData.strOk s = true) : pEq (erD s v) (erD s v) = .ok true := by
  have sh : SeqAt.shaped (.tuple [.str s, .int v]) = true := by
    refine shaped_of ?_ ?_
    · simp [PyData.canLay0, PyData.canLayAll0, hs]
    · simp [PyData.depth, PyData.depthAll]
  unfold pEq
  simp only [toPy_er]
  rw [N.asrt_of ⟨sh, sh⟩]
  simp [PyData.eqv, PyData.eqvAll]
theorem er_ne (s : Str) (v : Int) (hs : PyData.strOk s = true) : dNeD (erD s v) (erD s v) = .ok (.bl false) := by
  unfold dNeD
  rw [er_eq s v hs]
  rfl
end M

set_option Elab.async false
set_option linter.all false
set_option maxRecDepth 100000
set_option maxHeartbeats 1000000
namespace M
open PySem L2
theorem repS_self (st : Std) : RepS (stD st) st := ⟨st.map rowD, .inl rfl, All2.of_map rowD (fun r => ⟨r.map wD, .inl rfl, All2.of_map wD (fun w => .inl rfl) r⟩) st⟩
/-- one check: the error is told, the law goes on -/
theorem chk {β : Type} {nl : N D} {c : Nat} {v : Int} {F : D → N β} {k : β → Prop} {e : Nat → D → Prop} (hc : c < 5) (h : nl.wp (fun _ => False) (fun c' x => c' = c ∧ x = .int v)) (hs : PyData.strOk (erN c) = true) (hF : (F (.bl false)).wp k e) : ((N.ne (m_law_error nl)).bind fun x => (dNeD x (erD (erN c) v)).bind F).wp k e := by
  show (m_law_error nl).wp (fun x => ((dNeD x (erD (erN c) v)).bind F).wp k e) (fun _ _ => False)
  refine N.mono (m_law_error nl) (fun d hd => ?_) (fun _ _ z => z) (error_wp (e := fun _ _ => False) hc h)
  subst hd
  rw [er_ne _ _ hs]
  exact hF
theorem check1 {rm : List Nat} {gs : List Go} {st : Std} (mo : MapOk rm gs) (g : Good rm gs st) : ((m_law_of (.dl 0) (.lst [nD rm.length, .int (-1), .non, .bl true, .str "0"])).bind fun z => m_gone_standing (mapD rm gs) (stD st) z).wp (fun _ => False) (fun c x => c = 3 ∧ x = .int (-1)) := by
  refine of_wp (by simp) (by simp) fun d hd => ?_
  have hi : m_is_index d (nD rm.length) = .ok (.bl false) := by
    simp only [List.mem_cons, List.not_mem_nil, or_false] at hd
    rcases hd with rfl | rfl | rfl | rfl | rfl
    · show m_is_index (.int (rm.length : Int)) (.int (rm.length : Int)) = _
      rw [isIx_int, decide_eq_false (by omega)]
    · show m_is_index (.int (-1)) (.int (rm.length : Int)) = _
      rw [isIx_int, decide_eq_false (by omega)]
    · exact isIx_no isInt_non
    · exact isIx_no (isInt_bl _)
    · exact isIx_no (isInt_str _)
  show (m_gone_standing (mapD rm gs) (stD st) d).wp _ _
  rw [goneStanding_ix mo g (repS_self st) hi]
  exact ⟨rfl, rfl⟩
/-- the rows that are no rows of lane i -/
theorem rowOdd_of {rm : List Nat} {gs : List Go} {i m : Nat} {d : D} (mo : MapOk rm gs) (hm : rm[i]? = some m) (hd : d = .tup (List.replicate (m + 1) (.tup [])) ∨ d = .non ∨ d = .lst [.tup [nD i]] ∨ d = .lst [.tup [.str "0"]] ∨ d = .lst [.non] ∨ d = .lst [.tup [nD rm.length]] ∨ ∃ b, b < rm.length ∧ (i, b) ∉ gs ∧ d = .tup [.tup [nD b]]) : rowOdd rm gs i m d := by
  have h1 := (mo.room m (List.mem_of_getElem? hm)).1
  have hi : i < rm.length := (List.getElem?_eq_some_iff.mp hm).1
  rcases hd with rfl | rfl | rfl | rfl | rfl | rfl | ⟨b, hb, hn, rfl⟩
  · exact .inr (.inl ⟨_, .inl rfl, by simp⟩)
  · exact .inl isSeq_non
  · refine .inr (.inr ⟨_, .inr rfl, h1, ?_⟩)
    rw [laneWay_eq (y := .tup [nD i]) (w := [i]) (.inl rfl) (by simpa using hi) (by simp)]
    have : (i, i) ∉ gs := fun y => (mo.go _ y).2.2 rfl
    simp [adj, this]
  · exact .inr (.inr ⟨_, .inr rfl, h1, laneWay_one (.inl rfl) (isIx_no (isInt_str _))⟩)
  · exact .inr (.inr ⟨_, .inr rfl, h1, laneWay_no isSeq_non⟩)
  · refine .inr (.inr ⟨_, .inr rfl, h1, laneWay_one (.inl rfl) ?_⟩)
    show m_is_index (.int (rm.length : Int)) (.int (rm.length : Int)) = _
    rw [isIx_int, decide_eq_false (by omega)]
  · refine .inr (.inr ⟨_, .inl rfl, h1, ?_⟩)
    rw [laneWay_eq (y := .tup [nD b]) (w := [b]) (.inl rfl) (by simpa using hb) (by simp)]
    simp [adj, hn]
end M

set_option Elab.async false
set_option linter.all false
set_option maxRecDepth 100000
set_option maxHeartbeats 1000000
namespace M
open PySem L2
/-! ### what is refused -/
theorem take_drop {α : Type} (xs : List α) (i : Nat) (x : α) (h : i < xs.length) : (xs.take i ++ [x] ++ xs.drop (i + 1)).length = xs.length := by
  simp
  omega
theorem possible_odd {rm : List Nat} {gs : List Go} {st : Std} {y : D} {i m : Nat} (mo : MapOk rm gs) (g : Good rm gs st) (hm : rm[i]? = some m) (ho : rowOdd rm gs i m y) : m_possible_goings (mapD rm gs) (.tup ((st.map rowD).take i ++ [y] ++ (st.map rowD).drop (i + 1))) = .err 1 (.int (i : Int)) := by
  have hi : i < rm.length := (List.getElem?_eq_some_iff.mp hm).1
  have hl : ((st.map rowD).take i).length = i := by rw [List.length_take, List.length_map, g.len]; omega
  have e : (st.map rowD).take i ++ [y] ++ (st.map rowD).drop (i + 1) = (st.map rowD).take i ++ y :: (st.map rowD).drop (i + 1) := by rw [List.append_assoc]; rfl
  have k := needStanding_odd (pst := st.take i) (d := .tup ((st.map rowD).take i ++ y :: (st.map rowD).drop (i + 1))) (m := m) mo (.inl rfl) (by rw [← e, take_drop _ _ _ (by rw [List.length_map, g.len]; exact hi), List.length_map, g.len])
    (by rw [← List.map_take]; exact All2.of_map rowD (fun r => ⟨r.map wD, .inl rfl, All2.of_map wD (fun w => .inl rfl) r⟩) (st.take i))
    (fun j r m' h1 h2 => by
      by_cases q : j < i
      · rw [List.getElem?_take_of_lt q] at h1
        exact g.row j r m' h1 h2
      · have := (List.getElem?_eq_some_iff.mp h1).1
        rw [List.length_take] at this
        omega) (by rw [hl]; exact hm) (by rw [hl]; exact ho)
  rw [hl] at k
  unfold m_possible_goings
  simp only [N.ok_bind, e, k]
  rfl
theorem left_short {rm : List Nat} {gs : List Go} {xs : List D} (h : xs.length ≠ rm.length) : m_goings_left (mapD rm gs) (.tup xs) = .err 1 (.int (-1)) := by
  unfold m_goings_left
  simp only [N.ok_bind, needStanding_len (.inl rfl) h]
  rfl
theorem noLanes {rm : List Nat} {d : D} {k : D → Prop} : ((m_law_of (.dl 0) (.lst [.non, .lst (rm.map nD), .int 3])).bind fun x => m_need_standing x d).wp (fun _ => False) (fun c x => c = 2 ∧ x = .int (-1)) := by
  refine of_wp (by simp) (by simp) fun l hl => ?_
  show (m_need_standing l d).wp _ _
  rw [needStanding_lanes (by
    simp only [List.mem_cons, List.not_mem_nil, or_false] at hl
    rcases hl with rfl | rfl | rfl <;> rfl)]
  exact ⟨rfl, rfl⟩
/-- goings that are no goings -/
theorem odd_goings {n : Nat} (h : 2 ≤ n) : ∀ x ∈ ([.tup [.int 0, .int 0], .tup [.int 0, nD n], .tup [.int 1], .non, .tup [.int 0, .bl true], .str "01"] : List D), goOdd n x := fun x hx => by
  have i0 : m_is_index (.int 0) (nD n) = .ok (.bl true) := isIx_nat (i := 0) (by omega)
  simp only [List.mem_cons, List.not_mem_nil, or_false] at hx
  rcases hx with rfl | rfl | rfl | rfl | rfl | rfl
  · exact goOdd_same (a := 0) (.inl rfl) (by omega)
  · refine goOdd_two (.inl rfl) (.inr ⟨i0, ?_⟩)
    show m_is_index (.int (n : Int)) (.int (n : Int)) = _
    rw [isIx_int, decide_eq_false (by omega)]
  · exact goOdd_len (.inl rfl) (by simp)
  · exact goOdd_no isSeq_non
  · exact goOdd_two (.inl rfl) (.inr ⟨i0, isIx_no (isInt_bl _)⟩)
  · exact goOdd_no (isSeq_str _)
theorem rooms_nD {rm : List Nat} (h : ∀ r ∈ rm, 1 ≤ r ∧ r ≤ 9) : ∀ x ∈ rm.map nD, roomOk x := fun x hx => by
  obtain ⟨r, hr, rfl⟩ := List.mem_map.mp hx
  exact ⟨r, rfl, (h r hr).1, (h r hr).2⟩
theorem init_worse {rm : List Nat} {gs : List Go} {y : D} {i : Nat} (mo : MapOk rm gs) (hi : i ≤ gs.length) (ho : goOdd rm.length y) : m_LaneMap_init (.lst (rm.map nD)) (.lst ((gs.map gD).take i ++ [y] ++ (gs.map gD).drop i)) = .err 0 (.int (i : Int)) := by
  have hl : ((gs.map gD).take i).length = i := by rw [List.length_take, List.length_map]; omega
  have e : (gs.map gD).take i ++ [y] ++ (gs.map gD).drop i = (gs.map gD).take i ++ y :: (gs.map gD).drop i := by rw [List.append_assoc]; rfl
  have h1 := needRooms_ok (d := .lst (rm.map nD)) (.inr rfl) (by rw [List.length_map]; exact mo.len) (rooms_nD mo.room)
  have k := needGoings_odd (d := .lst ((gs.map gD).take i ++ y :: (gs.map gD).drop i)) (ps := gs.take i) (n := rm.length) (.inr rfl) (by rw [hl, List.length_take]; omega) (fun j y p a b => by
    rw [← List.map_take, List.getElem?_map, b] at a
    cases a
    exact ⟨.inl rfl, mo.go p (List.mem_of_mem_take (List.mem_of_getElem? b))⟩) (by rw [List.length_take]; have := mo.many; omega) ho
  rw [hl] at k
  rw [e]
  exact init_goings h1 k
theorem init_none {rm : List Nat} {gs : List Go} (mo : MapOk rm gs) : m_LaneMap_init (.lst (rm.map nD)) .non = .err 0 (.int (-1)) :=
  init_goings (needRooms_ok (d := .lst (rm.map nD)) (.inr rfl) (by rw [List.length_map]; exact mo.len) (rooms_nD mo.room)) (needGoings_no isSeq_non)
theorem odd_rooms : ∀ x ∈ ([.int 0, .int 10, .int (-1), .non, .bl true, .str "1"] : List D), roomOdd x := fun x hx => by
  simp only [List.mem_cons, List.not_mem_nil, or_false] at hx
  rcases hx with rfl | rfl | rfl | rfl | rfl | rfl
  · exact .inr ⟨0, rfl, .inl (by decide)⟩
  · exact .inr ⟨10, rfl, .inr (by decide)⟩
  · exact .inr ⟨-1, rfl, .inl (by decide)⟩
  · exact .inl isInt_non
  · exact .inl (isInt_bl _)
  · exact .inl (isInt_str _)
theorem init_odd {rm : List Nat} {gs : List Go} {y d : D} {i : Nat} (mo : MapOk rm gs) (hi : i < rm.length) (ho : roomOdd y) : m_LaneMap_init (.lst ((rm.map nD).take i ++ [y] ++ (rm.map nD).drop (i + 1))) d = .err 2 (.int (i : Int)) := by
  have hl : ((rm.map nD).take i).length = i := by rw [List.length_take, List.length_map]; omega
  have e : (rm.map nD).take i ++ [y] ++ (rm.map nD).drop (i + 1) = (rm.map nD).take i ++ y :: (rm.map nD).drop (i + 1) := by rw [List.append_assoc]; rfl
  have k := needRooms_odd (d := .lst ((rm.map nD).take i ++ y :: (rm.map nD).drop (i + 1))) (.inr rfl) (by rw [← e, take_drop _ _ _ (by rw [List.length_map]; exact hi), List.length_map]; exact mo.len) (fun x hx => rooms_nD mo.room x (List.mem_of_mem_take hx)) ho
  rw [hl] at k
  rw [e]
  exact init_rooms k
theorem init_many {d : D} : m_LaneMap_init (.lst (List.replicate 13 (.int 1))) d = .err 2 (.int (-1)) := init_rooms (needRooms_many (.inr rfl) (by simp))
end M

set_option Elab.async false
set_option linter.all false
set_option maxRecDepth 100000
set_option maxHeartbeats 1000000
namespace M
open PySem L2
theorem neg1 : dNeg (.int 1) = .ok (.int (-1)) := rfl
theorem le_0 : N.le1 ([] : List D) = .ok () := N.le1_of (by simp)
theorem le_1 (a : D) : N.le1 [a] = .ok () := N.le1_of (by have := size64; simp; omega)
theorem le_2 (a b : D) : N.le1 [a, b] = .ok () := N.le1_of (by have := size64; simp; omega)
theorem le_3 (a b c : D) : N.le1 [a, b, c] = .ok () := N.le1_of (by have := size64; simp; omega)
theorem le_5 (a b c d e : D) : N.le1 [a, b, c, d, e] = .ok () := N.le1_of (by have := size64; simp; omega)
theorem le_6 (a b c d e f : D) : N.le1 [a, b, c, d, e, f] = .ok () := N.le1_of (by have := size64; simp; omega)
theorem chkS {nl : N D} {c : Nat} {v : Int} {s : Str} {R : Unit → N (Fl Unit Unit)} {k : D → Prop} {e : Nat → D → Prop} (hc : c < 5) (hs : s = erN c) (ho : PyData.strOk s = true) (h : nl.wp (fun _ => False) (fun c' x => c' = c ∧ x = .int v)) (hF : (R ()).fin.wp k e) :
    (N.fin (N.seq (((((m_law_error nl).ne.bind fun x => dNeD x (.tup [.str s, .int v])).bind N.tst).bind fun x => if x = true then N.ok (Fl.rt (D.bl false)) else N.ok (Fl.nx ())) : N (Fl Unit Unit)) R)).wp k e := by
  subst hs
  refine N.mono (m_law_error nl) (fun d hd => ?_) (fun _ _ z => z) (error_wp (e := fun _ _ => False) hc h)
  subst hd
  have e1 := er_ne (erN c) v ho
  unfold erD at e1
  show (N.fin (N.seq ((((dNeD (erD (erN c) v) (.tup [.str (erN c), .int v])).bind N.tst).bind fun x => if x = true then N.ok (Fl.rt (D.bl false)) else N.ok (Fl.nx ())) : N (Fl Unit Unit)) R)).wp k e
  unfold erD
  rw [e1]
  exact hF
theorem anyS {n : Nat} {R : D → N (Fl Unit Unit)} {k : D → Prop} {e : Nat → D → Prop} (h0 : 0 < n) (h1 : n < 1000) (h : ∀ i, i < n → (R (nD i)).fin.wp k e) : (N.fin (N.seq ((m_law_any (.dl 0) (nD n)).bind fun d => N.ok (Fl.nx d) : N (Fl D Unit)) R)).wp k e := by
  refine any_bind (n := (n : Int)) (by omega) (by omega) fun r r0 r1 => ?_
  have := h r.toNat (by omega)
  rw [show nD r.toNat = .int r by unfold nD; congr 1; omega] at this
  exact this
def wrongL (rm : List Nat) (gs : List Go) (i m : Nat) : List D := [.tup (List.replicate (m + 1) (.tup [])), .non, .lst [.tup [nD i]], .lst [.tup [.str "0"]], .lst [.non], .lst [.tup [nD rm.length]]]
theorem wrong_of {rm : List Nat} {gs : List Go} {i m : Nat} (mo : MapOk rm gs) (hm : rm[i]? = some m) (h5 : rm.length ≤ 5) (h25 : gs.length ≤ 25) : ∃ W : List D, ((N.lcG (N.rng1 (nD rm.length)) (fun d => some d) (fun c5 => (dNotInD (D.tup [nD i, c5]) (D.lst (List.map gD gs))).bind N.tst) fun c5 => N.ok (D.tup [D.tup [c5]])).bind fun y => dCatL (.lst (wrongL rm gs i m)) y) = .ok (.lst W) ∧ (∀ d ∈ W, rowOdd rm gs i m d) ∧ W.length < 1000 ∧ W ≠ [] := by
  have z := sz1000
  have e1 : N.lcG (N.rng1 (nD rm.length)) (fun d => some d) (fun c5 => (dNotInD (D.tup [nD i, c5]) (D.lst (List.map gD gs))).bind N.tst) (fun c5 => N.ok (D.tup [D.tup [c5]])) = .ok (.lst (((List.range rm.length).filter fun b => !decide ((i, b) ∈ gs)).map fun b => D.tup [D.tup [nD b]])) := by
    unfold N.lcG
    simp only [rng_ok (show rm.length ≤ 1000 by omega), N.ok_bind, decs_id]
    rw [N.fits_of (by rw [List.length_map, List.length_range]; omega)]
    simp only [N.ok_bind]
    rw [comp_okM (f := nD) (p := fun b => !decide ((i, b) ∈ gs)) (g := fun b => D.tup [D.tup [nD b]]) (List.range rm.length) (fun b _ => by
      unfold dNotInD
      rw [show (D.tup [nD i, nD b]) = gD (i, b) from rfl, enc_go.in_ (by decide) (i, b) gs D.lst (fun _ => rfl)]
      simp only [N.ok_bind, N.tst_bl]
      exact congrArg (fun c : Bool => N.ok (!c)) (decide_eq_decide.mpr Iff.rfl)) (fun b _ => rfl)]
    rfl
  have hf := List.length_filter_le (fun b => !decide ((i, b) ∈ gs)) (List.range rm.length)
  rw [List.length_range] at hf
  refine ⟨wrongL rm gs i m ++ ((List.range rm.length).filter fun b => !decide ((i, b) ∈ gs)).map fun b => D.tup [D.tup [nD b]], ?_, fun d hd => ?_, ?_, by simp [wrongL]⟩
  · rw [e1]
    simp only [N.ok_bind, dCatL]
    rw [N.asrt_of (by rw [List.length_map]; simp only [wrongL, List.length_cons, List.length_nil]; omega)]
    rfl
  · refine rowOdd_of mo hm ?_
    rcases List.mem_append.mp hd with q | q
    · simp only [wrongL, List.mem_cons, List.not_mem_nil, or_false] at q
      rcases q with q | q | q | q | q | q <;> simp [q]
    · obtain ⟨b, hb, rfl⟩ := List.mem_map.mp q
      obtain ⟨b1, b2⟩ := List.mem_filter.mp hb
      exact .inr (.inr (.inr (.inr (.inr (.inr ⟨b, List.mem_range.mp b1, by simpa using b2, rfl⟩)))))
  · rw [List.length_append, List.length_map]
    simp only [wrongL, List.length_cons, List.length_nil]
    omega
end M

set_option Elab.async false
set_option linter.all false
set_option maxRecDepth 100000
set_option maxHeartbeats 1000000
namespace M
open PySem L2
theorem badS {W A B : List D} {R : D → N (Fl Unit Unit)} {k : D → Prop} {e : Nat → D → Prop} (hn : W ≠ []) (hl : W.length < 1000) (hz : A.length + 1 + B.length ≤ sizeLine) (h : ∀ y ∈ W, (R (.tup (A ++ [y] ++ B))).fin.wp k e) :
    (N.fin (N.seq (((((((m_law_of (.dl 0) (.lst W)).bind fun x => N.ok [x]).bind fun xs => (N.le1 xs).bind fun x => N.ok (D.tup xs)).bind fun y => dCat (.tup A) y).bind fun x => dCat x (.tup B)).bind fun d => N.ok (Fl.nx d)) : N (Fl D Unit)) R)).wp k e := by
  refine of_wp hn hl fun y hy => ?_
  show (N.fin (N.seq (((((((N.le1 [y]).bind fun x => N.ok (D.tup [y])).bind fun y => dCat (.tup A) y).bind fun x => dCat x (.tup B)).bind fun d => N.ok (Fl.nx d)) : N (Fl D Unit))) R)).wp k e
  rw [le_1]
  simp only [N.ok_bind, dCat]
  rw [N.asrt_of (by simp; omega)]
  simp only [N.ok_bind]
  rw [N.asrt_of (by simp; omega)]
  simp only [N.ok_bind, N.ok_seq]
  exact h y hy
theorem badL {W A B : List D} {R : D → N (Fl Unit Unit)} {k : D → Prop} {e : Nat → D → Prop} (hn : W ≠ []) (hl : W.length < 1000) (hz : A.length + 1 + B.length ≤ sizeLine) (h : ∀ y ∈ W, (R (.lst (A ++ [y] ++ B))).fin.wp k e) :
    (N.fin (N.seq (((((((m_law_of (.dl 0) (.lst W)).bind fun x => N.ok [x]).bind fun xs => (N.le1 xs).bind fun x => N.ok (D.lst xs)).bind fun y => dCatL (.lst A) y).bind fun x => dCatL x (.lst B)).bind fun d => N.ok (Fl.nx d)) : N (Fl D Unit)) R)).wp k e := by
  refine of_wp hn hl fun y hy => ?_
  show (N.fin (N.seq (((((((N.le1 [y]).bind fun x => N.ok (D.lst [y])).bind fun y => dCatL (.lst A) y).bind fun x => dCatL x (.lst B)).bind fun d => N.ok (Fl.nx d)) : N (Fl D Unit))) R)).wp k e
  rw [le_1]
  simp only [N.ok_bind, dCatL]
  rw [N.asrt_of (by simp; omega)]
  simp only [N.ok_bind]
  rw [N.asrt_of (by simp; omega)]
  simp only [N.ok_bind, N.ok_seq]
  exact h y hy
theorem chkF {nl : N D} {c : Nat} {v : Int} {s : Str} {e : Nat → D → Prop} (hc : c < 5) (hs : s = erN c) (ho : PyData.strOk s = true) (h : nl.wp (fun _ => False) (fun c' x => c' = c ∧ x = .int v)) :
    (N.fin (((m_law_error nl).ne.bind fun x => dEqD x (.tup [.str s, .int v])).bind fun d => N.ok (Fl.rt d) : N (Fl Unit Unit))).wp (fun d => d = .bl true) e := by
  subst hs
  refine N.mono (m_law_error nl) (fun d hd => ?_) (fun _ _ z => z) (error_wp (e := fun _ _ => False) hc h)
  subst hd
  have e1 := er_eq (erN c) v ho
  show (dEqD (erD (erN c) v) (erD (erN c) v)).wp (fun d => d = .bl true) e
  unfold dEqD
  rw [e1]
  rfl
theorem refusals_wp {rm : List Nat} {gs : List Go} {st : Std} (mo : MapOk rm gs) (g : Good rm gs st) (h2 : 2 ≤ rm.length) (h5 : rm.length ≤ 5) (h25 : gs.length ≤ 25) : (m_law_refusals_right (.dl 0) (mapD rm gs) (.lst (rm.map nD)) (.lst (gs.map gD)) (stD st)).wp (fun d => d = .bl true) (fun _ _ => False) := by
  have z := sz1000
  unfold m_law_refusals_right
  have el : dLen (.lst (rm.map nD)) = .ok (nD rm.length) := by simp [dLen, items, nD]
  have el2 : dLen (.lst (gs.map gD)) = .ok (nD gs.length) := by simp [dLen, items, nD]
  have ea : dAdd (nD gs.length) (.int 1) = .ok (nD (gs.length + 1)) := rfl
  simp only [N.ok_bind, el, el2, ea, N.ok_seq, neg1, le_2, le_5, le_1, le_6, le_3, le_0]
  refine chkS (c := 3) (by decide) rfl (by decide +kernel) (check1 mo g) ?_
  refine anyS (by omega) (by omega) fun i hi => ?_
  obtain ⟨m, hm⟩ : ∃ m, rm[i]? = some m := ⟨rm[i], List.getElem?_eq_getElem hi⟩
  obtain ⟨m1, m9⟩ := mo.room m (List.mem_of_getElem? hm)
  obtain ⟨W, eW, hW, hl, hn⟩ := wrong_of (gs := gs) (rm := rm) mo hm h5 h25
  have ei : dIx (.lst (rm.map nD)) (nD i) = .ok (nD m) := ix_l (by rw [List.getElem?_map, hm]; rfl)
  have e1 : dAdd (nD m) (.int 1) = .ok (nD (m + 1)) := rfl
  have e2 : dRepT (.tup [.tup []]) (nD (m + 1)) = .ok (.tup (List.replicate (m + 1) (.tup []))) := by
    show (N.asrt _).bind _ = _
    rw [N.asrt_of ⟨by simp, by omega, by omega, by simp⟩]
    show N.ok (D.tup (List.replicate ((m + 1 : Nat) : Int).toNat [D.tup []]).flatten) = _
    rw [Int.toNat_natCast]
    congr 2
    simp
  have e3 : toI (nD i) = .ok (i : Int) := rfl
  have e4 : dSlT (stD st) none (some (i : Int)) = .ok (.tup ((st.map rowD).take i)) := by
    show N.ok (D.tup (cutD _ _ _)) = _
    rw [cut_to]
  have e5 : dAdd (nD i) (.int 1) = .ok (nD (i + 1)) := rfl
  have e6 : toI (nD (i + 1)) = .ok ((i + 1 : Nat) : Int) := rfl
  have e7 : dSlT (stD st) (some ((i + 1 : Nat) : Int)) none = .ok (.tup ((st.map rowD).drop (i + 1))) := by
    show N.ok (D.tup (cutD _ _ _)) = _
    rw [cut_from]
  unfold wrongL at eW
  simp only [ei, e1, e2, N.ok_bind, le_6, eW, N.ok_seq, e3, e4, e5, e6, e7]
  refine badS hn hl (by rw [List.length_take, List.length_drop, List.length_map, g.len]; omega) fun y hy => ?_
  refine chkS (c := 1) (v := (i : Int)) (by decide) rfl (by decide +kernel) (by rw [possible_odd mo g hm (hW y hy)]; exact ⟨rfl, rfl⟩) ?_
  refine chkS (c := 1) (v := -1) (by decide) rfl (by decide +kernel) (by
    have e8 : toI (.int 1) = .ok 1 := rfl
    have e9 : dSlT (.tup ((st.map rowD).take i ++ [y] ++ (st.map rowD).drop (i + 1))) (some 1) none = .ok (.tup (((st.map rowD).take i ++ [y] ++ (st.map rowD).drop (i + 1)).drop 1)) := by
      show N.ok (D.tup (cutD _ _ _)) = _
      rw [show cutD ((st.map rowD).take i ++ [y] ++ (st.map rowD).drop (i + 1)) (some 1) none = _ from cut_from _ 1]
    simp only [e8, e9, N.ok_bind]
    rw [left_short (by rw [List.length_drop, take_drop _ _ _ (by rw [List.length_map, g.len]; exact hi), List.length_map, g.len]; omega)]
    exact ⟨rfl, rfl⟩) ?_
  refine chkS (c := 2) (v := -1) (by decide) rfl (by decide +kernel) (noLanes (k := fun _ => True)) ?_
  refine anyS (by omega) (by omega) fun j hj => ?_
  have e8 : toI (nD j) = .ok (j : Int) := rfl
  have e9 : dSlL (.lst (gs.map gD)) none (some (j : Int)) = .ok (.lst ((gs.map gD).take j)) := by
    show N.ok (D.lst (cutD _ _ _)) = _
    rw [cut_to]
  have e10 : dSlL (.lst (gs.map gD)) (some (j : Int)) none = .ok (.lst ((gs.map gD).drop j)) := by
    show N.ok (D.lst (cutD _ _ _)) = _
    rw [cut_from]
  have e11 : dSlL (.lst (rm.map nD)) none (some (i : Int)) = .ok (.lst ((rm.map nD).take i)) := by
    show N.ok (D.lst (cutD _ _ _)) = _
    rw [cut_to]
  have e12 : dSlL (.lst (rm.map nD)) (some ((i + 1 : Nat) : Int)) none = .ok (.lst ((rm.map nD).drop (i + 1))) := by
    show N.ok (D.lst (cutD _ _ _)) = _
    rw [cut_from]
  have e13 : dRepL (.lst [.int 1]) (.int 13) = .ok (.lst (List.replicate 13 (.int 1))) := by
    show (N.asrt _).bind _ = _
    rw [N.asrt_of ⟨by decide, by decide, by simp; omega⟩]
    rfl
  simp only [e8, e9, e10, e11, e12, e13, N.ok_bind]
  refine badL (by simp) (by simp) (by rw [List.length_take, List.length_drop, List.length_map]; omega) fun y2 hy2 => ?_
  refine chkS (c := 0) (v := (j : Int)) (by decide) rfl (by decide +kernel) ⟨rfl, ?_⟩ ?_
  · show (m_LaneMap_init _ _).wp _ _
    rw [init_worse mo (by omega) (odd_goings h2 y2 hy2)]
    exact ⟨rfl, rfl⟩
  refine chkS (c := 0) (v := -1) (by decide) rfl (by decide +kernel) ⟨rfl, ?_⟩ ?_
  · show (m_LaneMap_init _ _).wp _ _
    rw [init_none (gs := gs) mo]
    exact ⟨rfl, rfl⟩
  refine badL (by simp) (by simp) (by rw [List.length_take, List.length_drop, List.length_map]; omega) fun y3 hy3 => ?_
  refine chkS (c := 2) (v := (i : Int)) (by decide) rfl (by decide +kernel) ⟨rfl, ?_⟩ ?_
  · show (m_LaneMap_init _ _).wp _ _
    rw [init_odd (gs := gs) mo hi (odd_rooms y3 hy3)]
    exact ⟨rfl, rfl⟩
  refine chkF (c := 2) (v := -1) (by decide) rfl (by decide +kernel) ?_
  refine ⟨rfl, ?_⟩
  show (m_LaneMap_init _ _).wp _ _
  rw [init_many]
  exact ⟨rfl, rfl⟩
end M

set_option Elab.async false
set_option linter.all false
set_option maxRecDepth 100000
set_option maxHeartbeats 1000000
namespace M
open PySem L2
theorem neS_str (s : Str) : dNeS (.str s) (.str s) = .ok (.bl false) := by
  show (N.ok (decide (s = s))).bind _ = _
  rw [decide_eq_true rfl]
  rfl
theorem plains_map {α : Type} {f : α → D} {n : Nat} : ∀ xs : List α, (∀ x ∈ xs, plain n (f x)) → plains n (xs.map f)
  | [], _ => by cases n <;> exact trivial
  | x :: xs, h => by
    have ih := plains_map (n := n) xs (fun y hy => h y (List.mem_cons_of_mem _ hy))
    have h0 := h x (List.mem_cons_self ..)
    cases n <;> exact ⟨h0, ih⟩
theorem wts_map {α : Type} {f : α → D} {c : Nat} : ∀ xs : List α, (∀ x ∈ xs, wt (f x) ≤ c) → wts (xs.map f) ≤ (c + 2) * xs.length
  | [], _ => by show 0 ≤ _; omega
  | x :: xs, h => by
    have ih := wts_map xs (fun y hy => h y (List.mem_cons_of_mem _ hy))
    have h1 := h x (List.mem_cons_self ..)
    show wt (f x) + 2 + wts (xs.map f) ≤ (c + 2) * (xs.length + 1)
    rw [Nat.mul_add]
    omega
theorem trail_mem {f : Nat → Option Nat} {n : Nat} (hf : ∀ a b, f a = some b → b < n) : ∀ (k : Nat) (ring : List Nat) (a : Nat), ring.Nodup → (∀ x ∈ ring, x < n) → (trail f k ring a).1.Nodup ∧ ∀ x ∈ (trail f k ring a).1, x < n
  | 0, ring, a, h1, h2 => ⟨h1, h2⟩
  | k + 1, ring, a, h1, h2 => by
    cases e : f a with
    | none => rw [trail_none e]; exact ⟨h1, h2⟩
    | some b =>
      by_cases hb : b ∈ ring
      · rw [trail_in e hb]; exact ⟨h1, h2⟩
      · rw [trail_go e hb]
        refine trail_mem hf k _ _ (nodup_snoc h1 hb) (fun x hx => ?_)
        rcases List.mem_append.mp hx with q | q
        · exact h2 x q
        · rw [List.mem_singleton.mp q]; exact hf a b e
theorem knot_small {rm : List Nat} {st : Std} (s : Stops rm.length st) {r : List Nat} (e : firstKnot rm st = some r) : r.Nodup ∧ ∀ x ∈ r, x < rm.length := by
  unfold firstKnot at e
  obtain ⟨a, ha, e1⟩ := List.exists_of_findSome?_eq_some e
  have ha : a < rm.length := List.mem_range.mp ha
  unfold knot at e1
  split at e1
  · cases e1
    exact trail_mem (fun a b e => nxt_lt s e) _ _ _ (by simp) (fun x hx => by rw [List.mem_singleton.mp hx]; exact ha)
  · cases e1
theorem log_small {x : Nat} (h : x < 1024) : x.log2 < 10 := by
  by_cases h0 : x = 0
  · subst h0; decide
  · exact (Nat.log2_lt h0).mpr (by omega)
theorem repr_knot {rm : List Nat} {gs : List Go} {st : Std} (mo : MapOk rm gs) (s : Stops rm.length st) : ∃ t : Str, dRepr (oT (firstKnot rm st)) = .ok (.str t) := by
  have h12 := mo.len
  cases e : firstKnot rm st with
  | none => exact ⟨_, rfl⟩
  | some r =>
    obtain ⟨h1, h2⟩ := knot_small s e
    have hl := pigeon _ r h1 h2
    have hp : ∀ x ∈ r, plain 0 (nD x) := fun x hx => by
      have := h2 x hx
      have := log_small (x := x) (by omega)
      show ((x : Int)).natAbs.log2 < 1920
      rw [Int.natAbs_natCast]
      omega
    have hw : wts (r.map nD) ≤ (12 + 2) * r.length := wts_map r fun x hx => by
      have := h2 x hx
      have := log_small (x := x) (by omega)
      show ((x : Int)).natAbs.log2 + 2 ≤ 12
      rw [Int.natAbs_natCast]
      omega
    refine reprP_ok (n := 1) (d := .tup (r.map nD)) (plains_map r hp) (by omega) ?_
    show 3 + wts (r.map nD) ≤ _
    omega
theorem rowN_le {r : Rw} (h : ∀ w ∈ r, w.length ≤ 8) : rowN r ≤ 9 * r.length := by
  induction r with
  | nil => simp [rowN]
  | cons w r ih =>
    have h1 := h w (List.mem_cons_self ..)
    have h2 := ih fun w hw => h w (List.mem_cons_of_mem _ hw)
    unfold rowN at h2 ⊢
    rw [List.map_cons, List.sum_cons, List.length_cons]
    omega
theorem sum_le {st : Std} (h : ∀ r ∈ st, rowN r ≤ 81) : leftN st ≤ 81 * st.length := by
  induction st with
  | nil => simp [leftN]
  | cons r st ih =>
    have h1 := h r (List.mem_cons_self ..)
    have h2 := ih fun r hr => h r (List.mem_cons_of_mem _ hr)
    unfold leftN at h2 ⊢
    rw [List.map_cons, List.sum_cons, List.length_cons]
    unfold rowN at h1
    omega
theorem left_small {rm : List Nat} {gs : List Go} {st : Std} (mo : MapOk rm gs) (g : Good rm gs st) : leftN st < 1024 := by
  have h := sum_le (st := st) fun r hr => by
    have h9 := g.rows mo r hr
    obtain ⟨i, hi, er⟩ := List.getElem_of_mem hr
    have hm : i < rm.length := by rw [← g.len]; exact hi
    have := g.row i r rm[i] (by rw [List.getElem?_eq_getElem hi, er]) (List.getElem?_eq_getElem hm)
    have := rowN_le (r := r) fun w hw => (this.2 w hw).1
    omega
  have h12 := mo.len
  have := g.len
  omega
theorem repr_left {rm : List Nat} {gs : List Go} {st : Std} (mo : MapOk rm gs) (g : Good rm gs st) : ∃ t : Str, dRepr (nD (leftN st)) = .ok (.str t) := repr_nat (by have := log_small (left_small mo g); omega)
end M

set_option Elab.async false
set_option linter.all false
set_option maxRecDepth 100000
set_option maxHeartbeats 1000000
namespace M
open PySem L2
theorem seqB {m : N D} {R : D → N (Fl Unit Unit)} {k : D → Prop} {e : Nat → D → Prop} {Q : D → Prop} (h : m.wp Q (fun _ _ => False)) (hR : ∀ d, Q d → (R d).fin.wp k e) : (N.fin (N.seq (m.bind fun d => N.ok (Fl.nx d) : N (Fl D Unit)) R)).wp k e :=
  N.mono m (fun d hd => hR d hd) (fun _ _ z => z.elim) h
theorem seqW {τ β : Type} {m : N D} {R : D → N (Fl τ β)} {k : Fl τ β → Prop} {e : Nat → D → Prop} {Q : D → Prop} (h : m.wp Q (fun _ _ => False)) (hR : ∀ d, Q d → (R d).wp k e) : (N.seq (m.bind fun d => N.ok (Fl.nx d) : N (Fl D β)) R).wp k e :=
  N.mono m (fun d hd => hR d hd) (fun _ _ z => z.elim) h
theorem kw10 (m : D → D → N D) (a b : D) : (N.asrt ([a, b].length = 2)).bind (fun _ => app2 m (([] : List D) ++ sel [1, 0] [a, b])) = m b a := by
  rw [N.asrt_of (show [a, b].length = 2 from rfl)]
  rfl
theorem ps2 (m : D → D → N D) (a b : D) : (N.asrt ([a, b].length = 2)).bind (fun _ => app2 m ([a, b] ++ ([] : List D))) = m a b := by
  rw [N.asrt_of (show [a, b].length = 2 from rfl)]
  rfl
theorem kw210 (m : D → D → D → N D) (a b c : D) : (N.asrt ([a, b, c].length = 3)).bind (fun _ => app3 m (([] : List D) ++ sel [2, 1, 0] [a, b, c])) = m c b a := by
  rw [N.asrt_of (show [a, b, c].length = 3 from rfl)]
  rfl
def rm0 : List Nat := [1, 2]
def gs0 : List Go := [(0, 1)]
theorem mo0 : MapOk rm0 gs0 := ⟨by decide, by decide, by simp [gs0], by intro p hp; simp [gs0] at hp; subst hp; exact ⟨by decide, by decide, by decide⟩, by decide⟩
theorem good0 : Good rm0 gs0 [[[1]], []] := by
  refine ⟨rfl, fun i r m h1 h2 => ?_⟩
  match i, h1, h2 with
  | 0, h1, h2 =>
    simp [rm0] at h1 h2
    subst h1 h2
    refine ⟨by decide, fun w hw => ?_⟩
    rw [List.mem_singleton.mp hw]
    exact ⟨by decide, by decide, by decide⟩
  | 1, h1, h2 =>
    simp [rm0] at h1 h2
    subst h1 h2
    exact ⟨by decide, fun w hw => by simp at hw⟩
theorem good1 : Good rm0 gs0 [[[1]], [[]]] := by
  refine ⟨rfl, fun i r m h1 h2 => ?_⟩
  match i, h1, h2 with
  | 0, h1, h2 =>
    simp [rm0] at h1 h2
    subst h1 h2
    refine ⟨by decide, fun w hw => ?_⟩
    rw [List.mem_singleton.mp hw]
    exact ⟨by decide, by decide, by decide⟩
  | 1, h1, h2 =>
    simp [rm0] at h1 h2
    subst h1 h2
    refine ⟨by decide, fun w hw => ?_⟩
    rw [List.mem_singleton.mp hw]
    exact ⟨by decide, by decide, by decide⟩
theorem init0 : m_LaneMap_init (.lst [.int 1, .int 2]) (.lst [.tup [.int 0, .int 1]]) = .ok (mapD rm0 gs0) :=
  init_is (needRooms_ok (xs := [nD 1, nD 2]) (.inr rfl) (by decide) (fun x hx => by
    simp at hx
    rcases hx with rfl | rfl
    · exact ⟨1, rfl, by decide, by decide⟩
    · exact ⟨2, rfl, by decide, by decide⟩))
   (needGoings_ok (xs := [gD (0, 1)]) (ps := [(0, 1)]) (.inr rfl) rfl (fun i y p h1 h2 => by
    match i, h1, h2 with
    | 0, h1, h2 =>
      simp at h1 h2
      subst h1 h2
      exact ⟨.inl rfl, by decide, by decide, by decide⟩) (by decide) (by simp [gs0]) (fun p => by simp [gs0]))
theorem gone0 : m_gone_standing (mapD rm0 gs0) (.tup [.tup [.tup [.int 1]], .tup []]) (.int 0) = .ok (.tup [.tup [], .tup [.tup []]]) :=
  goneStanding_ok (i := 0) (d := .tup [.tup [.tup [.int 1]], .tup []]) (st := [[[1]], []]) mo0 good0 (show RepS (stD [[[1]], []]) _ from repS_self _) (by decide) (by decide)
theorem left0 : m_goings_left (mapD rm0 gs0) (.tup [.tup [.tup [.int 1]], .tup [.tup []]]) = .ok (.int 3) :=
  goingsLeft_eq (st := [[[1]], [[]]]) mo0 good1 (show RepS (stD [[[1]], [[]]]) _ from repS_self _)
theorem neSt (st : Std) : dNeD (stD st) (stD st) = .ok (.bl false) := by rw [enc_std.neD (by decide), decide_eq_true rfl]; rfl
theorem le_4 (a b c d : D) : N.le1 [a, b, c, d] = .ok () := N.le1_of (by have := size64; simp; omega)
theorem rooms_wp {n : Nat} (hn : n ≤ 5) : (N.lcG (N.rng1 (nD n)) (fun d => some d) (fun _ => .ok true) fun _ => m_law_of (.dl 0) (.lst [.int 1, .int 2, .int 2, .int 3])).wp (fun d => ∃ rm : List Nat, d = .lst (rm.map nD) ∧ rm.length = n ∧ ∀ r ∈ rm, 1 ≤ r ∧ r ≤ 9) (fun _ _ => False) := by
  have z := sz1000
  unfold N.lcG
  simp only [rng_ok (show n ≤ 1000 by omega), N.ok_bind, decs_id]
  rw [N.fits_of (by rw [List.length_map, List.length_range]; omega)]
  simp only [N.ok_bind]
  refine comp_wp (Q := fun y => ∃ r : Nat, y = nD r ∧ 1 ≤ r ∧ r ≤ 9) _ (fun x _ => of_wp (by simp) (by simp) fun d hd => ?_) fun ys hl hq => ?_
  · simp only [List.mem_cons, List.not_mem_nil, or_false] at hd
    rcases hd with rfl | rfl | rfl | rfl
    · exact ⟨1, rfl, by decide, by decide⟩
    · exact ⟨2, rfl, by decide, by decide⟩
    · exact ⟨2, rfl, by decide, by decide⟩
    · exact ⟨3, rfl, by decide, by decide⟩
  · rw [List.length_map, List.length_range] at hl
    have : ∀ ys : List D, (∀ y ∈ ys, ∃ r : Nat, y = nD r ∧ 1 ≤ r ∧ r ≤ 9) → ∃ rm : List Nat, ys = rm.map nD ∧ ∀ r ∈ rm, 1 ≤ r ∧ r ≤ 9 := by
      intro ys
      induction ys with
      | nil => exact fun _ => ⟨[], rfl, by simp⟩
      | cons y ys ih =>
        intro h
        obtain ⟨r, e, h1, h2⟩ := h y (List.mem_cons_self ..)
        obtain ⟨rm, e2, h3⟩ := ih fun y hy => h y (List.mem_cons_of_mem _ hy)
        refine ⟨r :: rm, by rw [e, e2]; rfl, fun x hx => ?_⟩
        rcases List.mem_cons.mp hx with rfl | hx
        · exact ⟨h1, h2⟩
        · exact h3 x hx
    obtain ⟨rm, e, h⟩ := this ys hq
    exact ⟨rm, by rw [e], by rw [← hl, e, List.length_map], h⟩
theorem seqB2 {m1 m2 : N D} {R : D × D → N (Fl Unit Unit)} {k : D → Prop} {e : Nat → D → Prop} {Q1 Q2 : D → Prop} (h1 : m1.wp Q1 (fun _ _ => False)) (h2 : m2.wp Q2 (fun _ _ => False)) (hR : ∀ x y, Q1 x → Q2 y → (R (x, y)).fin.wp k e) : (N.fin (N.seq (m1.bind fun x => m2.bind fun y => N.ok (Fl.nx (x, y)) : N (Fl (D × D) Unit)) R)).wp k e :=
  N.mono m1 (fun d hd => N.mono m2 (fun d2 hd2 => hR d d2 hd hd2) (fun _ _ z => z.elim) h2) (fun _ _ z => z.elim) h1
def lstsD (st : Std) : D := .lst (st.map fun r => .lst (r.map fun w => .lst (w.map nD)))
theorem lists_row {r : Rw} (h : r.length ≤ 9) : N.lcG (seqOf (rowD r)) (fun d => some d) (fun _ => .ok true) (fun c => dList c) = .ok (.lst (r.map fun w => .lst (w.map nD))) := by
  have z := sz1000
  show N.lcG (.ok (r.map wD)) _ _ _ = _
  exact lcG_all2 (all2_map r fun w _ => rfl) (by rw [List.length_map]; omega)
theorem lists_ok {st : Std} (h : st.length ≤ 12) (hr : ∀ r ∈ st, r.length ≤ 9) : N.lcG (seqOf (stD st)) (fun d => some d) (fun _ => .ok true) (fun c => N.lcG (seqOf c) (fun d => some d) (fun _ => .ok true) fun c => dList c) = .ok (lstsD st) := by
  have z := sz1000
  show N.lcG (.ok (st.map rowD)) _ _ _ = _
  exact lcG_all2 (all2_map st fun r hm => lists_row (hr r hm)) (by rw [List.length_map]; omega)
theorem rep_lists (st : Std) : RepS (lstsD st) st := ⟨_, .inr rfl, All2.of_map _ (fun r => ⟨_, .inr rfl, All2.of_map _ (fun w => .inr rfl) r⟩) st⟩
theorem chkW {τ β : Type} {nl : N D} {c : Nat} {v : Int} {s : Str} {R : Unit → N (Fl τ β)} {k : Fl τ β → Prop} {e : Nat → D → Prop} (hc : c < 5) (hs : s = erN c) (ho : PyData.strOk s = true) (h : nl.wp (fun _ => False) (fun c' x => c' = c ∧ x = .int v)) (hF : (R ()).wp k e) :
    (N.seq (((((m_law_error nl).ne.bind fun x => dNeD x (.tup [.str s, .int v])).bind N.tst).bind fun x => if x = true then N.ok (Fl.rt (D.bl false)) else N.ok (Fl.nx ())) : N (Fl Unit β)) R).wp k e := by
  subst hs
  refine N.mono (m_law_error nl) (fun d hd => ?_) (fun _ _ z => z) (error_wp (e := fun _ _ => False) hc h)
  subst hd
  have e1 := er_ne (erN c) v ho
  unfold erD at e1
  show (N.seq ((((dNeD (erD (erN c) v) (.tup [.str (erN c), .int v])).bind N.tst).bind fun x => if x = true then N.ok (Fl.rt (D.bl false)) else N.ok (Fl.nx ())) : N (Fl Unit β)) R).wp k e
  unfold erD
  rw [e1]
  exact hF
theorem retB {m : N D} {k : D → Prop} {e : Nat → D → Prop} (h : m.wp k e) : (N.fin (m.bind fun d => N.ok (Fl.rt d) : N (Fl Unit Unit))).wp k e := N.mono m (fun d hd => hd) (fun _ _ z => z) h
theorem seqP {τ β : Type} {m : N (Fl D β)} {R : D → N (Fl τ β)} {k : Fl τ β → Prop} {e : Nat → D → Prop} {Q : D → Prop} (h : m.wp (fun f => match f with | .nx j => Q j | _ => False) (fun _ _ => False)) (hR : ∀ j, Q j → (R j).wp k e) : (N.seq m R).wp k e :=
  N.mono m (fun f hf => by
    cases f with
    | nx j => exact hR j hf
    | rt d => exact hf.elim
    | bk b => exact hf.elim
    | ct b => exact hf.elim) (fun _ _ z => z.elim) h
theorem ge0 (i : Nat) : dGe (nD i) (.int 0) = .ok (.bl true) := by
  show N.ok (D.bl (decide (0 ≤ (i : Int)))) = _
  rw [decide_eq_true (by omega)]
theorem neL0 (xs : List Nat) : dNeD (.lst (xs.map nD)) (.lst []) = .ok (.bl (!decide (xs = []))) := enc_nat.lst.neD (by decide) xs []
end M

set_option Elab.async false
set_option linter.all false
set_option maxRecDepth 100000
set_option maxHeartbeats 1000000
namespace M
open PySem L2
theorem law_math : ∀ ns : List Int, ns.length ≤ 63 → (m_law (.lst (ns.map D.int))).wp (fun d => d = .bl true) (fun _ _ => False) := by
  intro ns hns
  have zz := sz1000
  unfold m_law
  simp only [N.ok_bind]
  refine seqB (Q := fun d => d = .dl 0) (source_wp hns rfl) fun d hd => ?_
  subst hd
  simp only [le_0, le_1, le_2, le_4, N.ok_bind]
  have ea := init0
  have eb : dNeD (D.tup [D.tup [], D.tup [D.tup []]]) (D.tup [D.tup [], D.tup [D.tup []]]) = .ok (.bl false) := neSt [[], [[]]]
  have ec : dNeD (D.int 3) (D.int 3) = .ok (.bl false) := ne_nat 3 3
  simp only [gD_LaneMap_2, ps2, ea, N.ok_bind, N.ok_seq, gone0, eb, ec, left0, N.tst_bl, N.ite_f]
  refine seqB (Q := fun d => ∃ n : Nat, d = nD n ∧ 2 ≤ n ∧ n ≤ 5) (any_bind (n := 4) (by decide) (by decide) fun r r0 r1 => ⟨(2 + r).toNat, by show D.int (2 + r) = D.int _; congr 1; omega, by omega, by omega⟩) fun d hd => ?_
  obtain ⟨n, rfl, n2, n5⟩ := hd
  refine seqB2 (Q2 := fun d => ∃ gs : List Go, d = .lst (gs.map gD) ∧ Drawn n n 0 gs) (rooms_wp n5) (lawGoings_wp n5 fun gs hg => ⟨gs, rfl, hg⟩) fun x y hx hy => ?_
  obtain ⟨rm, rfl, hrl, hrm⟩ := hx
  obtain ⟨gs, rfl, dr⟩ := hy
  subst hrl
  have hmany : gs.length ≤ 25 := by
    have := dr.many
    have := Nat.mul_le_mul n5 n5
    omega
  have mo : MapOk rm gs := ⟨by omega, hrm, dr.sort, dr.go, by omega⟩
  have e1 : dRevL (.lst (gs.map gD)) = .ok (.lst ((gs.map gD).reverse)) := rfl
  have e2 : toI (.int 1) = .ok 1 := rfl
  have e3 : dSlL (.lst (gs.map gD)) none (some 1) = .ok (.lst ((gs.map gD).take 1)) := by
    show N.ok (D.lst (cutD _ _ _)) = _
    rw [show cutD (gs.map gD) none (some 1) = _ from cut_to _ 1]
  have e4 : dCatL (.lst ((gs.map gD).reverse)) (.lst ((gs.map gD).take 1)) = .ok (.lst ((gs.reverse ++ gs.take 1).map gD)) := by
    show (N.asrt _).bind _ = _
    rw [N.asrt_of (by rw [List.length_reverse, List.length_take, List.length_map]; omega), List.map_append, List.map_reverse, List.map_take]
    rfl
  have e5 : seqOf (.lst ((gs.reverse ++ gs.take 1).map gD)) = .ok ((gs.reverse ++ gs.take 1).map gD) := rfl
  have hlen : (gs.reverse ++ gs.take 1).length ≤ 26 := by rw [List.length_append, List.length_reverse, List.length_take]; omega
  have e6 : N.lcG (.ok ((gs.reverse ++ gs.take 1).map gD)) (fun d => some d) (fun _ => .ok true) (fun c => dList c) = .ok (.lst ((gs.reverse ++ gs.take 1).map fun p => .lst (goL p))) :=
    lcG_all2 (all2_map _ fun p _ => rfl) (by rw [List.length_map]; omega)
  have e7 : dList (.lst (rm.map nD)) = .ok (.lst (rm.map nD)) := rfl
  have hrooms : ∀ d, IsSeq d (rm.map nD) → m_need_rooms d = .ok (.tup (rm.map nD)) := fun d h => needRooms_ok h (by rw [List.length_map]; omega) (rooms_nD hrm)
  have e8 : m_LaneMap_init (D.lst (rm.map nD)) (D.lst ((gs.reverse ++ gs.take 1).map fun p => D.lst (goL p))) = .ok (mapD rm gs) := by
    refine init_is (hrooms _ (.inr rfl)) (needGoings_ok (ps := gs.reverse ++ gs.take 1) (.inr rfl) (by rw [List.length_map]) (fun i y p h1 h2 => ?_) (by omega) dr.sort (fun p => ?_))
    · rw [List.getElem?_map, h2] at h1
      cases h1
      refine ⟨.inr rfl, dr.go p ?_⟩
      have := List.mem_of_getElem? h2
      rcases List.mem_append.mp this with q | q
      · exact List.mem_reverse.mp q
      · exact List.mem_of_mem_take q
    · rw [List.mem_append, List.mem_reverse]
      exact ⟨fun h => h.elim id List.mem_of_mem_take, .inl⟩
  simp only [e1, e2, e3, e4, e5, e6, e7, N.ok_bind, N.ok_seq, gD_LaneMap_0_goings_rooms, kw10, e8]
  have f1 : dTuple (.lst (rm.map nD)) = .ok (.tup (rm.map nD)) := rfl
  have f2 : dTuple (.lst (gs.map gD)) = .ok (.tup (gs.map gD)) := rfl
  have f3 : dNeD (.tup (rm.map nD)) (.tup (rm.map nD)) = .ok (.bl false) := by
    rw [enc_nat.tup.neD (by decide) rm rm, decide_eq_true rfl]; rfl
  have f4 : dNeD (.tup (gs.map gD)) (.tup (gs.map gD)) = .ok (.bl false) := by
    rw [enc_go.tup.neD (by decide) gs gs, decide_eq_true rfl]; rfl
  have f5 : m_LaneMap_init (D.tup (rm.map nD)) (D.lst (gs.map gD)) = .ok (mapD rm gs) := by
    exact init_is (hrooms _ (.inl rfl)) (needGoings_ok (ps := gs) (.inr rfl) (by rw [List.length_map]) (fun i y p h1 h2 => by
      rw [List.getElem?_map, h2] at h1
      cases h1
      exact ⟨.inl rfl, dr.go p (List.mem_of_getElem? h2)⟩) (by omega) dr.sort (fun p => Iff.rfl))
  have f6 : dNeI 6 m_LaneMap_eq (mapD rm gs) (mapD rm gs) = .ok (.bl false) := by
    rw [neI_map, decide_eq_true rfl, decide_eq_true rfl]; rfl
  simp only [gD_LaneMap_2, ps2, fld_rooms, fld_goings, f1, f2, f3, f4, f5, f6, eqI_lst, N.ok_bind, N.tst_bl, N.ite_f, N.ok_seq]
  refine seqB (Q := fun d => ∃ st : Std, d = stD st ∧ Good rm gs st) (lawStanding_wp mo hmany fun st g => ⟨st, rfl, g⟩) fun d hd => ?_
  obtain ⟨st, rfl, g⟩ := hd
  have g1 := needStanding_ok mo g (rep_lists st)
  have g12 : st.length ≤ 12 := by rw [g.len]; omega
  simp only [lists_ok g12 (g.rows mo), N.ok_bind, N.ok_seq, gD_need_standing_0_value_lanes, kw10, g1, neSt, N.tst_bl, N.ite_f, lawLeft_eq mo g]
  have h12 : N.rng1 (.int 12) = .ok ((List.range 12).map nD) := rng_ok (n := 12) (by decide)
  simp only [h12, N.ok_bind, decs_id]
  refine rng_fin (I := fun _ t => ∃ st, Good rm gs st ∧ t = (stD st, nD (leftN st))) ⟨st, g, rfl⟩ (fun i t hi ht => ?_) (fun t ht => ?_)
  · clear g1 g12 g
    obtain ⟨st, g, rfl⟩ := ht
    have g12 : st.length ≤ 12 := by rw [g.len]; omega
    obtain ⟨t1, r1⟩ := repr_left mo g
    obtain ⟨t2, r2⟩ := repr_knot (gs := gs) mo g.stops
    have k1 := goingsLeft_eq mo g (repS_self st)
    have k2 := possible_eq mo g (rep_lists st)
    have k3 : dTuple (.lst ((firsts rm st).map nD)) = .ok (.tup ((firsts rm st).map nD)) := rfl
    have k4 : dNeD (.tup ((firsts rm st).map nD)) (.tup ((firsts rm st).map nD)) = .ok (.bl false) := by
      rw [enc_nat.tup.neD (by decide), decide_eq_true rfl]; rfl
    have k5 : ((dIsN (oT (firstKnot rm st)) D.non).bind N.tst).bind (fun x => if x = true then ((dGt (nD (leftN st)) (D.int 0)).bind N.tst).bind fun x => if x = true then (dEqD (.lst ((firsts rm st).map nD)) (D.lst [])).bind N.tst else N.ok false else N.ok false) = .ok false := by
      cases e : firstKnot rm st with
      | some r => rfl
      | none =>
        show (((dGt (nD (leftN st)) (D.int 0)).bind N.tst).bind fun x => if x = true then (dEqD (.lst ((firsts rm st).map nD)) (D.lst [])).bind N.tst else N.ok false) = _
        rw [gtS0]
        by_cases h0 : 0 < leftN st
        · rw [decide_eq_true h0]
          simp only [N.ok_bind, N.tst_bl, if_true]
          rw [show dEqD (.lst ((firsts rm st).map nD)) (D.lst []) = _ from enc_nat.lst.eqD (by decide) (firsts rm st) [], decide_eq_false (someone mo g h0 e)]
          rfl
        · rw [decide_eq_false h0]
          rfl
    simp only [gD_goings_left_0_standing_lanes, gD_possible_goings_0_standing_lanes, kw10, k1, k2, k3, k4, k5, r1, r2, lists_ok g12 (g.rows mo), neS_str, lawFirsts_eq mo g, lawKnot_eq mo g, findKnot_eq mo g (repS_self st), N.ok_bind, N.ok_seq, N.tst_bl, N.ite_f]
    have hf : ∀ i, i ∈ firsts rm st ↔ i < st.length ∧ canGo rm st i = true := fun i => by unfold firsts; rw [List.mem_filter, List.mem_range]
    refine seqW (Q := fun d => ∃ i : Nat, d = nD i ∧ i < rm.length) (any_wp (n := (rm.length : Int)) (by omega) (by omega) fun r r0 r1 => ⟨r.toNat, by show D.int r = D.int _; congr 1; omega, by omega⟩) fun d hd => ?_
    obtain ⟨i, rfl, hi⟩ := hd
    rw [notIn_l]
    simp only [N.ok_bind, N.tst_bl]
    refine seqP (Q := fun j => (∃ i : Nat, j = nD i ∧ i ∈ firsts rm st) ∨ j = .int (-1)) ?_ fun j hj => ?_
    · by_cases q : i ∈ firsts rm st
      · rw [decide_eq_true q]
        exact .inl ⟨i, rfl, q⟩
      · rw [decide_eq_false q]
        simp only [Bool.not_false, if_true]
        have hc : canGo rm st i = false := by
          rw [← Bool.not_eq_true]
          exact fun z => q ((hf i).mpr ⟨by rw [g.len]; exact hi, z⟩)
        refine chkW (c := 4) (v := (i : Int)) (by decide) rfl (by decide +kernel) (by
          rw [show m_gone_standing (mapD rm gs) (stD st) (nD i) = _ from goneStanding_no mo g (repS_self st) hi hc]
          exact ⟨rfl, rfl⟩) ?_
        simp only [neL0, N.ok_bind, N.tst_bl]
        by_cases q0 : firsts rm st = []
        · rw [decide_eq_true q0]
          exact .inr rfl
        · rw [decide_eq_false q0]
          simp only [Bool.not_false, if_true]
          have hl : (firsts rm st).length ≤ st.length := by
            unfold firsts
            have := List.length_filter_le (canGo rm st) (List.range st.length)
            rw [List.length_range] at this
            exact this
          refine seqW (Q := fun d => ∃ i : Nat, d = nD i ∧ i ∈ firsts rm st) (of_wp (by simpa using q0) (by rw [List.length_map]; omega) fun d hd => ?_) fun d hd => .inl hd
          obtain ⟨x, hx, rfl⟩ := List.mem_map.mp hd
          exact ⟨x, rfl, hx⟩
    · rcases hj with ⟨x, rfl, hx⟩ | rfl
      · obtain ⟨hx1, hx2⟩ := (hf x).mp hx
        have hxr : x < rm.length := by rw [← g.len]; exact hx1
        have l1 : m_law_gone (stD st) (nD x) (.int 0) = .ok (stD (gone st x)) := lawGone_eq hx1 rfl g12 (by rw [g.len]; exact g.stops) (g.rows mo) (canGo_ne hx2)
        have l2 : m_gone_standing (mapD rm gs) (stD st) (nD x) = .ok (stD (gone st x)) := goneStanding_ok mo g (repS_self st) hxr hx2
        have l3 : dSub (nD (leftN st)) (.int 1) = .ok (nD (leftN (gone st x))) := by
          have := left_gone mo g hxr hx2
          show N.ok (D.int ((leftN st : Int) - 1)) = N.ok (D.int _)
          congr 2
          omega
        simp only [ge0, N.ok_bind, N.tst_bl, if_true, l1, gD_gone_standing_0_lane_standing_lanes, kw210, l2, neSt, N.ite_f, N.ok_seq, l3]
        exact ⟨gone st x, g.gone mo hxr hx2, rfl⟩
      · exact ⟨st, g, rfl⟩
  · obtain ⟨st, g, rfl⟩ := ht
    exact retB (refusals_wp mo g n2 n5 hmany)
end M

set_option Elab.async false
set_option linter.all false
set_option maxRecDepth 100000
set_option maxHeartbeats 4000000
namespace M
open PySem PySem.Spec PyProof.Rows L2
def nmT (c : Nat) : Str := ((["InvalidTies", "InvalidStanding", "InvalidLanes", "InvalidIndex", "Refused", "HallError", "LaneMap"]) : List Str).getD c ""
def cnT (c : Nat) : Str := (([]) : List Str).getD c ""
def d0 : He.DefD := ⟨("is_integer", none), "is_integer", "is_integer", defArgs s_is_integer, defBody s_is_integer, defScope s_is_integer, [], []⟩
def d1 : He.DefD := ⟨("is_index", none), "is_index", "is_index", defArgs s_is_index, defBody s_is_index, defScope s_is_index, [], []⟩
def d2 : He.DefD := ⟨("is_sequence", none), "is_sequence", "is_sequence", defArgs s_is_sequence, defBody s_is_sequence, defScope s_is_sequence, [], []⟩
def d3 : He.DefD := ⟨("need_rooms", none), "need_rooms", "need_rooms", defArgs s_need_rooms, defBody s_need_rooms, defScope s_need_rooms, [], []⟩
def d4 : He.DefD := ⟨("is_going", none), "is_going", "is_going", defArgs s_is_going, defBody s_is_going, defScope s_is_going, [], []⟩
def d5 : He.DefD := ⟨("need_goings", none), "need_goings", "need_goings", defArgs s_need_goings, defBody s_need_goings, defScope s_need_goings, [], []⟩
def d6 : He.DefD := ⟨("LaneMap", some "__init__"), "__init__", "LaneMap.__init__", defArgs s_LaneMap_init, defBody s_LaneMap_init, defScope s_LaneMap_init, [], []⟩
def d7 : He.DefD := ⟨("LaneMap", some "__eq__"), "__eq__", "LaneMap.__eq__", defArgs s_LaneMap_eq, defBody s_LaneMap_eq, defScope s_LaneMap_eq, [], []⟩
def d8 : He.DefD := ⟨("need_lanes", none), "need_lanes", "need_lanes", defArgs s_need_lanes, defBody s_need_lanes, defScope s_need_lanes, [], []⟩
def d9 : He.DefD := ⟨("is_lane_way", none), "is_lane_way", "is_lane_way", defArgs s_is_lane_way, defBody s_is_lane_way, defScope s_is_lane_way, [], []⟩
def d10 : He.DefD := ⟨("need_standing", none), "need_standing", "need_standing", defArgs s_need_standing, defBody s_need_standing, defScope s_need_standing, [], []⟩
def d11 : He.DefD := ⟨("is_full", none), "is_full", "is_full", defArgs s_is_full, defBody s_is_full, defScope s_is_full, [], []⟩
def d12 : He.DefD := ⟨("can_go", none), "can_go", "can_go", defArgs s_can_go, defBody s_can_go, defScope s_can_go, [], []⟩
def d13 : He.DefD := ⟨("goings_of", none), "goings_of", "goings_of", defArgs s_goings_of, defBody s_goings_of, defScope s_goings_of, [], []⟩
def d14 : He.DefD := ⟨("possible_goings", none), "possible_goings", "possible_goings", defArgs s_possible_goings, defBody s_possible_goings, defScope s_possible_goings, [], []⟩
def d15 : He.DefD := ⟨("after_going", none), "after_going", "after_going", defArgs s_after_going, defBody s_after_going, defScope s_after_going, [], []⟩
def d16 : He.DefD := ⟨("gone_standing", none), "gone_standing", "gone_standing", defArgs s_gone_standing, defBody s_gone_standing, defScope s_gone_standing, [], []⟩
def d17 : He.DefD := ⟨("goings_left", none), "goings_left", "goings_left", defArgs s_goings_left, defBody s_goings_left, defScope s_goings_left, [], []⟩
def d18 : He.DefD := ⟨("full_wish", none), "full_wish", "full_wish", defArgs s_full_wish, defBody s_full_wish, defScope s_full_wish, [], []⟩
def d19 : He.DefD := ⟨("knot_from", none), "knot_from", "knot_from", defArgs s_knot_from, defBody s_knot_from, defScope s_knot_from, [], []⟩
def d20 : He.DefD := ⟨("knot_of", none), "knot_of", "knot_of", defArgs s_knot_of, defBody s_knot_of, defScope s_knot_of, [], []⟩
def d21 : He.DefD := ⟨("find_knot", none), "find_knot", "find_knot", defArgs s_find_knot, defBody s_find_knot, defScope s_find_knot, [], []⟩
def d22 : He.DefD := ⟨("_law_source", none), "_law_source", "_law_source", defArgs s_law_source, defBody s_law_source, defScope s_law_source, [], []⟩
def d23 : He.DefD := ⟨("_law_any", none), "_law_any", "_law_any", defArgs s_law_any, defBody s_law_any, defScope s_law_any, [], []⟩
def d24 : He.DefD := ⟨("_law_of", none), "_law_of", "_law_of", defArgs s_law_of, defBody s_law_of, defScope s_law_of, [], []⟩
def d25 : He.DefD := ⟨("_law_goings", none), "_law_goings", "_law_goings", defArgs s_law_goings, defBody s_law_goings, defScope s_law_goings, [], []⟩
def d26 : He.DefD := ⟨("_law_way", none), "_law_way", "_law_way", defArgs s_law_way, defBody s_law_way, defScope s_law_way, [], []⟩
def d27 : He.DefD := ⟨("_law_standing", none), "_law_standing", "_law_standing", defArgs s_law_standing, defBody s_law_standing, defScope s_law_standing, [], []⟩
def d28 : He.DefD := ⟨("_law_gone", none), "_law_gone", "_law_gone", defArgs s_law_gone, defBody s_law_gone, defScope s_law_gone, [], []⟩
def d29 : He.DefD := ⟨("_law_firsts", none), "_law_firsts", "_law_firsts", defArgs s_law_firsts, defBody s_law_firsts, defScope s_law_firsts, [], []⟩
def d30 : He.DefD := ⟨("_law_knot", none), "_law_knot", "_law_knot", defArgs s_law_knot, defBody s_law_knot, defScope s_law_knot, [], []⟩
def d31 : He.DefD := ⟨("_law_error", none), "_law_error", "_law_error", defArgs s_law_error, defBody s_law_error, defScope s_law_error, [], []⟩
def d32 : He.DefD := ⟨("_law_left", none), "_law_left", "_law_left", defArgs s_law_left, defBody s_law_left, defScope s_law_left, [], []⟩
def d33 : He.DefD := ⟨("_law_refusals_right", none), "_law_refusals_right", "_law_refusals_right", defArgs s_law_refusals_right, defBody s_law_refusals_right, defScope s_law_refusals_right, [], []⟩
def d34 : He.DefD := ⟨("law", none), "law", "law", defArgs s_law, defBody s_law, defScope s_law, [], []⟩
def e0 : He.DefD := ⟨("InvalidTies", some "__init__"), "__init__", "InvalidTies.__init__", PySem.TErr.iA "at" ⟨13, 17, 13, 21⟩ ⟨13, 23, 13, 25⟩, PySem.TErr.iB "at" ⟨14, 8, 14, 12⟩ ⟨14, 8, 14, 15⟩ ⟨14, 18, 14, 20⟩ ⟨14, 8, 14, 20⟩, PySem.TErr.iS "at", [], []⟩
def e1 : He.DefD := ⟨("InvalidStanding", some "__init__"), "__init__", "InvalidStanding.__init__", PySem.TErr.iA "at" ⟨17, 17, 17, 21⟩ ⟨17, 23, 17, 25⟩, PySem.TErr.iB "at" ⟨18, 8, 18, 12⟩ ⟨18, 8, 18, 15⟩ ⟨18, 18, 18, 20⟩ ⟨18, 8, 18, 20⟩, PySem.TErr.iS "at", [], []⟩
def e2 : He.DefD := ⟨("InvalidLanes", some "__init__"), "__init__", "InvalidLanes.__init__", PySem.TErr.iA "at" ⟨21, 17, 21, 21⟩ ⟨21, 23, 21, 25⟩, PySem.TErr.iB "at" ⟨22, 8, 22, 12⟩ ⟨22, 8, 22, 15⟩ ⟨22, 18, 22, 20⟩ ⟨22, 8, 22, 20⟩, PySem.TErr.iS "at", [], []⟩
def e3 : He.DefD := ⟨("InvalidIndex", some "__init__"), "__init__", "InvalidIndex.__init__", PySem.TErr.iA "at" ⟨25, 17, 25, 21⟩ ⟨25, 23, 25, 25⟩, PySem.TErr.iB "at" ⟨26, 8, 26, 12⟩ ⟨26, 8, 26, 15⟩ ⟨26, 18, 26, 20⟩ ⟨26, 8, 26, 20⟩, PySem.TErr.iS "at", [], []⟩
def e4 : He.DefD := ⟨("Refused", some "__init__"), "__init__", "Refused.__init__", PySem.TErr.iA "at" ⟨29, 17, 29, 21⟩ ⟨29, 23, 29, 25⟩, PySem.TErr.iB "at" ⟨30, 8, 30, 12⟩ ⟨30, 8, 30, 15⟩ ⟨30, 18, 30, 20⟩ ⟨30, 8, 30, 20⟩, PySem.TErr.iS "at", [], []⟩
def tfL : List (He.Defn × Str) := [(("_law_refusals_right", none), "_law_refusals_right.<locals>.<lambda>"), (("law", none), "law.<locals>.<lambda>")]
def fnL : List He.DefD := ([d0, d1, d2, d3, d4, d5, d6, d7, d8, d9, d10, d11, d12, d13, d14, d15, d16, d17, d18, d19, d20, d21, d22, d23, d24, d25, d26, d27, d28, d29] : List He.DefD) ++ ([d30, d31, d32, d33, d34, e0, e1, e2, e3, e4] : List He.DefD)
def faL : List He.Fa := ([.glo "is_integer", .glo "is_index", .glo "is_sequence", .glo "need_rooms", .glo "is_going", .glo "need_goings", .glo "need_lanes", .glo "is_lane_way", .glo "need_standing", .glo "is_full", .glo "can_go", .glo "goings_of", .glo "possible_goings", .glo "after_going", .glo "gone_standing", .glo "goings_left", .glo "full_wish", .glo "knot_from", .glo "knot_of", .glo "find_knot", .glo "_law_source", .glo "_law_any", .glo "_law_of", .glo "_law_goings", .glo "_law_way", .glo "_law_standing", .glo "_law_gone", .glo "_law_firsts", .glo "_law_knot", .glo "_law_error"] : List He.Fa) ++ ([.glo "_law_left", .glo "_law_refusals_right", .glo "law", .glo "InvalidTies", .glo "InvalidStanding", .glo "InvalidLanes", .glo "InvalidIndex", .glo "Refused", .glo "HallError", .glo "LaneMap", .cls "LaneMap", .mkr "LaneMap", .keep "LaneMap", .noat "LaneMap" "rooms", .noat "LaneMap" "goings", .meth "LaneMap" "__eq__", .int "MOST_LANES" 12, .int "MOST_ROOM" 9, .free "int", .free "abs", .free "len", .free "range", .free "isinstance", .free "bool", .free "list", .free "tuple", .free "enumerate", .free "zip", .free "all", .free "sum"] : List He.Fa) ++ ([.free "sorted", .free "repr"] : List He.Fa)
def exL (K : PySem.W.Frag) : Bool := excB K "InvalidTies" "at" && (excB K "InvalidStanding" "at" && (excB K "InvalidLanes" "at" && (excB K "InvalidIndex" "at" && (excB K "Refused" "at" && (insB K "LaneMap" && (eqcB K "LaneMap" && (kitB K nmT clT && (exB K nmT exT 5 6 && (tlB K tfL && (true))))))))))
abbrev R : PySem.W.OpenRow := PySem.W.OpenLaw.row PySem.Challenge.rw_nobodymeets_k57_whole_lanes_and_goings_o
abbrev hk : PySem.W.Hook := He.hookX 5 faL fnL [] (tfL.map fun p => p.1) exL
def ob (s : PySem.W.SharedT) : He.AlX := He.obsX 5 faL fnL [] (tfL.map fun p => p.1) exL (HandSHeadRun.getT s)
theorem ob_eq (s : PySem.W.SharedT) : ob s = hk.obs s.abs := He.obsX_eq (HandSHeadRun.getT_eq s)
def looseL : List Str := (["is_integer", "is_index", "is_sequence", "HallError", "InvalidTies", "InvalidStanding", "InvalidLanes", "InvalidIndex", "Refused", "LaneMap", "need_rooms", "need_goings", "is_going", "need_lanes", "need_standing", "is_lane_way", "possible_goings", "goings_of", "can_go", "is_full", "gone_standing", "after_going", "goings_left", "find_knot", "knot_of", "knot_from", "full_wish", "_law_source", "_law_any", "_law_of"] : List Str) ++ (["_law_goings", "_law_way", "_law_standing", "_law_gone", "_law_firsts", "_law_knot", "_law_error", "_law_left", "_law_refusals_right", "MOST_LANES", "MOST_ROOM"] : List Str)
theorem run (w : World) : HandSHeadRun.RunEq R (PySem.W.view R.prog [46]) hk ob 12000 looseL w := by
  intro os
  kernel_rfl
theorem facts {P : Program} {w : World} {K : PySem.W.Frag} {h : Heap} {mg : Str → Option Value} {fa : Addr} (X : K.In h) (G : h.Ns mainGlobals mg) (hfa : mg ("law" : Str) = some (.ref fa)) (cx : He.SaysX faL fnL [] (tfL.map fun p => p.1) exL w h K) :
    ∃ fd : FuncData, (∀ (s : Shared) (v : Value), BindsTo s fd ⟨[v], []⟩ [("_law_script", v)]) ∧ ∀ base : Heap, K.In base → base.Ns mainGlobals mg → (∀ p ∈ tfL, LamX.TabB base mg (He.cT K p.1).1 (He.cT K p.1).2) → FnG P w K mg base (L2.CX P w) 11 fa fd ["_law_script"] (spLaw K (tlOf K tfL)) := by
  have c := cx.t.d
  have e := cx.more
  obtain ⟨x0, e⟩ := He.ba e
  obtain ⟨x1, e⟩ := He.ba e
  obtain ⟨x2, e⟩ := He.ba e
  obtain ⟨x3, e⟩ := He.ba e
  obtain ⟨x4, e⟩ := He.ba e
  obtain ⟨i_LaneMap, e⟩ := He.ba e
  obtain ⟨q_LaneMap, e⟩ := He.ba e
  obtain ⟨xk, e⟩ := He.ba e
  obtain ⟨xe, e⟩ := He.ba e
  obtain ⟨xt, e⟩ := He.ba e
  have el := hfa.symm.trans (He.glo_ok X G (c.fact 32 (f := .glo "law") rfl))
  cases el
  obtain ⟨fd0, F0⟩ : ∃ fd, FunD K "is_integer" "is_integer" (defArgs s_is_integer) (defBody s_is_integer) (defScope s_is_integer) [] [] (He.ga K "is_integer") fd := c.def_ 0 (d := d0) rfl
  obtain ⟨fd1, F1⟩ : ∃ fd, FunD K "is_index" "is_index" (defArgs s_is_index) (defBody s_is_index) (defScope s_is_index) [] [] (He.ga K "is_index") fd := c.def_ 1 (d := d1) rfl
  obtain ⟨fd2, F2⟩ : ∃ fd, FunD K "is_sequence" "is_sequence" (defArgs s_is_sequence) (defBody s_is_sequence) (defScope s_is_sequence) [] [] (He.ga K "is_sequence") fd := c.def_ 2 (d := d2) rfl
  obtain ⟨fd3, F3⟩ : ∃ fd, FunD K "need_rooms" "need_rooms" (defArgs s_need_rooms) (defBody s_need_rooms) (defScope s_need_rooms) [] [] (He.ga K "need_rooms") fd := c.def_ 3 (d := d3) rfl
  obtain ⟨fd4, F4⟩ : ∃ fd, FunD K "is_going" "is_going" (defArgs s_is_going) (defBody s_is_going) (defScope s_is_going) [] [] (He.ga K "is_going") fd := c.def_ 4 (d := d4) rfl
  obtain ⟨fd5, F5⟩ : ∃ fd, FunD K "need_goings" "need_goings" (defArgs s_need_goings) (defBody s_need_goings) (defScope s_need_goings) [] [] (He.ga K "need_goings") fd := c.def_ 5 (d := d5) rfl
  obtain ⟨fd6, F6⟩ : ∃ fd, FunD K "__init__" "LaneMap.__init__" (defArgs s_LaneMap_init) (defBody s_LaneMap_init) (defScope s_LaneMap_init) [] [] (He.ma K (He.ga K "LaneMap") "__init__") fd := c.def_ 6 (d := d6) rfl
  obtain ⟨fd7, F7⟩ : ∃ fd, FunD K "__eq__" "LaneMap.__eq__" (defArgs s_LaneMap_eq) (defBody s_LaneMap_eq) (defScope s_LaneMap_eq) [] [] (He.ma K (He.ga K "LaneMap") "__eq__") fd := c.def_ 7 (d := d7) rfl
  obtain ⟨fd8, F8⟩ : ∃ fd, FunD K "need_lanes" "need_lanes" (defArgs s_need_lanes) (defBody s_need_lanes) (defScope s_need_lanes) [] [] (He.ga K "need_lanes") fd := c.def_ 8 (d := d8) rfl
  obtain ⟨fd9, F9⟩ : ∃ fd, FunD K "is_lane_way" "is_lane_way" (defArgs s_is_lane_way) (defBody s_is_lane_way) (defScope s_is_lane_way) [] [] (He.ga K "is_lane_way") fd := c.def_ 9 (d := d9) rfl
  obtain ⟨fd10, F10⟩ : ∃ fd, FunD K "need_standing" "need_standing" (defArgs s_need_standing) (defBody s_need_standing) (defScope s_need_standing) [] [] (He.ga K "need_standing") fd := c.def_ 10 (d := d10) rfl
  obtain ⟨fd11, F11⟩ : ∃ fd, FunD K "is_full" "is_full" (defArgs s_is_full) (defBody s_is_full) (defScope s_is_full) [] [] (He.ga K "is_full") fd := c.def_ 11 (d := d11) rfl
  obtain ⟨fd12, F12⟩ : ∃ fd, FunD K "can_go" "can_go" (defArgs s_can_go) (defBody s_can_go) (defScope s_can_go) [] [] (He.ga K "can_go") fd := c.def_ 12 (d := d12) rfl
  obtain ⟨fd13, F13⟩ : ∃ fd, FunD K "goings_of" "goings_of" (defArgs s_goings_of) (defBody s_goings_of) (defScope s_goings_of) [] [] (He.ga K "goings_of") fd := c.def_ 13 (d := d13) rfl
  obtain ⟨fd14, F14⟩ : ∃ fd, FunD K "possible_goings" "possible_goings" (defArgs s_possible_goings) (defBody s_possible_goings) (defScope s_possible_goings) [] [] (He.ga K "possible_goings") fd := c.def_ 14 (d := d14) rfl
  obtain ⟨fd15, F15⟩ : ∃ fd, FunD K "after_going" "after_going" (defArgs s_after_going) (defBody s_after_going) (defScope s_after_going) [] [] (He.ga K "after_going") fd := c.def_ 15 (d := d15) rfl
  obtain ⟨fd16, F16⟩ : ∃ fd, FunD K "gone_standing" "gone_standing" (defArgs s_gone_standing) (defBody s_gone_standing) (defScope s_gone_standing) [] [] (He.ga K "gone_standing") fd := c.def_ 16 (d := d16) rfl
  obtain ⟨fd17, F17⟩ : ∃ fd, FunD K "goings_left" "goings_left" (defArgs s_goings_left) (defBody s_goings_left) (defScope s_goings_left) [] [] (He.ga K "goings_left") fd := c.def_ 17 (d := d17) rfl
  obtain ⟨fd18, F18⟩ : ∃ fd, FunD K "full_wish" "full_wish" (defArgs s_full_wish) (defBody s_full_wish) (defScope s_full_wish) [] [] (He.ga K "full_wish") fd := c.def_ 18 (d := d18) rfl
  obtain ⟨fd19, F19⟩ : ∃ fd, FunD K "knot_from" "knot_from" (defArgs s_knot_from) (defBody s_knot_from) (defScope s_knot_from) [] [] (He.ga K "knot_from") fd := c.def_ 19 (d := d19) rfl
  obtain ⟨fd20, F20⟩ : ∃ fd, FunD K "knot_of" "knot_of" (defArgs s_knot_of) (defBody s_knot_of) (defScope s_knot_of) [] [] (He.ga K "knot_of") fd := c.def_ 20 (d := d20) rfl
  obtain ⟨fd21, F21⟩ : ∃ fd, FunD K "find_knot" "find_knot" (defArgs s_find_knot) (defBody s_find_knot) (defScope s_find_knot) [] [] (He.ga K "find_knot") fd := c.def_ 21 (d := d21) rfl
  obtain ⟨fd22, F22⟩ : ∃ fd, FunD K "_law_source" "_law_source" (defArgs s_law_source) (defBody s_law_source) (defScope s_law_source) [] [] (He.ga K "_law_source") fd := c.def_ 22 (d := d22) rfl
  obtain ⟨fd23, F23⟩ : ∃ fd, FunD K "_law_any" "_law_any" (defArgs s_law_any) (defBody s_law_any) (defScope s_law_any) [] [] (He.ga K "_law_any") fd := c.def_ 23 (d := d23) rfl
  obtain ⟨fd24, F24⟩ : ∃ fd, FunD K "_law_of" "_law_of" (defArgs s_law_of) (defBody s_law_of) (defScope s_law_of) [] [] (He.ga K "_law_of") fd := c.def_ 24 (d := d24) rfl
  obtain ⟨fd25, F25⟩ : ∃ fd, FunD K "_law_goings" "_law_goings" (defArgs s_law_goings) (defBody s_law_goings) (defScope s_law_goings) [] [] (He.ga K "_law_goings") fd := c.def_ 25 (d := d25) rfl
  obtain ⟨fd26, F26⟩ : ∃ fd, FunD K "_law_way" "_law_way" (defArgs s_law_way) (defBody s_law_way) (defScope s_law_way) [] [] (He.ga K "_law_way") fd := c.def_ 26 (d := d26) rfl
  obtain ⟨fd27, F27⟩ : ∃ fd, FunD K "_law_standing" "_law_standing" (defArgs s_law_standing) (defBody s_law_standing) (defScope s_law_standing) [] [] (He.ga K "_law_standing") fd := c.def_ 27 (d := d27) rfl
  obtain ⟨fd28, F28⟩ : ∃ fd, FunD K "_law_gone" "_law_gone" (defArgs s_law_gone) (defBody s_law_gone) (defScope s_law_gone) [] [] (He.ga K "_law_gone") fd := c.def_ 28 (d := d28) rfl
  obtain ⟨fd29, F29⟩ : ∃ fd, FunD K "_law_firsts" "_law_firsts" (defArgs s_law_firsts) (defBody s_law_firsts) (defScope s_law_firsts) [] [] (He.ga K "_law_firsts") fd := c.def_ 29 (d := d29) rfl
  obtain ⟨fd30, F30⟩ : ∃ fd, FunD K "_law_knot" "_law_knot" (defArgs s_law_knot) (defBody s_law_knot) (defScope s_law_knot) [] [] (He.ga K "_law_knot") fd := c.def_ 30 (d := d30) rfl
  obtain ⟨fd31, F31⟩ : ∃ fd, FunD K "_law_error" "_law_error" (defArgs s_law_error) (defBody s_law_error) (defScope s_law_error) [] [] (He.ga K "_law_error") fd := c.def_ 31 (d := d31) rfl
  obtain ⟨fd32, F32⟩ : ∃ fd, FunD K "_law_left" "_law_left" (defArgs s_law_left) (defBody s_law_left) (defScope s_law_left) [] [] (He.ga K "_law_left") fd := c.def_ 32 (d := d32) rfl
  obtain ⟨fd33, F33⟩ : ∃ fd, FunD K "_law_refusals_right" "_law_refusals_right" (defArgs s_law_refusals_right) (defBody s_law_refusals_right) (defScope s_law_refusals_right) [] [] (He.ga K "_law_refusals_right") fd := c.def_ 33 (d := d33) rfl
  obtain ⟨fd34, F34⟩ : ∃ fd, FunD K "law" "law" (defArgs s_law) (defBody s_law) (defScope s_law) [] [] (He.ga K "law") fd := c.def_ 34 (d := d34) rfl
  obtain ⟨_, Fe0⟩ := c.def_ 35 (d := e0) rfl
  have E0 := etxt_of (nm := "InvalidTies") (f := "at") X G (by unfold PySem.TErr.Fld; simp) (c.fact 33 (f := .glo "InvalidTies") rfl) x0 Fe0
  obtain ⟨_, Fe1⟩ := c.def_ 36 (d := e1) rfl
  have E1 := etxt_of (nm := "InvalidStanding") (f := "at") X G (by unfold PySem.TErr.Fld; simp) (c.fact 34 (f := .glo "InvalidStanding") rfl) x1 Fe1
  obtain ⟨_, Fe2⟩ := c.def_ 37 (d := e2) rfl
  have E2 := etxt_of (nm := "InvalidLanes") (f := "at") X G (by unfold PySem.TErr.Fld; simp) (c.fact 35 (f := .glo "InvalidLanes") rfl) x2 Fe2
  obtain ⟨_, Fe3⟩ := c.def_ 38 (d := e3) rfl
  have E3 := etxt_of (nm := "InvalidIndex") (f := "at") X G (by unfold PySem.TErr.Fld; simp) (c.fact 36 (f := .glo "InvalidIndex") rfl) x3 Fe3
  obtain ⟨_, Fe4⟩ := c.def_ 39 (d := e4) rfl
  have E4 := etxt_of (nm := "Refused") (f := "at") X G (by unfold PySem.TErr.Fld; simp) (c.fact 37 (f := .glo "Refused") rfl) x4 Fe4
  have I_LaneMap := insB_ok i_LaneMap (He.cls_ok (c.fact 40 (f := .cls "LaneMap") rfl))
  let Z : Zt := { K := K, cs := fun c => He.ga K (nmT c), fs := fsT, at_ := atT, dl := DL, dlm := DLm, tl := tlOf K tfL }
  have T : Txt Z mg (fun c => He.ga K (cnT c)) (fun c => He.ma K (He.ga K (nmT c)) "__init__") := { b_int := He.free_ok X G (c.fact 48 (f := .free "int") rfl), b_abs := He.free_ok X G (c.fact 49 (f := .free "abs") rfl), b_len := He.free_ok X G (c.fact 50 (f := .free "len") rfl), b_range := He.free_ok X G (c.fact 51 (f := .free "range") rfl), b_isinstance := He.free_ok X G (c.fact 52 (f := .free "isinstance") rfl), b_bool := He.free_ok X G (c.fact 53 (f := .free "bool") rfl), b_list := He.free_ok X G (c.fact 54 (f := .free "list") rfl), b_tuple := He.free_ok X G (c.fact 55 (f := .free "tuple") rfl), b_enumerate := He.free_ok X G (c.fact 56 (f := .free "enumerate") rfl), b_zip := He.free_ok X G (c.fact 57 (f := .free "zip") rfl), b_all := He.free_ok X G (c.fact 58 (f := .free "all") rfl), b_sum := He.free_ok X G (c.fact 59 (f := .free "sum") rfl), b_sorted := He.free_ok X G (c.fact 60 (f := .free "sorted") rfl), b_repr := He.free_ok X G (c.fact 61 (f := .free "repr") rfl), i_MOST_LANES := He.int_ok X G (c.fact 46 (f := .int "MOST_LANES" 12) rfl), i_MOST_ROOM := He.int_ok X G (c.fact 47 (f := .int "MOST_ROOM" 9) rfl), at_ := rfl, na_LaneMap_rooms := He.noat_ok (c.fact 43 (f := .noat "LaneMap" "rooms") rfl), na_LaneMap_goings := He.noat_ok (c.fact 44 (f := .noat "LaneMap" "goings") rfl), cl_LaneMap := He.cls_ok (c.fact 40 (f := .cls "LaneMap") rfl), m_LaneMap := (He.glo_ok X G (c.fact 39 (f := .glo "LaneMap") rfl)), kp_LaneMap := He.keep_ok (c.fact 42 (f := .keep "LaneMap") rfl), is_LaneMap := (fun c hc => ⟨by simp only [clT, List.mem_cons, List.not_mem_nil, or_false] at hc; rcases hc with rfl; exact I_LaneMap.1, kitB_ok xk c 6 hc (by decide)⟩), it_LaneMap := I_LaneMap.2, fa_goings := fa_of (cl := clT) (fun c hc => by simp only [clT, List.mem_cons, List.not_mem_nil, or_false] at hc; rcases hc with rfl; exact ⟨He.cls_ok (c.fact 40 (f := .cls "LaneMap") rfl), He.noat_ok (c.fact 44 (f := .noat "LaneMap" "goings") rfl)⟩) (fun c hc => by simp only [clT, List.mem_cons, List.not_mem_nil, or_false] at hc; simp [atT, hc]), fa_rooms := fa_of (cl := clT) (fun c hc => by simp only [clT, List.mem_cons, List.not_mem_nil, or_false] at hc; rcases hc with rfl; exact ⟨He.cls_ok (c.fact 40 (f := .cls "LaneMap") rfl), He.noat_ok (c.fact 43 (f := .noat "LaneMap" "rooms") rfl)⟩) (fun c hc => by simp only [clT, List.mem_cons, List.not_mem_nil, or_false] at hc; simp [atT, hc]), e_InvalidTies := E0, n_InvalidTies := rfl, hx_InvalidTies_at := (fun c h => by obtain rfl : c = 0 := (by simpa [exT] using h); exact rfl), eT_InvalidTies := (fun c h => by obtain rfl : c = 0 := (by simpa [exT] using h); exact ⟨_, _, E0⟩), e_InvalidStanding := E1, n_InvalidStanding := rfl, hx_InvalidStanding_at := (fun c h => by obtain rfl : c = 1 := (by simpa [exT] using h); exact rfl), eT_InvalidStanding := (fun c h => by obtain rfl : c = 1 := (by simpa [exT] using h); exact ⟨_, _, E1⟩), e_InvalidLanes := E2, n_InvalidLanes := rfl, hx_InvalidLanes_at := (fun c h => by obtain rfl : c = 2 := (by simpa [exT] using h); exact rfl), eT_InvalidLanes := (fun c h => by obtain rfl : c = 2 := (by simpa [exT] using h); exact ⟨_, _, E2⟩), e_InvalidIndex := E3, n_InvalidIndex := rfl, hx_InvalidIndex_at := (fun c h => by obtain rfl : c = 3 := (by simpa [exT] using h); exact rfl), eT_InvalidIndex := (fun c h => by obtain rfl : c = 3 := (by simpa [exT] using h); exact ⟨_, _, E3⟩), e_Refused := E4, n_Refused := rfl, hx_Refused_at := (fun c h => by obtain rfl : c = 4 := (by simpa [exT] using h); exact rfl), eT_Refused := (fun c h => by obtain rfl : c = 4 := (by simpa [exT] using h); exact ⟨_, _, E4⟩), g_HallError := (He.glo_ok X G (c.fact 38 (f := .glo "HallError") rfl)), ex := exB_ok xe, dl := rfl }
  have bl := FunD.bindsA (ps := ["_law_script"]) F34 fun _ _ _ _ _ _ us hl => match us, hl with | [_], _ => rfl
  refine ⟨fd34, fun s v => bl s [v] rfl, fun base _ _ TBs => ?_⟩
  have K0 := ok_is_integer (Z := Z) (P := P) (w := w) (base := base) F0 T 
  have D_is_integer : Df P w Z mg base "is_integer" 2 1 (app1 m_is_integer) := ⟨⟨_, _, _, K0, (He.glo_ok X G (c.fact 0 (f := .glo "is_integer") rfl)), F0.kp, bind_all F0 fun _ _ _ _ _ _ us hl => match us, hl with | [_], _ => rfl⟩, ar1 _⟩
  have K1 := ok_is_index (Z := Z) (P := P) (w := w) (base := base) F1 T D_is_integer
  have D_is_index : Df P w Z mg base "is_index" 3 2 (app2 m_is_index) := ⟨⟨_, _, _, K1, (He.glo_ok X G (c.fact 1 (f := .glo "is_index") rfl)), F1.kp, bind_all F1 fun _ _ _ _ _ _ us hl => match us, hl with | [_, _], _ => rfl⟩, ar2 _⟩
  have K2 := ok_is_sequence (Z := Z) (P := P) (w := w) (base := base) F2 T 
  have D_is_sequence : Df P w Z mg base "is_sequence" 2 1 (app1 m_is_sequence) := ⟨⟨_, _, _, K2, (He.glo_ok X G (c.fact 2 (f := .glo "is_sequence") rfl)), F2.kp, bind_all F2 fun _ _ _ _ _ _ us hl => match us, hl with | [_], _ => rfl⟩, ar1 _⟩
  have K3 := ok_need_rooms (Z := Z) (P := P) (w := w) (base := base) F3 T D_is_sequence D_is_integer
  have D_need_rooms : Df P w Z mg base "need_rooms" 3 1 (app1 m_need_rooms) := ⟨⟨_, _, _, K3, (He.glo_ok X G (c.fact 3 (f := .glo "need_rooms") rfl)), F3.kp, bind_all F3 fun _ _ _ _ _ _ us hl => match us, hl with | [_], _ => rfl⟩, ar1 _⟩
  have K4 := ok_is_going (Z := Z) (P := P) (w := w) (base := base) F4 T D_is_sequence D_is_index
  have D_is_going : Df P w Z mg base "is_going" 4 2 (app2 m_is_going) := ⟨⟨_, _, _, K4, (He.glo_ok X G (c.fact 4 (f := .glo "is_going") rfl)), F4.kp, bind_all F4 fun _ _ _ _ _ _ us hl => match us, hl with | [_, _], _ => rfl⟩, ar2 _⟩
  have K5 := ok_need_goings (Z := Z) (P := P) (w := w) (base := base) F5 T D_is_sequence D_is_going
  have D_need_goings : Df P w Z mg base "need_goings" 5 2 (app2 m_need_goings) := ⟨⟨_, _, _, K5, (He.glo_ok X G (c.fact 5 (f := .glo "need_goings") rfl)), F5.kp, bind_all F5 fun _ _ _ _ _ _ us hl => match us, hl with | [_, _], _ => rfl⟩, ar2 _⟩
  have K6 := ok_LaneMap_init (Z := Z) (P := P) (w := w) (base := base) F6 T D_need_rooms D_need_goings
  have M_LaneMap_2 : MkI P w Z mg base "LaneMap" 6 6 2 [] gD_LaneMap_2 2 (app2 m_LaneMap_init) := mki_of (s := fun zs => zs) K6 (He.mkr_ok (c.fact 41 (f := .mkr "LaneMap") rfl)) (He.glo_ok X G (c.fact 39 (f := .glo "LaneMap") rfl)) (kb_all F6 3 [] (fun _ _ _ _ _ _ us ws h1 h2 => match us, ws, h1, h2 with | [_, _, _], [], _, _ => rfl)) (ar2 _) (fun F vs ds zs es r1 r2 => r1.append r2)
  have M_LaneMap_0_goings_rooms : MkI P w Z mg base "LaneMap" 6 6 0 ["goings", "rooms"] gD_LaneMap_0_goings_rooms 2 (app2 m_LaneMap_init) := mki_of (s := fun zs => sel [1, 0] zs) K6 (He.mkr_ok (c.fact 41 (f := .mkr "LaneMap") rfl)) (He.glo_ok X G (c.fact 39 (f := .glo "LaneMap") rfl)) (kb_perm F6 1 ["goings", "rooms"] [1, 0] (fun _ _ _ _ _ _ us ws h1 h2 => match us, ws, h1, h2 with | [_], [_, _], _, _ => rfl)) (ar2 _) (fun F vs ds zs es r1 r2 => r1.append (rpl_sel r2 [1, 0]))
  have K7 := ok_LaneMap_eq (Z := Z) (P := P) (w := w) (base := base) F7 T 
  have Q_LaneMap : EqC P w Z mg base 6 2 m_LaneMap_eq := eqc_of (Z := Z) (x := "LaneMap") rfl K7 (bind_all F7 fun _ _ _ _ _ _ us hl => match us, hl with | [_, _], _ => rfl) (c.fact 45 (f := .meth "LaneMap" "__eq__") rfl) q_LaneMap I_LaneMap.1
  have K8 := ok_need_lanes (Z := Z) (P := P) (w := w) (base := base) F8 T 
  have D_need_lanes : Df P w Z mg base "need_lanes" 2 1 (app1 m_need_lanes) := ⟨⟨_, _, _, K8, (He.glo_ok X G (c.fact 6 (f := .glo "need_lanes") rfl)), F8.kp, bind_all F8 fun _ _ _ _ _ _ us hl => match us, hl with | [_], _ => rfl⟩, ar1 _⟩
  have K9 := ok_is_lane_way (Z := Z) (P := P) (w := w) (base := base) F9 T D_is_sequence D_is_index
  have D_is_lane_way : Df P w Z mg base "is_lane_way" 4 4 (app4 m_is_lane_way) := ⟨⟨_, _, _, K9, (He.glo_ok X G (c.fact 7 (f := .glo "is_lane_way") rfl)), F9.kp, bind_all F9 fun _ _ _ _ _ _ us hl => match us, hl with | [_, _, _, _], _ => rfl⟩, ar4 _⟩
  have K10 := ok_need_standing (Z := Z) (P := P) (w := w) (base := base) F10 T D_need_lanes D_is_sequence D_is_lane_way
  have D_need_standing : Df P w Z mg base "need_standing" 5 2 (app2 m_need_standing) := ⟨⟨_, _, _, K10, (He.glo_ok X G (c.fact 8 (f := .glo "need_standing") rfl)), F10.kp, bind_all F10 fun _ _ _ _ _ _ us hl => match us, hl with | [_, _], _ => rfl⟩, ar2 _⟩
  have G_need_standing_0_value_lanes : DfG P w Z mg base "need_standing" 5 0 ["value", "lanes"] gD_need_standing_0_value_lanes 2 (app2 m_need_standing) := ⟨⟨_, _, _, _, _, K10, (He.glo_ok X G (c.fact 8 (f := .glo "need_standing") rfl)), F10.kp, (kb_perm F10 0 ["value", "lanes"] [1, 0] (fun _ _ _ _ _ _ us ws h1 h2 => match us, ws, h1, h2 with | [], [_, _], _, _ => rfl)), fun F vs ds zs es r1 r2 _ _ => r1.append (rpl_sel r2 [1, 0])⟩, ar2 _⟩
  have K11 := ok_is_full (Z := Z) (P := P) (w := w) (base := base) F11 T 
  have D_is_full : Df P w Z mg base "is_full" 2 3 (app3 m_is_full) := ⟨⟨_, _, _, K11, (He.glo_ok X G (c.fact 9 (f := .glo "is_full") rfl)), F11.kp, bind_all F11 fun _ _ _ _ _ _ us hl => match us, hl with | [_, _, _], _ => rfl⟩, ar3 _⟩
  have K12 := ok_can_go (Z := Z) (P := P) (w := w) (base := base) F12 T D_is_full
  have D_can_go : Df P w Z mg base "can_go" 3 3 (app3 m_can_go) := ⟨⟨_, _, _, K12, (He.glo_ok X G (c.fact 10 (f := .glo "can_go") rfl)), F12.kp, bind_all F12 fun _ _ _ _ _ _ us hl => match us, hl with | [_, _, _], _ => rfl⟩, ar3 _⟩
  have K13 := ok_goings_of (Z := Z) (P := P) (w := w) (base := base) F13 T D_can_go
  have D_goings_of : Df P w Z mg base "goings_of" 4 2 (app2 m_goings_of) := ⟨⟨_, _, _, K13, (He.glo_ok X G (c.fact 11 (f := .glo "goings_of") rfl)), F13.kp, bind_all F13 fun _ _ _ _ _ _ us hl => match us, hl with | [_, _], _ => rfl⟩, ar2 _⟩
  have K14 := ok_possible_goings (Z := Z) (P := P) (w := w) (base := base) F14 T D_need_standing D_goings_of
  have D_possible_goings : Df P w Z mg base "possible_goings" 6 2 (app2 m_possible_goings) := ⟨⟨_, _, _, K14, (He.glo_ok X G (c.fact 12 (f := .glo "possible_goings") rfl)), F14.kp, bind_all F14 fun _ _ _ _ _ _ us hl => match us, hl with | [_, _], _ => rfl⟩, ar2 _⟩
  have G_possible_goings_0_standing_lanes : DfG P w Z mg base "possible_goings" 6 0 ["standing", "lanes"] gD_possible_goings_0_standing_lanes 2 (app2 m_possible_goings) := ⟨⟨_, _, _, _, _, K14, (He.glo_ok X G (c.fact 12 (f := .glo "possible_goings") rfl)), F14.kp, (kb_perm F14 0 ["standing", "lanes"] [1, 0] (fun _ _ _ _ _ _ us ws h1 h2 => match us, ws, h1, h2 with | [], [_, _], _, _ => rfl)), fun F vs ds zs es r1 r2 _ _ => r1.append (rpl_sel r2 [1, 0])⟩, ar2 _⟩
  have K15 := ok_after_going (Z := Z) (P := P) (w := w) (base := base) F15 T 
  have D_after_going : Df P w Z mg base "after_going" 2 2 (app2 m_after_going) := ⟨⟨_, _, _, K15, (He.glo_ok X G (c.fact 13 (f := .glo "after_going") rfl)), F15.kp, bind_all F15 fun _ _ _ _ _ _ us hl => match us, hl with | [_, _], _ => rfl⟩, ar2 _⟩
  have K16 := ok_gone_standing (Z := Z) (P := P) (w := w) (base := base) F16 T D_need_standing D_is_index D_can_go D_after_going
  have D_gone_standing : Df P w Z mg base "gone_standing" 6 3 (app3 m_gone_standing) := ⟨⟨_, _, _, K16, (He.glo_ok X G (c.fact 14 (f := .glo "gone_standing") rfl)), F16.kp, bind_all F16 fun _ _ _ _ _ _ us hl => match us, hl with | [_, _, _], _ => rfl⟩, ar3 _⟩
  have G_gone_standing_0_lane_standing_lanes : DfG P w Z mg base "gone_standing" 6 0 ["lane", "standing", "lanes"] gD_gone_standing_0_lane_standing_lanes 3 (app3 m_gone_standing) := ⟨⟨_, _, _, _, _, K16, (He.glo_ok X G (c.fact 14 (f := .glo "gone_standing") rfl)), F16.kp, (kb_perm F16 0 ["lane", "standing", "lanes"] [2, 1, 0] (fun _ _ _ _ _ _ us ws h1 h2 => match us, ws, h1, h2 with | [], [_, _, _], _, _ => rfl)), fun F vs ds zs es r1 r2 _ _ => r1.append (rpl_sel r2 [2, 1, 0])⟩, ar3 _⟩
  have K17 := ok_goings_left (Z := Z) (P := P) (w := w) (base := base) F17 T D_need_standing
  have D_goings_left : Df P w Z mg base "goings_left" 6 2 (app2 m_goings_left) := ⟨⟨_, _, _, K17, (He.glo_ok X G (c.fact 15 (f := .glo "goings_left") rfl)), F17.kp, bind_all F17 fun _ _ _ _ _ _ us hl => match us, hl with | [_, _], _ => rfl⟩, ar2 _⟩
  have G_goings_left_0_standing_lanes : DfG P w Z mg base "goings_left" 6 0 ["standing", "lanes"] gD_goings_left_0_standing_lanes 2 (app2 m_goings_left) := ⟨⟨_, _, _, _, _, K17, (He.glo_ok X G (c.fact 15 (f := .glo "goings_left") rfl)), F17.kp, (kb_perm F17 0 ["standing", "lanes"] [1, 0] (fun _ _ _ _ _ _ us ws h1 h2 => match us, ws, h1, h2 with | [], [_, _], _, _ => rfl)), fun F vs ds zs es r1 r2 _ _ => r1.append (rpl_sel r2 [1, 0])⟩, ar2 _⟩
  have K18 := ok_full_wish (Z := Z) (P := P) (w := w) (base := base) F18 T D_is_full
  have D_full_wish : Df P w Z mg base "full_wish" 3 3 (app3 m_full_wish) := ⟨⟨_, _, _, K18, (He.glo_ok X G (c.fact 16 (f := .glo "full_wish") rfl)), F18.kp, bind_all F18 fun _ _ _ _ _ _ us hl => match us, hl with | [_, _, _], _ => rfl⟩, ar3 _⟩
  have K19 := ok_knot_from (Z := Z) (P := P) (w := w) (base := base) F19 T D_full_wish
  have D_knot_from : Df P w Z mg base "knot_from" 4 3 (app3 m_knot_from) := ⟨⟨_, _, _, K19, (He.glo_ok X G (c.fact 17 (f := .glo "knot_from") rfl)), F19.kp, bind_all F19 fun _ _ _ _ _ _ us hl => match us, hl with | [_, _, _], _ => rfl⟩, ar3 _⟩
  have K20 := ok_knot_of (Z := Z) (P := P) (w := w) (base := base) F20 T D_knot_from
  have D_knot_of : Df P w Z mg base "knot_of" 5 2 (app2 m_knot_of) := ⟨⟨_, _, _, K20, (He.glo_ok X G (c.fact 18 (f := .glo "knot_of") rfl)), F20.kp, bind_all F20 fun _ _ _ _ _ _ us hl => match us, hl with | [_, _], _ => rfl⟩, ar2 _⟩
  have K21 := ok_find_knot (Z := Z) (P := P) (w := w) (base := base) F21 T D_need_standing D_knot_of
  have D_find_knot : Df P w Z mg base "find_knot" 6 2 (app2 m_find_knot) := ⟨⟨_, _, _, K21, (He.glo_ok X G (c.fact 19 (f := .glo "find_knot") rfl)), F21.kp, bind_all F21 fun _ _ _ _ _ _ us hl => match us, hl with | [_, _], _ => rfl⟩, ar2 _⟩
  have K22 := ok_law_source (Z := Z) (P := P) (w := w) (base := base) F22 T 
  have D_law_source : Df P w Z mg base "_law_source" 2 1 (app1 m_law_source) := ⟨⟨_, _, _, K22, (He.glo_ok X G (c.fact 20 (f := .glo "_law_source") rfl)), F22.kp, bind_all F22 fun _ _ _ _ _ _ us hl => match us, hl with | [_], _ => rfl⟩, ar1 _⟩
  have K23 := ok_law_any (Z := Z) (P := P) (w := w) (base := base) F23 T.dl T.b_int 
  have D_law_any : Df P w Z mg base "_law_any" 1 2 (app2 m_law_any) := ⟨⟨_, _, _, K23, (He.glo_ok X G (c.fact 21 (f := .glo "_law_any") rfl)), F23.kp, bind_all F23 fun _ _ _ _ _ _ us hl => match us, hl with | [_, _], _ => rfl⟩, ar2 _⟩
  have K24 := ok_law_of (Z := Z) (P := P) (w := w) (base := base) F24 T D_law_any
  have D_law_of : Df P w Z mg base "_law_of" 2 2 (app2 m_law_of) := ⟨⟨_, _, _, K24, (He.glo_ok X G (c.fact 22 (f := .glo "_law_of") rfl)), F24.kp, bind_all F24 fun _ _ _ _ _ _ us hl => match us, hl with | [_, _], _ => rfl⟩, ar2 _⟩
  have K25 := ok_law_goings (Z := Z) (P := P) (w := w) (base := base) F25 T D_law_any
  have D_law_goings : Df P w Z mg base "_law_goings" 2 2 (app2 m_law_goings) := ⟨⟨_, _, _, K25, (He.glo_ok X G (c.fact 23 (f := .glo "_law_goings") rfl)), F25.kp, bind_all F25 fun _ _ _ _ _ _ us hl => match us, hl with | [_, _], _ => rfl⟩, ar2 _⟩
  have K26 := ok_law_way (Z := Z) (P := P) (w := w) (base := base) F26 T D_law_any D_law_of
  have D_law_way : Df P w Z mg base "_law_way" 3 4 (app4 m_law_way) := ⟨⟨_, _, _, K26, (He.glo_ok X G (c.fact 24 (f := .glo "_law_way") rfl)), F26.kp, bind_all F26 fun _ _ _ _ _ _ us hl => match us, hl with | [_, _, _, _], _ => rfl⟩, ar4 _⟩
  have K27 := ok_law_standing (Z := Z) (P := P) (w := w) (base := base) F27 T D_law_any D_law_way
  have D_law_standing : Df P w Z mg base "_law_standing" 4 4 (app4 m_law_standing) := ⟨⟨_, _, _, K27, (He.glo_ok X G (c.fact 25 (f := .glo "_law_standing") rfl)), F27.kp, bind_all F27 fun _ _ _ _ _ _ us hl => match us, hl with | [_, _, _, _], _ => rfl⟩, ar4 _⟩
  have K28 := ok_law_gone (Z := Z) (P := P) (w := w) (base := base) F28 T 
  have D_law_gone : Df P w Z mg base "_law_gone" 2 3 (app3 m_law_gone) := ⟨⟨_, _, _, K28, (He.glo_ok X G (c.fact 26 (f := .glo "_law_gone") rfl)), F28.kp, bind_all F28 fun _ _ _ _ _ _ us hl => match us, hl with | [_, _, _], _ => rfl⟩, ar3 _⟩
  have K29 := ok_law_firsts (Z := Z) (P := P) (w := w) (base := base) F29 T 
  have D_law_firsts : Df P w Z mg base "_law_firsts" 2 2 (app2 m_law_firsts) := ⟨⟨_, _, _, K29, (He.glo_ok X G (c.fact 27 (f := .glo "_law_firsts") rfl)), F29.kp, bind_all F29 fun _ _ _ _ _ _ us hl => match us, hl with | [_, _], _ => rfl⟩, ar2 _⟩
  have K30 := ok_law_knot (Z := Z) (P := P) (w := w) (base := base) F30 T 
  have D_law_knot : Df P w Z mg base "_law_knot" 2 2 (app2 m_law_knot) := ⟨⟨_, _, _, K30, (He.glo_ok X G (c.fact 28 (f := .glo "_law_knot") rfl)), F30.kp, bind_all F30 fun _ _ _ _ _ _ us hl => match us, hl with | [_, _], _ => rfl⟩, ar2 _⟩
  have L_law_error := ok_law_error (Z := Z) (P := P) (w := w) (base := base) F31 T (He.glo_ok X G (c.fact 29 (f := .glo "_law_error") rfl))
  have K32 := ok_law_left (Z := Z) (P := P) (w := w) (base := base) F32 T 
  have D_law_left : Df P w Z mg base "_law_left" 2 1 (app1 m_law_left) := ⟨⟨_, _, _, K32, (He.glo_ok X G (c.fact 30 (f := .glo "_law_left") rfl)), F32.kp, bind_all F32 fun _ _ _ _ _ _ us hl => match us, hl with | [_], _ => rfl⟩, ar1 _⟩
  have K33 := ok_law_refusals_right (Z := Z) (P := P) (w := w) (base := base) F33 (code_of (p := ("_law_refusals_right", none)) rfl F33) (TBs (("_law_refusals_right", none), "_law_refusals_right.<locals>.<lambda>") (by unfold tfL; simp)) (List.mem_map.mpr ⟨(("_law_refusals_right", none), "_law_refusals_right.<locals>.<lambda>"), (by unfold tfL; simp), rfl⟩) T D_law_any D_law_of D_gone_standing D_possible_goings D_goings_left D_need_standing M_LaneMap_2 L_law_error
  have D_law_refusals_right : Df P w Z mg base "_law_refusals_right" 10 5 (app5 m_law_refusals_right) := ⟨⟨_, _, _, K33, (He.glo_ok X G (c.fact 31 (f := .glo "_law_refusals_right") rfl)), F33.kp, bind_all F33 fun _ _ _ _ _ _ us hl => match us, hl with | [_, _, _, _, _], _ => rfl⟩, ar5 _⟩
  have K34 := ok_law (Z := Z) (P := P) (w := w) (base := base) F34 (code_of (p := ("law", none)) rfl F34) (TBs (("law", none), "law.<locals>.<lambda>") (by unfold tfL; simp)) (List.mem_map.mpr ⟨(("law", none), "law.<locals>.<lambda>"), (by unfold tfL; simp), rfl⟩) T D_law_source D_gone_standing D_goings_left D_law_any D_law_of D_law_goings D_law_standing D_law_left D_law_firsts D_law_knot D_find_knot D_law_gone D_law_refusals_right G_need_standing_0_value_lanes G_goings_left_0_standing_lanes G_possible_goings_0_standing_lanes G_gone_standing_0_lane_standing_lanes M_LaneMap_2 M_LaneMap_0_goings_rooms Q_LaneMap L_law_error
  exact FnG.imp K34 (law_start (Z := Z) (tlB_ok xt) law_math)
end M
open PySem PySem.W PySem.Calls PyProof.Rows
set_option maxHeartbeats 0 in
theorem PySem.Challenge.cw_nobodymeets_k57_whole_lanes_and_goings_o_holds : PySem.Challenge.rw_nobodymeets_k57_whole_lanes_and_goings_o.Holds := by
  w_on; o_law
  refine HandSHeadRun.head_any (r := OpenLaw.row PySem.Challenge.rw_nobodymeets_k57_whole_lanes_and_goings_o) (q := view (OpenLaw.row PySem.Challenge.rw_nobodymeets_k57_whole_lanes_and_goings_o).prog [46]) (H := M.hk) (ob := M.ob) (M := 12000) (loose := M.looseL) (d := HandSHeadRun.topDef (OpenLaw.row PySem.Challenge.rw_nobodymeets_k57_whole_lanes_and_goings_o).prog 46) (kwd := []) M.ob_eq
    (by kernel_rfl) (fun s => by kernel_rfl) M.run (by kernel_rfl) (by kernel_rfl) (by kernel_rfl) (by rfl) (by first | assumption | decide +kernel) (by decide +kernel) ⟨rfl, rfl, rfl, rfl, rfl, by decide +kernel⟩ ?hw ?hc
  case hw => w_witness2
  case hc =>
    refine M.walkG (l := PySem.Challenge.rw_nobodymeets_k57_whole_lanes_and_goings_o) (fas := M.faL) (fn := M.fnL) (k := 11) (x := "_law_script") rfl (by kernel_rfl) ⟨rfl, by decide, by decide⟩ ?F
    intro w mg fa h Y G hmg0
    obtain ⟨K, KX, c⟩ := Y
    have hmg : mg ("law" : PySem.Str) = some (.ref fa) := by
      have e : (HandSHeadRun.topDef (OpenLaw.row PySem.Challenge.rw_nobodymeets_k57_whole_lanes_and_goings_o).prog 46).name = ("law" : PySem.Str) := by kernel_rfl
      rw [← e]
      exact hmg0
    obtain ⟨fd, hb, hF⟩ := M.facts (P := (PySem.Challenge.rw_nobodymeets_k57_whole_lanes_and_goings_o).prog) (w := w) KX G hmg c
    exact ⟨K, M.tfL, M.exL, fd, KX, c, hb, hF⟩

