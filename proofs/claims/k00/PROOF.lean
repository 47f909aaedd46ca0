import PyProof.Rows.All
import Wide.All
import OpenK.AllK
import Wide.FinOn
import HandS.ForMost
import HandS.ForExc
import HandS.TryMany
import HandS.TryElse
import HandS.ExcOwn
import HandS.IsInst
import HandS.Defaults
import HandS.Conv
import HandS.Codes
import HandS.Deep
import HandS.Flow
import HandS.DictTup
import HandS.Wide
import KE.GoesMore
import HandS.TupAny
import HandS.Style
import HandS.SortInts
import HandS.Head0
import HandS.Head1
import HandS.Head2
import HandS.HeadEnd
import HandS.HeadHook1
import HandS.HeadHook2
import PySem.Challenge.RW_nobodymeets_k00_whole_errors_and_what_th
set_option Elab.async false
set_option linter.all false
set_option maxRecDepth 100000
set_option maxHeartbeats 2000000
/-! Own exception classes over a base that is itself a bare class over Exception; __init__ stores its one argument. -/
namespace PySem
namespace TErr
open PySem.W PySem.Calls PyProof.Rows PySem.HandSPX
open Builtin Builtin.ObjectAttr
/-- the built-in end of the chain of bases -/
abbrev endE : List Value := [.type "Exception", .type "BaseException", .type "object"]
def ownE : List Value → Bool
  | .ref _ :: r => ownE r
  | l => l == endE
theorem ownE_cases : ∀ l : List Value, ownE l = true → (∃ c r, l = .ref c :: r ∧ ownE r = true) ∨ l = endE := by
  intro l e
  cases l with
  | nil => exact .inr (beq_iff_eq.mp e)
  | cons a r =>
    cases a <;> first | exact .inl ⟨_, _, rfl, e⟩ | exact .inr (beq_iff_eq.mp e)
theorem ownE_pass (self : Value) : ∀ l : List Value, ownE l = true → refuseLoop self "__setattr__" l = pure () := by
  intro l
  induction l with
  | nil => intro e; exact absurd e (by decide)
  | cons a r ih =>
    intro e
    rcases ownE_cases (a :: r) e with ⟨c, r', q, h⟩ | q
    · injection q with q1 q2
      subst q1 q2
      rw [refuseLoop_ref]; exact ih h
    · rw [q]; exact F.store_Exception.passes self
theorem ownE_has (X : String) : ∀ l : List Value, ownE l = true → l.contains (.type X) = endE.contains (.type X) := by
  intro l
  induction l with
  | nil => intro e; exact absurd e (by decide)
  | cons a r ih =>
    intro e
    rcases ownE_cases (a :: r) e with ⟨c, r', q, h⟩ | q
    · injection q with q1 q2
      subst q1 q2
      rw [List.contains_cons, ih h]; rfl
    · rw [q]
theorem ownE_ne {l : List Value} (e : ownE l = true) : l.isEmpty = false := by
  cases l with
  | nil => exact absurd e (by decide)
  | cons _ _ => rfl

section
variable {prog : Program} {w : World} {A : Around} {E : Value → Shared → Prop} {R : Result → Shared → Prop} {hp : Heap} {g : Array GenState} {d : Drawn} {t : Nat} {os : OsState}
/-- the first store of an attribute on such an exception -/
theorem storeE {K : W.Frag} {name : Str} {tk : Tok} {v : Value} {x C : Addr} {fv : Array Value} {cd : ClassData}
    (X : K.In hp) (hx : hp.get? x = some { cls := .ref C, data := .fields fv }) (hcd : W.clsIn K C = some cd) (hm : ownE cd.mro = true) (hh : cd.hasDict = true) (ha : W.findIn K (.ref C) name = some none)
    (hq : ∀ h' tk' dx, (∀ b o, b ≠ x → hp.get? b = some o → h'.get? b = some o) → hp.objs.size ≤ dx → dx ≠ x → h'.get? x = some { cls := .ref C, dict := some dx, data := .fields fv } →
      h'.Ns1 dx (fun y => if y = name then some v else none) → R (.ok (.ret .none)) ⟨h', g, d, tk', os⟩) :
    codeAny (model prog w) A (.call (.builtin "object.__setattr__") ⟨[.ref x, .str name tk, v], []⟩) R ⟨hp, g, d, t, os⟩ := by
  have I : W.InstAt hp x { cls := .ref C, data := .fields fv } C none := ⟨hx, rfl, rfl, trivial⟩
  have SF := F.store_object
  have ne := ownE_ne hm
  have hob : cd.mro.contains (.type "object") = true := (ownE_has "object" _ hm).trans (by decide +kernel)
  have hxs : x ≠ hp.objs.size := Nat.ne_of_lt (Heap.lt_size hx)
  have sub : W.Looks (model prog w) hp (isInstance (.ref x) (.type "object")) true := I.type.andThen (W.looks_mroIn X (by unfold W.mroIn; rw [hcd, Option.bind_some, if_neg (by rw [ne]; decide), hob]))
  refine codeAny_call_builtin SF.slot.plain SF.entry (@W.check_slot (model prog w) _ _ ⟨hp, g, d, t, os⟩ "object.__setattr__" "object" "__setattr__" (.ref x) [.str name tk, v] [] _ SF.kind SF.split sub (SF.args (.ref x) (.str name tk) v) ?_)
  have hmr : W.Looks (model prog w) hp (mroOf (.ref C)) cd.mro := (W.looks_clsIn X hcd).andThen .now
  have L3 : W.Looks (model prog w) hp (storeTaker? none) none := .now
  have hcls : W.Looks (model prog w) hp (classData C) cd := W.looks_clsIn X hcd
  rw [W.osa_eq, refuse_eq]
  refine wpAny_bind (wpAny_bind (I.type.at (wpAny_bind (hmr.at ?_))))
  rw [ownE_pass _ _ hm]
  refine wpAny_pure (wpAny_bind (I.type.at (wpAny_bind ((W.looks_findIn X ha).at (wpAny_bind (L3.at ?_))))))
  show wpAny _ _ (storeInOwnDict (.ref x) (.ref C) (.str name tk) name v false) _ _ _
  obtain ⟨nm, bs, mro, ns, qn, hd, sn, sb, ab, col, del⟩ := cd
  dsimp only at hh
  subst hh
  unfold storeInOwnDict ownDictForStores
  repeat (first | with_reducible refine HandSPX.store_in_new ?_ ?_ | with_reducible refine wpAny_loadPart_at hx ?_ | with_reducible refine hcls.at ?_ | wp_step)
  · exact ⟨_, #[], _, (Heap.get?_update_ne _ _ _ _ hxs.symm).trans (Heap.get?_push_at rfl rfl), rfl, fun e he => absurd he (by simp), fun _ => rfl⟩
  · intro h' tk' hn' hs
    have hx₁ : (hp.push { cls := .type "dict", data := .dict #[] }).get? x = some { cls := .ref C, data := .fields fv } := Heap.get?_push_of_some _ hx
    refine hq h' tk' hp.objs.size (fun b o hb ho => ?_) (Nat.le_refl _) hxs.symm ?_ hn'
    · exact (hs.2 b (Nat.ne_of_lt (Heap.lt_size ho))).trans ((Heap.get?_update_ne _ _ _ _ hb).trans (Heap.get?_push_of_some _ ho))
    · exact (hs.2 x hxs).trans (Heap.get?_update_self _ hx₁ rfl)
end

/-! ### the text of __init__ (self.f = f), f one of three names -/
def iA (f : String) (p1 p2 : Pos) : Arguments := { posonlyargs := [], args := [{ arg := "self", annotation := none, pos := p1 }, { arg := PySem.Str.ofString f, annotation := none, pos := p2 }], vararg := none, kwonlyargs := [], kw_defaults := [], kwarg := none, defaults := [] }
def iB (f : String) (q1 q2 q3 q4 : Pos) : List Stmt := [.Assign [.Attribute (.Name "self" q1) (PySem.Str.ofString f) q2] (.Name (PySem.Str.ofString f) q3) q4]
def iS (f : String) : Scope := { kind := .function, names := [(PySem.Str.ofString "self", .local), (PySem.Str.ofString f, .local)], isGenerator := false, isCoroutine := false, more := [] }
def Fld (f : String) : Prop := f = "at" ∨ f = "word" ∨ f = "robot"
/-- what the written part says of such a class, at C, its __init__ at fI -/
structure ETxt (K : Frag) (mg : Str → Option Value) (nm f : String) (C fI : Addr) : Prop where
  fld : Fld f
  gC : mg (PySem.Str.ofString nm) = some (.ref C)
  cls : ∃ nm q N bs bm sn sub ab col dd k0 k1 k2 k3 k5, K.lookup C = some (excClassObj nm q C N bs bm true sn sub ab col dd k0 k1 k2 k3 k5 "Exception.__new__") ∧ ownE bm = true
  sa : findIn K (.ref C) "__setattr__" = some (some (.builtin "object.__setattr__"))
  ga : findIn K (.ref C) "__getattribute__" = some (some (.builtin "BaseException.__getattribute__"))
  gg : findIn K (.ref C) "__getattr__" = some none
  noN : findIn K (.ref C) (PySem.Str.ofString f) = some none
  iC : findIn K (.ref C) "__init__" = some (some (.ref fI))
  tC : typeIn K (.ref fI) = some (.type "function")
  kC : keepIn K (.ref C) = true
  exC : subIn K (.ref C) (.type "BaseException") = some true
  tyC : typeIn K (.ref C) = some (.type "type")
  hdC : hasDictIn K C = true
  fn : ∃ (qn : Str) (oc : Value) (od : Option Addr) (kV doc pm : Value) (an : Option Addr) (cdv ct : Value) (osl : Array (Option Value)) (p1 p2 q1 q2 q3 q4 : Pos),
    K.lookup fI = some ⟨oc, od, .func (fnOf "__init__" qn (iA f p1 p2) (iB f q1 q2 q3 q4) (iS f) .none kV doc pm an cdv ct), osl⟩ ∧ codeIn K cdv qn = true
theorem one_le (v : Value) : [v].length ≤ sizeLine := by
  rw [sizeLine_eq]
  exact (by decide : 1 ≤ 16777216)
theorem ldE {M : Model} {s : Shared} {name : Str} {scope : Scope} {L a : Addr} {cd : Value} {m : Str → Option Value} {x : Str} {pos : Pos} {v : Value} {Q : Value → Shared → Prop} {A : Around} {E : Value → Shared → Prop} (hn : s.heap.Ns L m) (hv : m x = some v) (h : Q v s)
    (hk : scope.kind = .function := by rfl) (hl : (envOfC name scope L a cd).kindOf x = some .local := by rfl) (hd : (x == ("__debug__" : Str)) = false := by decide) :
    wpAny M A (eval (.Name x pos) (envOfC name scope L a cd)) Q E s := wpAny_Name (wpAny_loadName_local hk hl hn hv h) hd
/-- behind __init__ of a fresh exception at x -/
structure InitE (f : String) (h h' : Heap) (x C dx t1 : Addr) (v : Value) : Prop where
  keep : ∀ b o, b ≠ x → h.get? b = some o → h'.get? b = some o
  obj : h'.get? x = some { cls := .ref C, dict := some dx, data := .fields #[.ref t1, .none, .none, .none, .bool false, .none] }
  dbig : h.objs.size ≤ dx
  dne : dx ≠ x
  ns : h'.Ns1 dx (fun y => if y = PySem.Str.ofString f then some v else none)
/-- a made one -/
structure MadeE (f : String) (h h' : Heap) (e C d : Addr) (v : Value) : Prop where
  keep : ∀ b o, h.get? b = some o → h'.get? b = some o
  new : h.objs.size ≤ e
  obj : ∃ oe vs, h'.get? e = some oe ∧ oe.cls = .ref C ∧ oe.dict = some d ∧ oe.data = .fields vs ∧ vs[1]? = some .none
  dbig : h.objs.size ≤ d
  dne : d ≠ e
  ns : h'.Ns1 d (fun y => if y = PySem.Str.ofString f then some v else none)
section
variable {prog : Program} {w : World} {A : Around} {E : Value → Shared → Prop} {R : Result → Shared → Prop} {s : Shared} {K : Frag} {mg : Str → Option Value} {C fI : Addr} {nm f : String}
theorem initE (T : ETxt K mg nm f C fI) {x t0 : Addr} {v : Value} (X : K.In s.heap) (hlim : s.heap.NoLimit) (hx : s.heap.get? x = some (excO C t0)) (hnx : K.lookup x = none) (hroom : A.depth < recursionLimit)
    (hq : ∀ h' tk dx, InitE f s.heap h' x C dx t0 v → R (.ok (.ret .none)) { s with heap := h', toks := tk }) :
    codeAny (model prog w) A (.call (.ref fI) ⟨[.ref x, v], []⟩) R s := by
  obtain ⟨qn, oc, od, kV, doc, pm, an, cdv, ct, osl, p1, p2, q1, q2, q3, q4, ho, hcd⟩ := T.fn
  obtain ⟨nm', q, N, bs, bm, sn, sub, ab, col, dd, k0, k1, k2, k3, k5, hC, hbm⟩ := T.cls
  have hcl : clsIn K C = some { name := nm', bases := bs, mro := .ref C :: bm, ns := N, qualname := q, hasDict := true, slotNames := sn, subclasses := sub, abstract := ab, collection := col, hasDel := false } := by unfold clsIn; rw [hC] <;> rfl
  have sa := T.sa
  have noN := T.noN
  rcases T.fld with rfl | rfl | rfl
  all_goals
    refine Att.call_fn (binds := [("self", .ref x), (_, v)]) X hlim ho hcd hroom (BindsTo.of_eq (by first | rfl | with_unfolding_all rfl)) (by first | rfl | decide | with_unfolding_all rfl) (fun s₁ IC => ?_) rfl rfl rfl
    obtain ⟨h₁, tk₁, rfl⟩ := IC.toInCall.same
    have k : ∀ b o, s.heap.get? b = some o → h₁.get? b = some o := IC.toInCall.keep
    have hn := IC.toInCall.ns
    have X₁ : K.In h₁ := X.keeps k
    have hx₁ := k _ _ hx
    show wpAny _ _ (execs _ _) _ _ _
    refine wpAny_execs_cons (plainObj_wpAny_Assign_Attribute ?_)
    refine ldE (v := v) hn (by first | rfl | with_unfolding_all rfl | kernel_rfl) (ldE (v := .ref x) hn (by first | rfl | with_unfolding_all rfl | kernel_rfl) ?_)
    refine set_plain X₁ (ox := excO C t0) (od := none) ⟨hx₁, rfl, rfl, trivial⟩ sa ?_
    refine storeE X₁ hx₁ hcl (show ownE (.ref C :: bm) = true from hbm) rfl noN (fun h₃ tk₃ dx k₃ dn dne hx₃ hn₃ => ?_)
    show wpAny _ _ (execs _ _) _ _ _
    have z : s.heap.objs.size < h₁.objs.size := hn.lt
    exact wpAny_execs_nil (hq h₃ tk₃ dx ⟨fun b o hb e => k₃ b o hb (k b o e), hx₃, Nat.le_of_lt (Nat.lt_of_lt_of_le z dn), dne, hn₃⟩)
theorem madeE (T : ETxt K mg nm f C fI) {v : Value} (X : K.In s.heap) (hlim : s.heap.NoLimit) (hroom : A.depth + 1 < recursionLimit)
    (hq : ∀ h' tk e d, MadeE f s.heap h' e C d v → R (.ok (.ret (.ref e))) { s with heap := h', toks := tk }) :
    codeAny (model prog w) A (.call (.ref C) ⟨[v], []⟩) R s := by
  obtain ⟨nm', q, N, bs, bm, sn, sub, ab, col, dd, k0, k1, k2, k3, k5, hC, hbm⟩ := T.cls
  obtain ⟨hp, g, dr, tk, os⟩ := s
  have k : ∀ b o, hp.get? b = some o → ((hp.push (kdv_tup [v])).push (excO C hp.objs.size)).get? b = some o := fun b o e => Heap.get?_push_of_some _ (Heap.get?_push_of_some _ e)
  have hget : ((hp.push (kdv_tup [v])).push (excO C hp.objs.size)).get? (hp.objs.size + 1) = some (excO C hp.objs.size) := by heap_get
  have hnx : K.lookup (hp.objs.size + 1) = none := by
    cases e : K.lookup (hp.objs.size + 1) with
    | none => rfl
    | some o =>
      have z : hp.get? (hp.objs.size + 1) = some o := X _ _ e
      exact absurd (Nat.lt_of_succ_lt (Heap.lt_size z)) (Nat.lt_irrefl _)
  refine call_own F.excBase_Exception (fun Y => (ownE_has Y bm hbm)) (X _ _ hC) (looks_findIn X T.iC) (fun self => bind_fn X self T.tC) (one_le v) ?_
  refine initE (s := ⟨(hp.push (kdv_tup [v])).push (excO C hp.objs.size), g, dr, tk, os⟩) T (X.keeps k) (hlim.keeps k) hget hnx ?_ fun h' tk' dx ⟨k', hx, dn, dne, hns⟩ => ?_
  · show A.depth + 1 < recursionLimit
    exact hroom
  · have old : ∀ b o, hp.get? b = some o → h'.get? b = some o := fun b o e => k' b o (Nat.ne_of_lt (Nat.lt_succ_of_lt (Heap.lt_size e))) (k b o e)
    have z : hp.objs.size + 1 + 1 ≤ dx := by
      first
        | (simpa only [Heap.size_push] using dn)
        | exact dn
        | (have q := dn; rw [Heap.size_push, Heap.size_push] at q; exact q)
    exact ⟨rfl, hq h' tk' (hp.objs.size + 1) dx ⟨old, Nat.le_succ _, ⟨_, _, hx, rfl, rfl, rfl, rfl⟩, Nat.le_trans (Nat.le_trans (Nat.le_succ _) (Nat.le_succ _)) z, dne, hns⟩⟩
end
end TErr
end PySem

set_option Elab.async false
set_option linter.all false
set_option maxRecDepth 100000
set_option maxHeartbeats 2000000
namespace L2
open PySem PySem.Spec PyProof.Rows
open PySem.TErr (ETxt Fld madeE MadeE)
theorem relO_one {v : V} {v' : Value} (f : Str) (r : RelV v v') (y : Str) : RelO (List.lookup y [(f, v)]) (if y = f then some v' else none) := by
  by_cases hw : y = f
  · subst hw
    rw [if_pos rfl]
    have q : List.lookup y [(y, v)] = some v := by simp [List.lookup]
    rw [q]
    exact r
  · rw [if_neg hw]
    have qw : (y == f) = false := by simpa using hw
    have q2 : List.lookup y [(f, v)] = none := by simp [List.lookup, qw]
    rw [q2]
    trivial
section
variable {X : Cx} {C fI : Addr} {nm f : String}
/-- C(e) -/
def tMkE (f : String) (C : Addr) (ta : TA) : St → Hp → XK → Prop := fun σ H Q => ta σ H fun vs H1 => ∃ v, vs = [v] ∧ ∀ d, H1 d = none → Q (.ref C) (some d) (upd H1 d (.xd [(PySem.Str.ofString f, v)]))
theorem pmk_E {a : Expr} {ta : TA} {p pos : Pos} {k : Nat} {x : Str} (T : ETxt X.K X.mg nm f C fI) (hr : Room k X.A) (ha : PA X [a] ta) (hx : x = PySem.Str.ofString nm := by rfl) (hg : Gl X x := by rfl)
    (hdb : (x == ("__debug__" : Str)) = false := by decide)
    (he : starEach (a :: []) X.env = (false, eval a X.env) :: starEach [] X.env := by rfl) (hpl : (backTo pos (starEach [] X.env)).any (·.1) = false := by rfl) :
    PMk X (.Call (.Name x p) [a] [] pos) (tMkE f C ta) := by
  intro pins s σ H Q I h
  subst hx
  refine wpAny_Call_Name_kw (ld_glob I hg T.gC ?_ hdb)
  refine PySem.W.callWith_K (h₀ := X.base) I.ok.mod.kin T.kC (thn (ha.run pos pins s σ H _ I h) fun us s1 hh => ?_) he hpl
  obtain ⟨vs, H1, I1, r1, v, ev, q1⟩ := hh
  subst ev
  refine ⟨I1.kIn, ?_⟩
  cases r1 with
  | cons rv rn =>
    rename_i v' us'
    cases rn
    show wpAny _ _ (call (.ref C) [v']) _ _ _
    have hlim := I1.nolimit
    obtain ⟨hp, g, dr, tk, os⟩ := s1
    refine wpAny_call (madeE T I1.kIn hlim (by have := hr.dp; omega) fun h' tk' e d M => ?_)
    show MkP X pins σ Q (.ref e) ⟨h', g, dr, tk', os⟩
    obtain ⟨oe, fv, hoe, hc, hd, hdat, h1⟩ := M.obj
    have hns := M.ns
    obtain ⟨G', g1, g2⟩ := restrict h' fun b => decide (b ≠ e)
    have gk : ∀ b, b ≠ e → G'.get? b = h'.get? b := fun b hb => g1 b (decide_eq_true hb)
    have ge : G'.get? e = none := g2 e (by simp)
    have old : ∀ b o, hp.get? b = some o → G'.get? b = some o := fun b o q => (gk b (Nat.ne_of_lt (Nat.lt_of_lt_of_le (Heap.lt_size q) M.new))).trans (M.keep b o q)
    have ob : ObjOk X.prog X.w (upd H1 d (.xd [(PySem.Str.ofString f, v)])) G' d (.xd [(PySem.Str.ofString f, v)]) :=
      ⟨_, hns.at (fun o q => (gk d M.dne).trans q), fun y => relO_one _ rv y⟩
    have J : Inv X pins σ (upd H1 d (.xd [(PySem.Str.ofString f, v)])) ⟨G', g, dr, tk', os⟩ := I1.laid (t' := tk') old M.dbig ob
    refine ⟨e, oe, fv, ⟨G', g, dr, tk', os⟩, _, .ref C, some d, rfl, J, fun b o q => ?_, ge, hoe, ⟨hc, hd⟩, hdat, h1, ?_, rfl, I1.bare, raises_own T.exC T.tyC, q1 d (I1.hok.fresh M.dbig)⟩
    · by_cases hb : b = e
      · have q' : G'.get? b = some o := q
        rw [hb, ge] at q'; cases q'
      · exact (gk b hb).symm.trans q
    · rw [upd_ne (Ne.symm M.dne)]
      exact I1.hok.fresh M.new
/-- raise C(e) -/
def tRaiseE (f : String) (C : Addr) (W : WX) (ta : TA) : TS := fun _ σ H => tMkE f C ta σ H fun cls d H' => W cls d σ H'
theorem ps_raiseE {a : Expr} {ta : TA} {W : WX} {p pos pos2 : Pos} {k : Nat} {x : Str} (hc : X.calm = true) (T : ETxt X.K X.mg nm f C fI) (hr : Room k X.A) (tk : Takes X W) (ha : PA X [a] ta) (hx : x = PySem.Str.ofString nm := by rfl) (hg : Gl X x := by rfl)
    (hdb : (x == ("__debug__" : Str)) = false := by decide)
    (he : starEach (a :: []) X.env = (false, eval a X.env) :: starEach [] X.env := by rfl) (hpl : (backTo pos (starEach [] X.env)).any (·.1) = false := by rfl) :
    PS X (.Raise (some (.Call (.Name x p) [a] [] pos)) none pos2) (tRaiseE f C W ta) := ps_raise hc tk (pmk_E T hr ha hx hg hdb he hpl)
/-- e.f, e the exception that the suite holds (at a; its class cls, its dict d) -/
def tGetE (f : String) (a : Addr) (cls : Value) (d : Option Addr) (te : TE) : TE := fun σ H Q => te σ H fun x H1 => x = .ref a ∧ ∃ (C dd : Addr) (v : V), cls = .ref C ∧ d = some dd ∧ H1 dd = some (.xd [(PySem.Str.ofString f, v)]) ∧ Q v H1
theorem pe_getE {a : Addr} {oe : Obj} {cls : Value} {d : Option Addr} {pn : List (Addr × Obj)} {e : Expr} {te : TE} {pos : Pos} {x : Str}
    (hT : ∀ C, cls = .ref C → ∃ nm fI, ETxt X.K X.mg nm f C fI) (hz : Zc cls d oe) (hf : ∃ vs, oe.data = .fields vs) (he : PE (X.suite a ((a, oe) :: pn)) e te) (hx : x = PySem.Str.ofString f := by rfl)
    (hb : attributeBase e x X.env (eval e X.env) = eval e X.env := by rfl) :
    PE (X.suite a ((a, oe) :: pn)) (.Attribute e x pos) (tGetE f a cls d te) := by
  refine ⟨fun pins s σ H Q I h => ?_⟩
  subst hx
  refine attr_of hb (thn (he.run pins s σ H _ I h) fun u s1 hh => ?_)
  obtain ⟨y, H1, I1, rx, ex, C, dd, v, ec, ed, ea, q⟩ := hh
  subst ex
  obtain rfl : u = Value.ref a := rx
  subst ec
  subst ed
  obtain ⟨nm, fI, T⟩ := hT C rfl
  obtain ⟨ha, _⟩ := I1.pin (a, oe) (List.mem_append_left _ List.mem_cons_self)
  obtain ⟨vs, hd⟩ := hf
  have hx : ObjOk X.prog X.w H1 s1.heap dd (.xd [(PySem.Str.ofString f, v)]) := I1.hok dd _ ea
  obtain ⟨mA, hns, hr⟩ := hx
  obtain ⟨od, ho, hl⟩ := lookIn_ns hns
  have l : List.lookup (PySem.Str.ofString f) [(PySem.Str.ofString f, v)] = some v := by simp [List.lookup]
  obtain ⟨u, hu, ru⟩ := RelO.some_of (v := v) (o := mA (PySem.Str.ofString f)) (by rw [← l]; exact hr _)
  have J : PySem.W.InstAt s1.heap a oe C (some od) := ⟨ha, hz.1, by unfold PySem.W.notCls; rw [hd] <;> rfl, by rw [hz.2]; exact ho⟩
  exact HandSPX.exc_get I1.kIn J T.ga T.gg T.exC (PySem.W.findObj_own T.hdC T.noN rfl (by rw [hl, hu])) (handed_of ru) ⟨v, H1, I1.tok _, ru, q⟩
end

/-! ### several clauses, with names or without -/
/-- a clause: the class, the slot of its name (none: no name), the suite -/
structure Cl where
  c : Value
  i : Option Nat
  ts : Addr → Value → Option Addr → TS
def clEnds (i : Option Nat) (D : Ends) : Ends := match i with
  | none => D
  | some i => { nx := fun σ' H' => D.nx (σ'.set i none) H', rt := D.rt, bk := fun σ' H' => D.bk (σ'.set i none) H', ct := fun σ' H' => D.ct (σ'.set i none) H' }
def clSt (i : Option Nat) (a : Addr) (σ : St) : St := match i with
  | none => σ
  | some i => σ.set i (some (.ref a))
def wCl (K : PySem.W.Frag) (Wout : WX) (D : Ends) : List Cl → WX
  | [] => Wout
  | l :: r => fun cls d σ H => ∃ b, PySem.W.exmOne K cls l.c = some b ∧ (b = true → ∀ a, H a = none → l.ts a cls d (clEnds l.i D) (clSt l.i a σ) H) ∧ (b = false → wCl K Wout D r cls d σ H)
def ClName (X : Cx) : Option Str → Option Nat → Prop
  | none, none => True
  | some n, some i => X.N[i]? = some n ∧ X.env.kindOf n = some .local
  | _, _ => False
inductive ClsOk (X : Cx) : List ExceptHandler → List Cl → Prop
  | nil : ClsOk X [] []
  | cons {x : Str} {n : Option Str} {l : Cl} {b₀ : Stmt} {suite : List Stmt} {np pos' : Pos} {hds : List ExceptHandler} {ls : List Cl} (hc : Names X x l.c) (hn : ClName X n l.i)
      (hsu : ∀ (a : Addr) (oe : Obj) (cls : Value) (d : Option Addr) (pn : List (Addr × Obj)), Zc cls d oe → (∃ vs, oe.data = .fields vs) → PSs (X.suite a ((a, oe) :: pn)) (b₀ :: suite) (l.ts a cls d)) (r : ClsOk X hds ls) :
      ClsOk X (.ExceptHandler (some (.Name x np)) n (b₀ :: suite) pos' :: hds) (l :: ls)
section
variable {X : Cx} {body : List Stmt} {h₀ : ExceptHandler} {hds : List ExceptHandler} {l : List Cl} {pos : Pos} {tb : WX → TS} {Wout : WX}
theorem ps_try_cls (hs : X.stack = X.env :: X.outer) (hf : X.env.frame = some X.env.locals) (hN : X.N.Nodup) (tk : Takes X Wout)
    (hb : ∀ (W : WX) (pn : List (Addr × Obj)) (xe : Value → Shared → Prop), Takes (X.tr pn xe) W → PassesOwn (model X.prog X.w) X.A X.env xe → PSs (X.tr pn xe) body (tb W))
    (hh : ClsOk X (h₀ :: hds) l) : PS X (.Try body (h₀ :: hds) [] [] pos) (fun D σ H => tb (wCl X.K Wout D l) D σ H) := by
  refine ⟨fun pins s σ H D I h => ?_⟩
  have ok := I.ok
  have hfr : X.A.frames = some (X.env :: X.outer) := by rw [ok.frames, hs]
  refine wpAny_Try_except ?_
  refine wpAny_mono ((hb (wCl X.K Wout D l) (X.pn ++ pins) (fun e s₁ => wpAny (model X.prog X.w) X.A (noteFrame e X.env) (fun _ s₂ => wpAny (model X.prog X.w) X.A (setFlight e none) (fun _ s₃ =>
    wpAny (model X.prog X.w) X.A (handleBy e X.env (h₀ :: hds)) (SP X pins D) X.xe s₃) X.xe s₂) X.xe s₁) (fun u s' xx => ?_) PassesOwn.looking).run [] s σ H D (I.toTry _) h) (fun f s1 hsp => ?_) (fun e s1 he => he)
  · obtain ⟨a, B, sI, pins', σ', H', cls, d, rfl, J', nb, up, sky, na, os, ag, w⟩ := xx
    have J : Inv X pins σ' H' sI := J'.ofTry ok
    have sky' : Sky B (X.env :: X.outer) a (Zc cls d) X.env.locals s'.heap := by rw [← hs]; exact sky
    show wpAny (model X.prog X.w) X.A (noteFrame (.ref a) X.env) _ _ _
    refine Sky.land Zc.steady hfr hf sky' fun h3 fl3 up3 => ?_
    have J3 : Inv X pins σ' H' { s' with heap := h3 } := J.landed nb fl3.1 (up.trans up3) os ag
    obtain ⟨oe3, vs3, he3, hz3, hd3⟩ := fl3.there
    have notFr : ∀ {h : Heap} {o : Obj} {vs : Array Value}, h.FunFrames B (X.env :: X.outer) → h.get? a = some o → o.data = .fields vs → a ∉ frs (X.env :: X.outer) := fun {h o vs} ff e dd hm => by
      obtain ⟨_, o', e', hnf⟩ := ff.mem hm
      rw [e] at e'; cases e'
      exact hnf _ dd
    have nfr := notFr fl3.2.2.1 he3 hd3
    have nL : a ≠ X.env.locals := fun z => nfr (List.mem_filterMap.mpr ⟨X.env, List.mem_cons_self, by rw [hf, z]⟩)
    have nF : a ∉ X.fs := fun hm => by
      obtain ⟨e, he, q⟩ := List.mem_filterMap.mp hm
      exact nfr (List.mem_filterMap.mpr ⟨e, List.mem_cons_of_mem _ he, q⟩)
    have S3 := J3.suite he3 hd3 na nL nF
    have go : ∀ {hds' : List ExceptHandler} {l' : List Cl}, ClsOk X hds' l' → wCl X.K Wout D l' cls d σ' H' →
        wpAny (model X.prog X.w) X.A (handleBy (.ref a) X.env hds') (SP X pins D) X.xe { s' with heap := h3 } := by
      intro hds' l' hk
      induction hk with
      | nil =>
        intro w
        refine wpAny_handleBy_nil ?_
        obtain ⟨k1, k2, k3, oe, vs, T, oT, ts', he, hz, hd, h1, hr⟩ := id fl3
        unfold PySem.passOn
        refine wpAny_bind (wpAny_field he hd h1 ?_)
        rw [if_neg (show ¬ ((Value.ref T == Value.none) = true) from by simp)]
        have fin : wpAny (model X.prog X.w) X.A (setFlight (.ref a) X.env.frame) (fun _ s4 => wpAny (model X.prog X.w) X.A (throw (.ref a) : Sem Flow) (SP X pins D) X.xe s4) X.xe { s' with heap := h3 } := by
          rw [hf]
          refine HandSPX.setFlight_upZ fl3 fun h4 hh4 up4 => wpAny_throw (tk _ _ ?_)
          exact ⟨a, B, sI, pins, σ', H', cls, d, rfl, J, nb, (up.trans up3).trans up4, .inr (.inr (by rw [hs]; exact hh4)), na, os, ag, w⟩
        first
          | exact wpAny_bind (wpAny_pure (wpAny_bind fin))
          | exact wpAny_bind fin
      | @cons x n lc b₀ suite np pos' hds2 l2 hc hn hsu r ih =>
        intro w
        obtain ⟨b, hb1, hyes, hno⟩ := w
        refine wpAny_handleBy_cons (codeAny_handlers_test ?_) (by intro q; cases q)
        have LT : PySem.W.Looks (model X.prog X.w) h3 (typeOf (.ref a)) cls := fun A Q E s k q => wpAny_typeOf_ref (k _ _ he3) (by rw [hz3.1]; exact q)
        have LM := PySem.W.exm_one (M := model X.prog X.w) (J3.kIn) LT hb1
        have test : ∀ {Q : Value → Shared → Prop} {E : Value → Shared → Prop}, Q lc.c { s' with heap := h3 } → wpAny (model X.prog X.w) (X.A.mark (some (.ref a))) (eval (.Name x np) X.env) Q E { s' with heap := h3 } := fun {Q E} q => by
          obtain ⟨hg, hdbg, hm | ⟨hm, hv, hnn⟩⟩ := hc
          · exact ld_glob (X := X.suite a ((a, oe3) :: (X.pn ++ pins))) S3 hg hm q hdbg
          · exact ld_blt (X := X.suite a ((a, oe3) :: (X.pn ++ pins))) S3 hg hm hv q hnn hdbg
        refine test (LM.here ?_)
        cases b with
        | true =>
          have hy := hyes rfl a na
          obtain ⟨lcc, lci, lts⟩ := lc
          cases n with
          | none =>
            cases lci with
            | some i => exact (show False from hn).elim
            | none =>
              refine codeAny_handlers_suite ?_
              refine HandSPX.lands_againZ fl3 fun h4 fl4 up4 => ?_
              have J4 : Inv X pins σ' H' { s' with heap := h4 } := J.landed nb fl4.1 ((up.trans up3).trans up4) os ag
              obtain ⟨oe4, vs4, he4, hz4, hd4⟩ := fl4.there
              have S4 := J4.suite he4 hd4 na nL nF
              refine wpAny_mono ((hsu a oe4 cls d (X.pn ++ pins) hz4 ⟨_, hd4⟩).run [] _ _ H' _ S4 hy) (fun f s6 hsp => ?_) (fun _ _ z => False.elim z)
              cases f with
              | next =>
                obtain ⟨σ6, H6, S6, q6⟩ := hsp
                exact ⟨_, _, S6.unsuite ok, q6⟩
              | brk =>
                obtain ⟨σ6, H6, S6, q6⟩ := hsp
                exact ⟨_, _, S6.unsuite ok, q6⟩
              | cont =>
                obtain ⟨σ6, H6, S6, q6⟩ := hsp
                exact ⟨_, _, S6.unsuite ok, q6⟩
              | ret u =>
                obtain ⟨v6, σ6, H6, S6, r6, q6⟩ := hsp
                exact ⟨_, _, _, S6.unsuite ok, r6, q6⟩
          | some nn =>
            cases lci with
            | none => exact (show False from hn).elim
            | some i =>
              obtain ⟨hi, hln⟩ := hn
              have hloc : Loc X.env.scope nn := .inl hln
              refine codeAny_handlers_suite_as ?_
              refine HandSPX.lands_againZ fl3 fun h4 fl4 up4 => ?_
              have J4 : Inv X pins σ' H' { s' with heap := h4 } := J.landed nb fl4.1 ((up.trans up3).trans up4) os ag
              obtain ⟨oe4, vs4, he4, hz4, hd4⟩ := fl4.there
              have S4 := J4.suite he4 hd4 na nL nF
              refine store_ok (X := X.suite a ((a, oe4) :: (X.pn ++ pins))) (v := .ref a) S4 hN hi hloc rfl (fun s5 S5 => ?_) (.inr hln)
              refine wpAny_mono ((hsu a oe4 cls d (X.pn ++ pins) hz4 ⟨_, hd4⟩).run [] s5 _ H' _ S5 hy) (fun f s6 hsp => ?_) (fun _ _ z => False.elim z)
              have end_ : ∀ {σ6 : St} {H6 : Hp} {Q : Shared → Prop}, Inv (X.suite a ((a, oe4) :: (X.pn ++ pins))) [] σ6 H6 s6 → (∀ s7, Inv X pins (σ6.set i none) H6 s7 → Q s7) →
                  wpAny (model X.prog X.w) X.A (do bindName X.env nn .none; unbindBehindTheSuite X.env nn pos') (fun _ s7 => Q s7) X.xe s6 := fun {σ6 H6 Q} S6 hq => gone_ok (S6.unsuite ok) hN hi hln hq
              cases f with
              | next =>
                obtain ⟨σ6, H6, S6, q6⟩ := hsp
                exact end_ S6 fun s7 J7 => ⟨_, _, J7, q6⟩
              | brk =>
                obtain ⟨σ6, H6, S6, q6⟩ := hsp
                exact end_ S6 fun s7 J7 => ⟨_, _, J7, q6⟩
              | cont =>
                obtain ⟨σ6, H6, S6, q6⟩ := hsp
                exact end_ S6 fun s7 J7 => ⟨_, _, J7, q6⟩
              | ret u =>
                obtain ⟨v6, σ6, H6, S6, r6, q6⟩ := hsp
                exact end_ S6 fun s7 J7 => ⟨_, _, _, J7, r6, q6⟩
        | false =>
          show wpAny _ X.A (handleBy (.ref a) X.env hds2) _ _ _
          exact ih (hno rfl)
    exact go hh w
  · cases f with
    | next =>
      obtain ⟨σ', H', J', q⟩ := hsp
      exact wpAny_execs_nil ⟨σ', H', J'.ofTry ok, q⟩
    | brk =>
      obtain ⟨σ', H', J', q⟩ := hsp
      exact ⟨σ', H', J'.ofTry ok, q⟩
    | cont =>
      obtain ⟨σ', H', J', q⟩ := hsp
      exact ⟨σ', H', J'.ofTry ok, q⟩
    | ret u =>
      obtain ⟨v, σ', H', J', r, q⟩ := hsp
      exact ⟨v, σ', H', J'.ofTry ok, r, q⟩
end
end L2

set_option Elab.async false
set_option linter.all false
set_option maxRecDepth 100000
set_option maxHeartbeats 2000000
/-! The same classes called with their one argument by its name; bare ones called without. -/
namespace PySem
namespace TErr
open PySem.W PySem.Calls PyProof.Rows PySem.HandSPX
open Builtin Builtin.ObjectAttr
section
variable {M : Model} {A : Around} {E : Value → Shared → Prop} {h : Heap} {g : Array GenState} {d : Drawn} {t : Nat} {os : OsState}
variable {nm q : Str} {C N : Addr} {bs bm bmB : List Value} {hdct : Bool} {sn : List Str} {sub : List Value} {ab : Bool} {col : Option Bool} {dd : Option Addr} {k0 k1 k2 k3 k5 : Option Value} {B newId initId : String}
theorem check_newK (F : ExcBaseFacts B newId initId bmB) (hT : ∀ X : String, bm.contains (.type X) = bmB.contains (.type X)) {kw : List (Str × Value)} {Q : Unit → Shared → Prop}
    (hC : h.get? C = some (excClassObj nm q C N bs bm hdct sn sub ab col dd k0 k1 k2 k3 k5 newId)) (hq : Q () ⟨h, g, d, t, os⟩) : wpAny M A (checkBuiltinCall newId ⟨[.ref C], kw⟩) Q E ⟨h, g, d, t, os⟩ := by
  have hcont : (Value.ref C :: bm).contains (.type B) = true := by rw [List.contains_cons, hT, F.hasB, Bool.or_true]
  have hstar := F.noStar
  simp only [checkBuiltinCall, F.newKind, F.newSplit, F.newRow]
  repeat (first | refine wpAny_loadPart_at hC ?_ | (refine wpAny_isSubtype_exc hC ?_; rw [hcont]) | refine wpAny_staticBase_exc hC ?_ | refine wpAny_madeBy_exc hC ?_ | simp only [bne_self_eq_false, Bool.false_eq_true, if_false] | wp_step)
  exact hq
end
section
variable {prog : Program} {w : World} {A : Around} {E : Value → Shared → Prop} {R : Result → Shared → Prop} {h : Heap} {g : Array GenState} {d : Drawn} {t : Nat} {os : OsState}
variable {nm q : Str} {C N : Addr} {bs bm bmB : List Value} {hdct : Bool} {sn : List Str} {sub : List Value} {ab : Bool} {col : Option Bool} {dd : Option Addr} {k0 k1 k2 k3 k5 : Option Value} {B newId initId : String}
theorem newK (F : ExcBaseFacts B newId initId bmB) (hT : ∀ X : String, bm.contains (.type X) = bmB.contains (.type X)) {kw : List (Str × Value)}
    (hC : h.get? C = some (excClassObj nm q C N bs bm hdct sn sub ab col dd k0 k1 k2 k3 k5 newId))
    (hq : R (.ok (.ret (.ref (h.objs.size + 1)))) ⟨(h.push { cls := .type "tuple", data := .seq #[] }).push
      { cls := .ref C, data := .fields #[.ref h.objs.size, .none, .none, .none, .bool false, .none] }, g, d, t, os⟩) :
    codeAny (model prog w) A (.builtin newId ⟨[.ref C], kw⟩) R ⟨h, g, d, t, os⟩ := by
  have hends := F.ends
  have hcB : (Value.ref C :: bm).contains (.type B) = true := by rw [List.contains_cons, hT, F.hasB, Bool.or_true]
  have hcA : (Value.ref C :: bm).contains (.type "AttributeError") = false := by rw [List.contains_cons, hT, F.noAttr]; rfl
  have hcN : (Value.ref C :: bm).contains (.type "NameError") = false := by rw [List.contains_cons, hT, F.noName]; rfl
  refine codeAny_builtinAt F.entry ?_
  unfold Builtin.«BaseException.__new__»
  refine wpAt_bind ?_
  show wpAt _ _ _ (stack >>= _) _ _ _
  refine wpAt_bind (wpAt_stack fun p below => wpAt_of_wpAny ?_)
  wp_walk
  refine wpAt_of_wpAny ?_
  rw [F.owner]
  repeat (first | with_reducible refine wpAny_madeHere_exc F.canon hC ?_ | with_reducible refine wpAny_loadPart_at hC ?_ | (with_reducible refine wpAny_isSubtype_exc hC ?_; first | rw [hcB] | rw [hcA] | rw [hcN]) | wp_step)
  show R _ _
  rw [Heap.size_push]
  exact hq
theorem type_callK (F : ExcBaseFacts B newId initId bmB) (hT : ∀ X : String, bm.contains (.type X) = bmB.contains (.type X)) {kw : List (Str × Value)} {fI : Addr} {Q : Fin → Shared → Prop}
    (hC : h.get? C = some (excClassObj nm q C N bs bm hdct sn sub ab col dd k0 k1 k2 k3 k5 newId))
    (hi : W.Looks (model prog w) h (typeLookup (.ref C) "__init__") (some (.ref fI))) (hb : ∀ self, W.Looks (model prog w) h (bindSpecial (.ref fI) self) (.ref fI, [self]))
    (hq : codeAny (model prog w) A (.call (.ref fI) ⟨[.ref (h.objs.size + 1)], kw⟩)
      (fun r s' => match r with | .ok (.ret v) => v = .none ∧ Q (.done (.ret (.ref (h.objs.size + 1)))) s' | .ok _ => False | .error e => E e s')
      ⟨(h.push (W.kdv_tup [])).push (excO C h.objs.size), g, d, t, os⟩) :
    wpAny (model prog w) A (Builtin.«type.__call__» ⟨[.ref C], kw⟩) Q E ⟨h, g, d, t, os⟩ := by
  repeat (first | with_reducible refine wpAny_loadPart_at hC ?_ | with_reducible refine wpAny_madeBy_exc hC ?_ | wp_step)
  refine codeAny_call_builtin_code (Code.quiet_builtin _ F.quiet) (check_newK F hT hC ?_)
  refine newK F hT hC ?_
  show wpAny _ _ _ _ _ _
  have k : ∀ b o, h.get? b = some o → ((h.push (W.kdv_tup [])).push (excO C h.objs.size)).get? b = some o := fun b o e => Heap.get?_push_of_some _ (Heap.get?_push_of_some _ e)
  have hC₁ := k _ _ hC
  have hget : ((h.push (W.kdv_tup [])).push (excO C h.objs.size)).get? (h.objs.size + 1) = some (excO C h.objs.size) := by heap_get
  have hcC : (Value.ref C :: bm).contains (.ref C) = true := by simp
  have i1 := hi.keeps k
  have b1 := (hb (.ref (h.objs.size + 1))).keeps k
  unfold isInstance
  repeat (first | with_reducible refine wpAny_loadPart_at hget ?_ | (with_reducible refine wpAny_isSubtype_exc hC₁ ?_; rw [hcC]) | wp_step)
  show wpAny _ _ (typeLookup (.ref C) _) _ _ _
  refine i1.at ?_
  refine wpAny_holding (wpAny_bind (b1.at ?_))
  refine wpAny_bind (wpAny_call (codeAny_mono hq fun r s' z => ?_))
  rcases r with e | (v | _ | _ | _) <;> first | exact z | exact z.elim | skip
  obtain ⟨rfl, z⟩ := z
  first
    | exact wpAny_pure (wpAny_pure z)
    | (wp_walk; exact z)
theorem call_K (F : ExcBaseFacts B newId initId bmB) (hT : ∀ X : String, bm.contains (.type X) = bmB.contains (.type X)) {kw : List (Str × Value)} {fI : Addr}
    (hC : h.get? C = some (excClassObj nm q C N bs bm hdct sn sub ab col dd k0 k1 k2 k3 k5 newId))
    (hi : W.Looks (model prog w) h (typeLookup (.ref C) "__init__") (some (.ref fI))) (hb : ∀ self, W.Looks (model prog w) h (bindSpecial (.ref fI) self) (.ref fI, [self]))
    (hq : codeAny (model prog w) (A.under (.builtin "type.__call__" ⟨[.ref C], kw⟩)) (.call (.ref fI) ⟨[.ref (h.objs.size + 1)], kw⟩) (W.InitBack (h.objs.size + 1) R)
      ⟨(h.push (W.kdv_tup [])).push (excO C h.objs.size), g, d, t, os⟩) :
    codeAny (model prog w) A (.call (.ref C) ⟨[], kw⟩) R ⟨h, g, d, t, os⟩ := by
  have f1 := tc_lookup
  have f2 := tc_bind (.ref C)
  have hTy : (⟨h, g, d, t, os⟩ : Shared).TypeIs (.ref C) "type" := ⟨_, hC, rfl⟩
  refine codeAny_of_tree ?_
  show wpAny _ _ (callAny (.ref C) _) _ _ _
  repeat (any_goals (first | assumption | with_reducible refine wpAny_loadPart_at hC ?_ | wp_step))
  refine ⟨rfl, ?_⟩
  refine codeAny_call_builtin_at (Code.quiet_builtin _ (by decide +kernel)) entry_typeCall (wpAny_check_type_call_sub hC (type_callK F hT hC hi hb ?_))
  refine codeAny_mono hq fun r s' z => ?_
  rcases r with e | (v | _ | _ | _) <;> exact z
end
section
variable {prog : Program} {w : World} {A : Around} {E : Value → Shared → Prop} {R : Result → Shared → Prop} {s : Shared} {K : Frag} {mg : Str → Option Value} {C fI : Addr} {nm f : String}
theorem initK (T : ETxt K mg nm f C fI) {x t0 : Addr} {v : Value} (X : K.In s.heap) (hlim : s.heap.NoLimit) (hx : s.heap.get? x = some (excO C t0)) (hnx : K.lookup x = none) (hroom : A.depth < recursionLimit)
    (hq : ∀ h' tk dx, InitE f s.heap h' x C dx t0 v → R (.ok (.ret .none)) { s with heap := h', toks := tk }) :
    codeAny (model prog w) A (.call (.ref fI) ⟨[.ref x], [(PySem.Str.ofString f, v)]⟩) R s := by
  obtain ⟨qn, oc, od, kV, doc, pm, an, cdv, ct, osl, p1, p2, q1, q2, q3, q4, ho, hcd⟩ := T.fn
  obtain ⟨nm', q, N, bs, bm, sn, sub, ab, col, dd, k0, k1, k2, k3, k5, hC, hbm⟩ := T.cls
  have hcl : clsIn K C = some { name := nm', bases := bs, mro := .ref C :: bm, ns := N, qualname := q, hasDict := true, slotNames := sn, subclasses := sub, abstract := ab, collection := col, hasDel := false } := by unfold clsIn; rw [hC] <;> rfl
  have sa := T.sa
  have noN := T.noN
  rcases T.fld with rfl | rfl | rfl
  all_goals
    refine Att.call_fn (binds := [("self", .ref x), (_, v)]) X hlim ho hcd hroom (BindsTo.of_eq (by first | rfl | with_unfolding_all rfl)) (by first | rfl | decide | with_unfolding_all rfl) (fun s₁ IC => ?_) rfl rfl rfl
    obtain ⟨h₁, tk₁, rfl⟩ := IC.toInCall.same
    have k : ∀ b o, s.heap.get? b = some o → h₁.get? b = some o := IC.toInCall.keep
    have hn := IC.toInCall.ns
    have X₁ : K.In h₁ := X.keeps k
    have hx₁ := k _ _ hx
    show wpAny _ _ (execs _ _) _ _ _
    refine wpAny_execs_cons (plainObj_wpAny_Assign_Attribute ?_)
    refine ldE (v := v) hn (by first | rfl | with_unfolding_all rfl | kernel_rfl) (ldE (v := .ref x) hn (by first | rfl | with_unfolding_all rfl | kernel_rfl) ?_)
    refine set_plain X₁ (ox := excO C t0) (od := none) ⟨hx₁, rfl, rfl, trivial⟩ sa ?_
    refine storeE X₁ hx₁ hcl (show ownE (.ref C :: bm) = true from hbm) rfl noN (fun h₃ tk₃ dx k₃ dn dne hx₃ hn₃ => ?_)
    show wpAny _ _ (execs _ _) _ _ _
    have z : s.heap.objs.size < h₁.objs.size := hn.lt
    exact wpAny_execs_nil (hq h₃ tk₃ dx ⟨fun b o hb e => k₃ b o hb (k b o e), hx₃, Nat.le_of_lt (Nat.lt_of_lt_of_le z dn), dne, hn₃⟩)
theorem madeK (T : ETxt K mg nm f C fI) {v : Value} (X : K.In s.heap) (hlim : s.heap.NoLimit) (hroom : A.depth + 1 < recursionLimit)
    (hq : ∀ h' tk e d, MadeE f s.heap h' e C d v → R (.ok (.ret (.ref e))) { s with heap := h', toks := tk }) :
    codeAny (model prog w) A (.call (.ref C) ⟨[], [(PySem.Str.ofString f, v)]⟩) R s := by
  obtain ⟨nm', q, N, bs, bm, sn, sub, ab, col, dd, k0, k1, k2, k3, k5, hC, hbm⟩ := T.cls
  obtain ⟨hp, g, dr, tk, os⟩ := s
  have k : ∀ b o, hp.get? b = some o → ((hp.push (kdv_tup [])).push (excO C hp.objs.size)).get? b = some o := fun b o e => Heap.get?_push_of_some _ (Heap.get?_push_of_some _ e)
  have hget : ((hp.push (kdv_tup [])).push (excO C hp.objs.size)).get? (hp.objs.size + 1) = some (excO C hp.objs.size) := by heap_get
  have hnx : K.lookup (hp.objs.size + 1) = none := by
    cases e : K.lookup (hp.objs.size + 1) with
    | none => rfl
    | some o =>
      have z : hp.get? (hp.objs.size + 1) = some o := X _ _ e
      exact absurd (Nat.lt_of_succ_lt (Heap.lt_size z)) (Nat.lt_irrefl _)
  refine call_K F.excBase_Exception (fun Y => (ownE_has Y bm hbm)) (X _ _ hC) (looks_findIn X T.iC) (fun self => bind_fn X self T.tC) ?_
  refine initK (s := ⟨(hp.push (kdv_tup [])).push (excO C hp.objs.size), g, dr, tk, os⟩) T (X.keeps k) (hlim.keeps k) hget hnx ?_ fun h' tk' dx ⟨k', hx, dn, dne, hns⟩ => ?_
  · show A.depth + 1 < recursionLimit
    exact hroom
  · have old : ∀ b o, hp.get? b = some o → h'.get? b = some o := fun b o e => k' b o (Nat.ne_of_lt (Nat.lt_succ_of_lt (Heap.lt_size e))) (k b o e)
    have z : hp.objs.size + 1 + 1 ≤ dx := by
      first
        | (simpa only [Heap.size_push] using dn)
        | exact dn
        | (have q := dn; rw [Heap.size_push, Heap.size_push] at q; exact q)
    exact ⟨rfl, hq h' tk' (hp.objs.size + 1) dx ⟨old, Nat.le_succ _, ⟨_, _, hx, rfl, rfl, rfl, rfl⟩, Nat.le_trans (Nat.le_trans (Nat.le_succ _) (Nat.le_succ _)) z, dne, hns⟩⟩
end
end TErr
end PySem

namespace L2
open PySem PySem.Spec PyProof.Rows
open PySem.TErr (ETxt Fld madeK MadeE)
section
variable {X : Cx} {C fI : Addr} {nm f : String}
/-- C(f = e).f -/
theorem pe_mkget {tk : TA} {kws : List Keyword} {p pos pos2 : Pos} {k : Nat} {x y : Str} (T : ETxt X.K X.mg nm f C fI) (hr : Room k X.A) (hkw : PK X kws tk) (hx : x = PySem.Str.ofString nm := by rfl) (hy : y = PySem.Str.ofString f := by rfl) (hg : Gl X x := by rfl)
    (hdb : (x == ("__debug__" : Str)) = false := by decide) (hall : (backToKw pos (keywordEach kws X.env)).all (·.1.isSome) = true := by rfl) (hks : (backToKw pos (keywordEach kws X.env)).filterMap (·.1) = [y] := by rfl)
    (hpl : ((backTo pos (starEach [] X.env)).any (·.1) || (backToKw pos (keywordEach kws X.env)).any (·.1.isNone)) = false := by rfl)
    (hb : attributeBase (.Call (.Name x p) [] kws pos) y X.env (eval (.Call (.Name x p) [] kws pos) X.env) = eval (.Call (.Name x p) [] kws pos) X.env := by rfl) :
    PE X (.Attribute (.Call (.Name x p) [] kws pos) y pos2) (fun σ H Q => tk σ H fun vs H1 => ∃ v, vs = [v] ∧ Q v H1) := by
  refine ⟨fun pins s σ H Q I h => ?_⟩
  subst hx
  refine attr_of hb (wpAny_Call_Name_kw (ld_glob I hg T.gC ?_ hdb))
  refine PySem.W.callWith_KW0 (h₀ := X.base) I.ok.mod.kin T.kC hall (thn (hkw.run pos pins s σ H _ I h) fun ws s1 ⟨zs, H1, I1, r, v, ev, q1⟩ => ⟨I1.kIn, ?_⟩) hpl
  subst ev
  rw [hks, hy]
  cases r with
  | cons rv rn =>
    rename_i v' us'
    cases rn
    have hlim := I1.nolimit
    obtain ⟨hp, g, dr, tk, os⟩ := s1
    refine wpAny_call (madeK T I1.kIn hlim (by have := hr.dp; omega) fun h' tk' e d M => ?_)
    obtain ⟨oe, fv, hoe, hc, hd, hdat, h1⟩ := M.obj
    have J : Inv X pins σ H1 ⟨h', g, dr, tk', os⟩ := I1.kept (t' := tk') M.keep
    obtain ⟨od, ho, hl⟩ := lookIn_ns M.ns
    have ii : PySem.W.InstAt h' e oe C (some od) := ⟨hoe, hc, by unfold PySem.W.notCls; rw [hdat] <;> rfl, by rw [hd]; exact ho⟩
    exact HandSPX.exc_get J.kIn ii T.ga T.gg T.exC (PySem.W.findObj_own T.hdC T.noN rfl (by rw [hl, if_pos rfl])) (handed_of rv) ⟨v, H1, J.tok _, rv, q1⟩
/-- C(), C a bare class -/
theorem pmk_bare {bmB : List Value} {B newId initId : String} {x : Str} {p pos : Pos} (F : ExcBaseFacts B newId initId bmB) (q : PySem.W.excIn X.K C bmB newId = true) (gC : X.mg x = some (.ref C)) (kC : PySem.W.keepIn X.K (.ref C) = true) (r : Raises X (.ref C)) (hg : Gl X x := by rfl)
    (hdb : (x == ("__debug__" : Str)) = false := by decide) : PMk X (.Call (.Name x p) [] [] pos) (fun _ H Q => Q (.ref C) none H) := by
  intro pins s σ H Q I h
  refine wpAny_Call_Name_kw (ld_glob I hg gC ?_ hdb)
  refine PySem.W.callWith_KW0 (h₀ := X.base) I.ok.mod.kin kC (by rfl) (thn (pk_nil.run pos pins s σ H (fun vs H1 => vs = [] ∧ H = H1) I ⟨rfl, rfl⟩) fun ws s1 hh => ?_) (by rfl)
  obtain ⟨vs, H1, I1, r1, ev, eH⟩ := hh
  subst ev
  rw [← eH] at I1
  refine ⟨I1.kIn, ?_⟩
  cases r1
  show wpAny _ _ (call (.ref C) []) _ _ _
  obtain ⟨bm, N, nm, qn, bs, hdct, sn, sub, ab, col, dd, k0, k1, k2, k3, k5, mN, hC, hN, hni, T⟩ := exc_obj I1.kIn q
  refine wpAny_call_exc_subT F T hC hN hni (fun h' e hm => ?_) (Nat.zero_le _)
  exact mk_of I1 hm r h (I1.hok.gone hm.new)
theorem ps_raise0 {bmB : List Value} {B newId initId : String} {x : Str} {W : WX} {p pos pos2 : Pos} (hc : X.calm = true) (tk : Takes X W) (F : ExcBaseFacts B newId initId bmB) (q : PySem.W.excIn X.K C bmB newId = true) (gC : X.mg x = some (.ref C)) (kC : PySem.W.keepIn X.K (.ref C) = true) (r : Raises X (.ref C)) (hg : Gl X x := by rfl)
    (hdb : (x == ("__debug__" : Str)) = false := by decide) : PS X (.Raise (some (.Call (.Name x p) [] [] pos)) none pos2) (fun _ σ H => W (.ref C) none σ H) := ps_raise hc tk (pmk_bare F q gC kC r hg hdb)
end
end L2

set_option Elab.async false
set_option linter.all false
set_option maxRecDepth 100000
set_option maxHeartbeats 4000000
namespace M
open PySem PySem.Spec PyProof.Rows L2
def topS (i : Nat) : Stmt := PySem.Challenge.pw_nobodymeets_k00_whole_errors_and_what_th.main.body.getD i (.Pass ⟨0, 0, 0, 0⟩)
def exT (c d : Nat) : Bool := decide (c = d) || decide (d = 36)
abbrev s_law_box : Stmt := topS 39
abbrev s_law_take : Stmt := topS 40
abbrev s_law_pick : Stmt := topS 41
abbrev s_law_raise_a : Stmt := topS 42
abbrev s_law_raise_b : Stmt := topS 43
abbrev s_law_raise_c : Stmt := topS 44
abbrev s_law_raise : Stmt := topS 45
abbrev s_law_caught_a : Stmt := topS 46
abbrev s_law_caught_b : Stmt := topS 47
abbrev s_law_caught_c : Stmt := topS 48
abbrev s_law_is_base : Stmt := topS 49
abbrev s_law : Stmt := topS 50
abbrev AlY : Type := He.AlD × Bool
def obsY (n : Nat) (fa : List He.Fa) (fn : List He.DefD) (ex : PySem.W.Frag → Bool) (g : Addr → Option Obj) : AlY := (He.obsD fa fn (He.frG g (He.asD g n)), ex (He.frG g (He.asD g n)))
def hookY (n : Nat) (fa : List He.Fa) (fn : List He.DefD) (ex : PySem.W.Frag → Bool) : PySem.W.Hook where
  α := AlY
  obs := fun s => obsY n fa fn ex s.heap.get?
  val := fun _ => (He.valD fn, true)
  says := fun _ h => ∃ K : PySem.W.Frag, K.In h ∧ He.SaysD fa fn K ∧ ex K = true
  of := fun _ _ e => ⟨_, He.frG_in, congrArg (fun z : AlY => z.1) e, congrArg (fun z : AlY => z.2) e⟩
  keeps := fun _ _ _ ⟨K, hK, c⟩ k => ⟨K, PySem.W.Frag.In.keeps hK k, c⟩
theorem obsY_eq {n : Nat} {fa : List He.Fa} {fn : List He.DefD} {ex : PySem.W.Frag → Bool} {g : Addr → Option Obj} {s : Shared} (h : ∀ a, g a = s.heap.get? a) : obsY n fa fn ex g = (hookY n fa fn ex).obs s := by
  have e : g = s.heap.get? := funext h
  rw [e] <;> rfl
/-- an own exception class as it stands -/
def clsB (K : PySem.W.Frag) (C : Addr) : Bool := match K.lookup C with
  | some ⟨.type "type", _, .cls cd, sl⟩ => (match cd.mro, sl.toList with
    | .ref C' :: bm, [_, _, _, _, some (.builtin n), _] => C' == C && n == "Exception.__new__" && !cd.hasDel && cd.hasDict && PySem.TErr.ownE bm
    | _, _ => false)
  | _ => false
/-- what else is asked of such a class, whose field is f -/
def excB (K : PySem.W.Frag) (x f : Str) : Bool :=
  clsB K (He.ga K x) && (He.eqO (PySem.W.findIn K (.ref (He.ga K x)) "__setattr__") (some (some (.builtin "object.__setattr__"))) && (He.eqO (PySem.W.findIn K (.ref (He.ga K x)) "__getattribute__") (some (some (.builtin "BaseException.__getattribute__"))) &&
  (He.eqO (PySem.W.findIn K (.ref (He.ga K x)) "__getattr__") (some none) && (He.eqO (PySem.W.findIn K (.ref (He.ga K x)) f) (some none) && (He.eqO (PySem.W.findIn K (.ref (He.ga K x)) "__init__") (some (some (.ref (He.ma K (He.ga K x) "__init__")))) &&
  (decide (PySem.W.typeIn K (.ref (He.ma K (He.ga K x) "__init__")) = some (.type "function")) && (PySem.W.keepIn K (.ref (He.ga K x)) && (decide (PySem.W.subIn K (.ref (He.ga K x)) (.type "BaseException") = some true) &&
  (decide (PySem.W.typeIn K (.ref (He.ga K x)) = some (.type "type")) && PySem.W.hasDictIn K (He.ga K x))))))))))
/-- a bare one that is raised -/
def bareB (K : PySem.W.Frag) (x : Str) : Bool := PySem.W.excIn K (He.ga K x) PySem.TErr.endE "Exception.__new__" && (PySem.W.keepIn K (.ref (He.ga K x)) && (decide (PySem.W.subIn K (.ref (He.ga K x)) (.type "BaseException") = some true) && decide (PySem.W.typeIn K (.ref (He.ga K x)) = some (.type "type"))))
/-- which clause takes which error -/
def exB (K : PySem.W.Frag) (nm : Nat → Str) (ex : Nat → Nat → Bool) (nE nC : Nat) : Bool := (List.range nE).all fun c => (List.range nC).all fun d => decide (PySem.W.exmOne K (.ref (He.ga K (nm c))) (.ref (He.ga K (nm d))) = some (ex c d))
def nmT (c : Nat) : Str := (((["InvalidText", "InvalidHall", "InvalidCell", "InvalidLot", "InvalidWays", "InvalidWay", "InvalidTies", "InvalidBlocks", "InvalidRobots", "InvalidPlan", "InvalidTask", "InvalidOrders", "InvalidStanding", "InvalidHolds", "InvalidLetter", "InvalidBook", "InvalidScript", "InvalidStretches", "InvalidTable", "InvalidGoods", "InvalidStock", "InvalidDeeds", "InvalidWants", "InvalidComings", "InvalidLots", "InvalidLines", "InvalidHomes", "InvalidLanes", "InvalidPrices", "InvalidRoutes"] : List Str) ++ (["InvalidPicture", "InvalidIndex", "Refused", "InvalidSize", "NoRobot", "InvalidCommand", "HallError"] : List Str)) : List Str).getD c ""
def cnT (c : Nat) : Str := (([]) : List Str).getD c ""
def d0 : He.DefD := ⟨("_law_box", none), "_law_box", "_law_box", defArgs s_law_box, defBody s_law_box, defScope s_law_box, [], []⟩
def d1 : He.DefD := ⟨("_law_take", none), "_law_take", "_law_take", defArgs s_law_take, defBody s_law_take, defScope s_law_take, [], []⟩
def d2 : He.DefD := ⟨("_law_pick", none), "_law_pick", "_law_pick", defArgs s_law_pick, defBody s_law_pick, defScope s_law_pick, [], []⟩
def d3 : He.DefD := ⟨("_law_raise_a", none), "_law_raise_a", "_law_raise_a", defArgs s_law_raise_a, defBody s_law_raise_a, defScope s_law_raise_a, [], []⟩
def d4 : He.DefD := ⟨("_law_raise_b", none), "_law_raise_b", "_law_raise_b", defArgs s_law_raise_b, defBody s_law_raise_b, defScope s_law_raise_b, [], []⟩
def d5 : He.DefD := ⟨("_law_raise_c", none), "_law_raise_c", "_law_raise_c", defArgs s_law_raise_c, defBody s_law_raise_c, defScope s_law_raise_c, [], []⟩
def d6 : He.DefD := ⟨("_law_raise", none), "_law_raise", "_law_raise", defArgs s_law_raise, defBody s_law_raise, defScope s_law_raise, [], []⟩
def d7 : He.DefD := ⟨("_law_caught_a", none), "_law_caught_a", "_law_caught_a", defArgs s_law_caught_a, defBody s_law_caught_a, defScope s_law_caught_a, [], []⟩
def d8 : He.DefD := ⟨("_law_caught_b", none), "_law_caught_b", "_law_caught_b", defArgs s_law_caught_b, defBody s_law_caught_b, defScope s_law_caught_b, [], []⟩
def d9 : He.DefD := ⟨("_law_caught_c", none), "_law_caught_c", "_law_caught_c", defArgs s_law_caught_c, defBody s_law_caught_c, defScope s_law_caught_c, [], []⟩
def d10 : He.DefD := ⟨("_law_is_base", none), "_law_is_base", "_law_is_base", defArgs s_law_is_base, defBody s_law_is_base, defScope s_law_is_base, [], []⟩
def d11 : He.DefD := ⟨("law", none), "law", "law", defArgs s_law, defBody s_law, defScope s_law, [], []⟩
def e0 : He.DefD := ⟨("InvalidText", some "__init__"), "__init__", "InvalidText.__init__", PySem.TErr.iA "at" ⟨6, 17, 6, 21⟩ ⟨6, 23, 6, 25⟩, PySem.TErr.iB "at" ⟨7, 8, 7, 12⟩ ⟨7, 8, 7, 15⟩ ⟨7, 18, 7, 20⟩ ⟨7, 8, 7, 20⟩, PySem.TErr.iS "at", [], []⟩
def e1 : He.DefD := ⟨("InvalidHall", some "__init__"), "__init__", "InvalidHall.__init__", PySem.TErr.iA "at" ⟨10, 17, 10, 21⟩ ⟨10, 23, 10, 25⟩, PySem.TErr.iB "at" ⟨11, 8, 11, 12⟩ ⟨11, 8, 11, 15⟩ ⟨11, 18, 11, 20⟩ ⟨11, 8, 11, 20⟩, PySem.TErr.iS "at", [], []⟩
def e2 : He.DefD := ⟨("InvalidCell", some "__init__"), "__init__", "InvalidCell.__init__", PySem.TErr.iA "at" ⟨14, 17, 14, 21⟩ ⟨14, 23, 14, 25⟩, PySem.TErr.iB "at" ⟨15, 8, 15, 12⟩ ⟨15, 8, 15, 15⟩ ⟨15, 18, 15, 20⟩ ⟨15, 8, 15, 20⟩, PySem.TErr.iS "at", [], []⟩
def e3 : He.DefD := ⟨("InvalidLot", some "__init__"), "__init__", "InvalidLot.__init__", PySem.TErr.iA "at" ⟨18, 17, 18, 21⟩ ⟨18, 23, 18, 25⟩, PySem.TErr.iB "at" ⟨19, 8, 19, 12⟩ ⟨19, 8, 19, 15⟩ ⟨19, 18, 19, 20⟩ ⟨19, 8, 19, 20⟩, PySem.TErr.iS "at", [], []⟩
def e4 : He.DefD := ⟨("InvalidWays", some "__init__"), "__init__", "InvalidWays.__init__", PySem.TErr.iA "at" ⟨22, 17, 22, 21⟩ ⟨22, 23, 22, 25⟩, PySem.TErr.iB "at" ⟨23, 8, 23, 12⟩ ⟨23, 8, 23, 15⟩ ⟨23, 18, 23, 20⟩ ⟨23, 8, 23, 20⟩, PySem.TErr.iS "at", [], []⟩
def e5 : He.DefD := ⟨("InvalidWay", some "__init__"), "__init__", "InvalidWay.__init__", PySem.TErr.iA "at" ⟨26, 17, 26, 21⟩ ⟨26, 23, 26, 25⟩, PySem.TErr.iB "at" ⟨27, 8, 27, 12⟩ ⟨27, 8, 27, 15⟩ ⟨27, 18, 27, 20⟩ ⟨27, 8, 27, 20⟩, PySem.TErr.iS "at", [], []⟩
def e6 : He.DefD := ⟨("InvalidTies", some "__init__"), "__init__", "InvalidTies.__init__", PySem.TErr.iA "at" ⟨30, 17, 30, 21⟩ ⟨30, 23, 30, 25⟩, PySem.TErr.iB "at" ⟨31, 8, 31, 12⟩ ⟨31, 8, 31, 15⟩ ⟨31, 18, 31, 20⟩ ⟨31, 8, 31, 20⟩, PySem.TErr.iS "at", [], []⟩
def e7 : He.DefD := ⟨("InvalidBlocks", some "__init__"), "__init__", "InvalidBlocks.__init__", PySem.TErr.iA "at" ⟨34, 17, 34, 21⟩ ⟨34, 23, 34, 25⟩, PySem.TErr.iB "at" ⟨35, 8, 35, 12⟩ ⟨35, 8, 35, 15⟩ ⟨35, 18, 35, 20⟩ ⟨35, 8, 35, 20⟩, PySem.TErr.iS "at", [], []⟩
def e8 : He.DefD := ⟨("InvalidRobots", some "__init__"), "__init__", "InvalidRobots.__init__", PySem.TErr.iA "at" ⟨38, 17, 38, 21⟩ ⟨38, 23, 38, 25⟩, PySem.TErr.iB "at" ⟨39, 8, 39, 12⟩ ⟨39, 8, 39, 15⟩ ⟨39, 18, 39, 20⟩ ⟨39, 8, 39, 20⟩, PySem.TErr.iS "at", [], []⟩
def e9 : He.DefD := ⟨("InvalidPlan", some "__init__"), "__init__", "InvalidPlan.__init__", PySem.TErr.iA "at" ⟨42, 17, 42, 21⟩ ⟨42, 23, 42, 25⟩, PySem.TErr.iB "at" ⟨43, 8, 43, 12⟩ ⟨43, 8, 43, 15⟩ ⟨43, 18, 43, 20⟩ ⟨43, 8, 43, 20⟩, PySem.TErr.iS "at", [], []⟩
def e10 : He.DefD := ⟨("InvalidTask", some "__init__"), "__init__", "InvalidTask.__init__", PySem.TErr.iA "at" ⟨46, 17, 46, 21⟩ ⟨46, 23, 46, 25⟩, PySem.TErr.iB "at" ⟨47, 8, 47, 12⟩ ⟨47, 8, 47, 15⟩ ⟨47, 18, 47, 20⟩ ⟨47, 8, 47, 20⟩, PySem.TErr.iS "at", [], []⟩
def e11 : He.DefD := ⟨("InvalidOrders", some "__init__"), "__init__", "InvalidOrders.__init__", PySem.TErr.iA "at" ⟨50, 17, 50, 21⟩ ⟨50, 23, 50, 25⟩, PySem.TErr.iB "at" ⟨51, 8, 51, 12⟩ ⟨51, 8, 51, 15⟩ ⟨51, 18, 51, 20⟩ ⟨51, 8, 51, 20⟩, PySem.TErr.iS "at", [], []⟩
def e12 : He.DefD := ⟨("InvalidStanding", some "__init__"), "__init__", "InvalidStanding.__init__", PySem.TErr.iA "at" ⟨54, 17, 54, 21⟩ ⟨54, 23, 54, 25⟩, PySem.TErr.iB "at" ⟨55, 8, 55, 12⟩ ⟨55, 8, 55, 15⟩ ⟨55, 18, 55, 20⟩ ⟨55, 8, 55, 20⟩, PySem.TErr.iS "at", [], []⟩
def e13 : He.DefD := ⟨("InvalidHolds", some "__init__"), "__init__", "InvalidHolds.__init__", PySem.TErr.iA "at" ⟨58, 17, 58, 21⟩ ⟨58, 23, 58, 25⟩, PySem.TErr.iB "at" ⟨59, 8, 59, 12⟩ ⟨59, 8, 59, 15⟩ ⟨59, 18, 59, 20⟩ ⟨59, 8, 59, 20⟩, PySem.TErr.iS "at", [], []⟩
def e14 : He.DefD := ⟨("InvalidLetter", some "__init__"), "__init__", "InvalidLetter.__init__", PySem.TErr.iA "at" ⟨62, 17, 62, 21⟩ ⟨62, 23, 62, 25⟩, PySem.TErr.iB "at" ⟨63, 8, 63, 12⟩ ⟨63, 8, 63, 15⟩ ⟨63, 18, 63, 20⟩ ⟨63, 8, 63, 20⟩, PySem.TErr.iS "at", [], []⟩
def e15 : He.DefD := ⟨("InvalidBook", some "__init__"), "__init__", "InvalidBook.__init__", PySem.TErr.iA "at" ⟨66, 17, 66, 21⟩ ⟨66, 23, 66, 25⟩, PySem.TErr.iB "at" ⟨67, 8, 67, 12⟩ ⟨67, 8, 67, 15⟩ ⟨67, 18, 67, 20⟩ ⟨67, 8, 67, 20⟩, PySem.TErr.iS "at", [], []⟩
def e16 : He.DefD := ⟨("InvalidScript", some "__init__"), "__init__", "InvalidScript.__init__", PySem.TErr.iA "at" ⟨70, 17, 70, 21⟩ ⟨70, 23, 70, 25⟩, PySem.TErr.iB "at" ⟨71, 8, 71, 12⟩ ⟨71, 8, 71, 15⟩ ⟨71, 18, 71, 20⟩ ⟨71, 8, 71, 20⟩, PySem.TErr.iS "at", [], []⟩
def e17 : He.DefD := ⟨("InvalidStretches", some "__init__"), "__init__", "InvalidStretches.__init__", PySem.TErr.iA "at" ⟨74, 17, 74, 21⟩ ⟨74, 23, 74, 25⟩, PySem.TErr.iB "at" ⟨75, 8, 75, 12⟩ ⟨75, 8, 75, 15⟩ ⟨75, 18, 75, 20⟩ ⟨75, 8, 75, 20⟩, PySem.TErr.iS "at", [], []⟩
def e18 : He.DefD := ⟨("InvalidTable", some "__init__"), "__init__", "InvalidTable.__init__", PySem.TErr.iA "at" ⟨78, 17, 78, 21⟩ ⟨78, 23, 78, 25⟩, PySem.TErr.iB "at" ⟨79, 8, 79, 12⟩ ⟨79, 8, 79, 15⟩ ⟨79, 18, 79, 20⟩ ⟨79, 8, 79, 20⟩, PySem.TErr.iS "at", [], []⟩
def e19 : He.DefD := ⟨("InvalidGoods", some "__init__"), "__init__", "InvalidGoods.__init__", PySem.TErr.iA "at" ⟨82, 17, 82, 21⟩ ⟨82, 23, 82, 25⟩, PySem.TErr.iB "at" ⟨83, 8, 83, 12⟩ ⟨83, 8, 83, 15⟩ ⟨83, 18, 83, 20⟩ ⟨83, 8, 83, 20⟩, PySem.TErr.iS "at", [], []⟩
def e20 : He.DefD := ⟨("InvalidStock", some "__init__"), "__init__", "InvalidStock.__init__", PySem.TErr.iA "at" ⟨86, 17, 86, 21⟩ ⟨86, 23, 86, 25⟩, PySem.TErr.iB "at" ⟨87, 8, 87, 12⟩ ⟨87, 8, 87, 15⟩ ⟨87, 18, 87, 20⟩ ⟨87, 8, 87, 20⟩, PySem.TErr.iS "at", [], []⟩
def e21 : He.DefD := ⟨("InvalidDeeds", some "__init__"), "__init__", "InvalidDeeds.__init__", PySem.TErr.iA "at" ⟨90, 17, 90, 21⟩ ⟨90, 23, 90, 25⟩, PySem.TErr.iB "at" ⟨91, 8, 91, 12⟩ ⟨91, 8, 91, 15⟩ ⟨91, 18, 91, 20⟩ ⟨91, 8, 91, 20⟩, PySem.TErr.iS "at", [], []⟩
def e22 : He.DefD := ⟨("InvalidWants", some "__init__"), "__init__", "InvalidWants.__init__", PySem.TErr.iA "at" ⟨94, 17, 94, 21⟩ ⟨94, 23, 94, 25⟩, PySem.TErr.iB "at" ⟨95, 8, 95, 12⟩ ⟨95, 8, 95, 15⟩ ⟨95, 18, 95, 20⟩ ⟨95, 8, 95, 20⟩, PySem.TErr.iS "at", [], []⟩
def e23 : He.DefD := ⟨("InvalidComings", some "__init__"), "__init__", "InvalidComings.__init__", PySem.TErr.iA "at" ⟨98, 17, 98, 21⟩ ⟨98, 23, 98, 25⟩, PySem.TErr.iB "at" ⟨99, 8, 99, 12⟩ ⟨99, 8, 99, 15⟩ ⟨99, 18, 99, 20⟩ ⟨99, 8, 99, 20⟩, PySem.TErr.iS "at", [], []⟩
def e24 : He.DefD := ⟨("InvalidLots", some "__init__"), "__init__", "InvalidLots.__init__", PySem.TErr.iA "at" ⟨102, 17, 102, 21⟩ ⟨102, 23, 102, 25⟩, PySem.TErr.iB "at" ⟨103, 8, 103, 12⟩ ⟨103, 8, 103, 15⟩ ⟨103, 18, 103, 20⟩ ⟨103, 8, 103, 20⟩, PySem.TErr.iS "at", [], []⟩
def e25 : He.DefD := ⟨("InvalidLines", some "__init__"), "__init__", "InvalidLines.__init__", PySem.TErr.iA "at" ⟨106, 17, 106, 21⟩ ⟨106, 23, 106, 25⟩, PySem.TErr.iB "at" ⟨107, 8, 107, 12⟩ ⟨107, 8, 107, 15⟩ ⟨107, 18, 107, 20⟩ ⟨107, 8, 107, 20⟩, PySem.TErr.iS "at", [], []⟩
def e26 : He.DefD := ⟨("InvalidHomes", some "__init__"), "__init__", "InvalidHomes.__init__", PySem.TErr.iA "at" ⟨110, 17, 110, 21⟩ ⟨110, 23, 110, 25⟩, PySem.TErr.iB "at" ⟨111, 8, 111, 12⟩ ⟨111, 8, 111, 15⟩ ⟨111, 18, 111, 20⟩ ⟨111, 8, 111, 20⟩, PySem.TErr.iS "at", [], []⟩
def e27 : He.DefD := ⟨("InvalidLanes", some "__init__"), "__init__", "InvalidLanes.__init__", PySem.TErr.iA "at" ⟨114, 17, 114, 21⟩ ⟨114, 23, 114, 25⟩, PySem.TErr.iB "at" ⟨115, 8, 115, 12⟩ ⟨115, 8, 115, 15⟩ ⟨115, 18, 115, 20⟩ ⟨115, 8, 115, 20⟩, PySem.TErr.iS "at", [], []⟩
def e28 : He.DefD := ⟨("InvalidPrices", some "__init__"), "__init__", "InvalidPrices.__init__", PySem.TErr.iA "at" ⟨118, 17, 118, 21⟩ ⟨118, 23, 118, 25⟩, PySem.TErr.iB "at" ⟨119, 8, 119, 12⟩ ⟨119, 8, 119, 15⟩ ⟨119, 18, 119, 20⟩ ⟨119, 8, 119, 20⟩, PySem.TErr.iS "at", [], []⟩
def e29 : He.DefD := ⟨("InvalidRoutes", some "__init__"), "__init__", "InvalidRoutes.__init__", PySem.TErr.iA "at" ⟨122, 17, 122, 21⟩ ⟨122, 23, 122, 25⟩, PySem.TErr.iB "at" ⟨123, 8, 123, 12⟩ ⟨123, 8, 123, 15⟩ ⟨123, 18, 123, 20⟩ ⟨123, 8, 123, 20⟩, PySem.TErr.iS "at", [], []⟩
def e30 : He.DefD := ⟨("InvalidPicture", some "__init__"), "__init__", "InvalidPicture.__init__", PySem.TErr.iA "at" ⟨126, 17, 126, 21⟩ ⟨126, 23, 126, 25⟩, PySem.TErr.iB "at" ⟨127, 8, 127, 12⟩ ⟨127, 8, 127, 15⟩ ⟨127, 18, 127, 20⟩ ⟨127, 8, 127, 20⟩, PySem.TErr.iS "at", [], []⟩
def e31 : He.DefD := ⟨("InvalidIndex", some "__init__"), "__init__", "InvalidIndex.__init__", PySem.TErr.iA "at" ⟨130, 17, 130, 21⟩ ⟨130, 23, 130, 25⟩, PySem.TErr.iB "at" ⟨131, 8, 131, 12⟩ ⟨131, 8, 131, 15⟩ ⟨131, 18, 131, 20⟩ ⟨131, 8, 131, 20⟩, PySem.TErr.iS "at", [], []⟩
def e32 : He.DefD := ⟨("Refused", some "__init__"), "__init__", "Refused.__init__", PySem.TErr.iA "at" ⟨134, 17, 134, 21⟩ ⟨134, 23, 134, 25⟩, PySem.TErr.iB "at" ⟨135, 8, 135, 12⟩ ⟨135, 8, 135, 15⟩ ⟨135, 18, 135, 20⟩ ⟨135, 8, 135, 20⟩, PySem.TErr.iS "at", [], []⟩
def e33 : He.DefD := ⟨("InvalidSize", some "__init__"), "__init__", "InvalidSize.__init__", PySem.TErr.iA "word" ⟨138, 17, 138, 21⟩ ⟨138, 23, 138, 27⟩, PySem.TErr.iB "word" ⟨139, 8, 139, 12⟩ ⟨139, 8, 139, 17⟩ ⟨139, 20, 139, 24⟩ ⟨139, 8, 139, 24⟩, PySem.TErr.iS "word", [], []⟩
def e34 : He.DefD := ⟨("NoRobot", some "__init__"), "__init__", "NoRobot.__init__", PySem.TErr.iA "robot" ⟨142, 17, 142, 21⟩ ⟨142, 23, 142, 28⟩, PySem.TErr.iB "robot" ⟨143, 8, 143, 12⟩ ⟨143, 8, 143, 18⟩ ⟨143, 21, 143, 26⟩ ⟨143, 8, 143, 26⟩, PySem.TErr.iS "robot", [], []⟩
def fnL : List He.DefD := ([d0, d1, d2, d3, d4, d5, d6, d7, d8, d9, d10, d11, e0, e1, e2, e3, e4, e5, e6, e7, e8, e9, e10, e11, e12, e13, e14, e15, e16, e17] : List He.DefD) ++ ([e18, e19, e20, e21, e22, e23, e24, e25, e26, e27, e28, e29, e30, e31, e32, e33, e34] : List He.DefD)
def faL : List He.Fa := ([.glo "_law_box", .glo "_law_take", .glo "_law_pick", .glo "_law_raise_a", .glo "_law_raise_b", .glo "_law_raise_c", .glo "_law_raise", .glo "_law_caught_a", .glo "_law_caught_b", .glo "_law_caught_c", .glo "_law_is_base", .glo "law", .glo "InvalidText", .glo "InvalidHall", .glo "InvalidCell", .glo "InvalidLot", .glo "InvalidWays", .glo "InvalidWay", .glo "InvalidTies", .glo "InvalidBlocks", .glo "InvalidRobots", .glo "InvalidPlan", .glo "InvalidTask", .glo "InvalidOrders", .glo "InvalidStanding", .glo "InvalidHolds", .glo "InvalidLetter", .glo "InvalidBook", .glo "InvalidScript", .glo "InvalidStretches"] : List He.Fa) ++ ([.glo "InvalidTable", .glo "InvalidGoods", .glo "InvalidStock", .glo "InvalidDeeds", .glo "InvalidWants", .glo "InvalidComings", .glo "InvalidLots", .glo "InvalidLines", .glo "InvalidHomes", .glo "InvalidLanes", .glo "InvalidPrices", .glo "InvalidRoutes", .glo "InvalidPicture", .glo "InvalidIndex", .glo "Refused", .glo "InvalidSize", .glo "NoRobot", .glo "InvalidCommand", .glo "HallError", .free "int", .free "abs", .free "len", .free "range"] : List He.Fa)
def exL (K : PySem.W.Frag) : Bool := excB K "InvalidText" "at" && (excB K "InvalidHall" "at" && (excB K "InvalidCell" "at" && (excB K "InvalidLot" "at" && (excB K "InvalidWays" "at" && (excB K "InvalidWay" "at" && (excB K "InvalidTies" "at" && (excB K "InvalidBlocks" "at" && (excB K "InvalidRobots" "at" && (excB K "InvalidPlan" "at" && (excB K "InvalidTask" "at" && (excB K "InvalidOrders" "at" && (excB K "InvalidStanding" "at" && (excB K "InvalidHolds" "at" && (excB K "InvalidLetter" "at" && (excB K "InvalidBook" "at" && (excB K "InvalidScript" "at" && (excB K "InvalidStretches" "at" && (excB K "InvalidTable" "at" && (excB K "InvalidGoods" "at" && (excB K "InvalidStock" "at" && (excB K "InvalidDeeds" "at" && (excB K "InvalidWants" "at" && (excB K "InvalidComings" "at" && (excB K "InvalidLots" "at" && (excB K "InvalidLines" "at" && (excB K "InvalidHomes" "at" && (excB K "InvalidLanes" "at" && (excB K "InvalidPrices" "at" && (excB K "InvalidRoutes" "at" && (excB K "InvalidPicture" "at" && (excB K "InvalidIndex" "at" && (excB K "Refused" "at" && (excB K "InvalidSize" "word" && (excB K "NoRobot" "robot" && (bareB K "InvalidCommand" && (exB K nmT exT 36 37 && (true)))))))))))))))))))))))))))))))))))))
abbrev R : PySem.W.OpenRow := PySem.W.OpenLaw.row PySem.Challenge.rw_nobodymeets_k00_whole_errors_and_what_th
abbrev hk : PySem.W.Hook := hookY 5 faL fnL exL
def ob (s : PySem.W.SharedT) : AlY := obsY 5 faL fnL exL (HandSHeadRun.getT s)
theorem ob_eq (s : PySem.W.SharedT) : ob s = hk.obs s.abs := obsY_eq (HandSHeadRun.getT_eq s)
def looseL : List Str := (["HallError", "InvalidText", "InvalidHall", "InvalidCell", "InvalidLot", "InvalidWays", "InvalidWay", "InvalidTies", "InvalidBlocks", "InvalidRobots", "InvalidPlan", "InvalidTask", "InvalidOrders", "InvalidStanding", "InvalidHolds", "InvalidLetter", "InvalidBook", "InvalidScript", "InvalidStretches", "InvalidTable", "InvalidGoods", "InvalidStock", "InvalidDeeds", "InvalidWants", "InvalidComings", "InvalidLots", "InvalidLines", "InvalidHomes", "InvalidLanes", "InvalidPrices"] : List Str) ++ (["InvalidRoutes", "InvalidPicture", "InvalidIndex", "Refused", "InvalidSize", "NoRobot", "InvalidCommand", "_law_box", "_law_take", "_law_pick", "_law_raise_a", "_law_raise_b", "_law_raise_c", "_law_raise", "_law_caught_a", "_law_caught_b", "_law_caught_c", "_law_is_base"] : List Str)
theorem run (w : World) : HandSHeadRun.RunEq R (PySem.W.view R.prog [50]) hk ob 12000 looseL w := by
  intro os
  kernel_rfl
end M
set_option Elab.async false
set_option linter.all false
set_option maxRecDepth 100000
set_option maxHeartbeats 2000000
/-! A layer over HandS: plain data D, computations N that may raise or draw, objects known by what holds of them (Ty), the readings by data. -/
namespace M
open PySem L2

/-- plain data -/
inductive D where
  | non | bl (b : Bool) | int (i : Int) | str (s : Str) | tup (xs : List D) | ktup (xs : List D) | lst (xs : List D)
  | obj (c : Nat) (fs : List D)
  | dl (k : Nat)

/-- a computation by its weakest preconditions: k wants of the value, e of the error (its class's number, what it keeps) -/
structure N (α : Type) where
  wp : (α → Prop) → (Nat → D → Prop) → Prop
  mono : ∀ {k k' : α → Prop} {e e' : Nat → D → Prop}, (∀ a, k a → k' a) → (∀ c x, e c x → e' c x) → wp k e → wp k' e'
namespace N
def ok {α : Type} (a : α) : N α := ⟨fun k _ => k a, fun h _ q => h a q⟩
def err {α : Type} (c : Nat) (x : D) : N α := ⟨fun _ e => e c x, fun _ h q => h c x q⟩
def stuck {α : Type} : N α := ⟨fun _ _ => False, fun _ _ q => q⟩
def any {α : Type} (P : α → Prop) : N α := ⟨fun k _ => ∀ a, P a → k a, fun h _ q a p => h a (q a p)⟩
def bind {α β : Type} (n : N α) (f : α → N β) : N β := ⟨fun k e => n.wp (fun a => (f a).wp k e) e, fun h1 h2 q => n.mono (fun a z => (f a).mono h1 h2 z) h2 q⟩
def asrt (p : Prop) : N Unit := ⟨fun k _ => p ∧ k (), fun h _ q => ⟨q.1, h _ q.2⟩⟩
/-- what is raised is handed to h -/
def tryC {α : Type} (n : N α) (h : Nat → D → N α) : N α := ⟨fun k e => n.wp k (fun c x => (h c x).wp k e), fun h1 h2 q => n.mono h1 (fun c x z => (h c x).mono h1 h2 z) q⟩
@[simp] theorem ok_bind {α β : Type} (a : α) (f : α → N β) : (ok a).bind f = f a := rfl
@[simp] theorem err_bind {α β : Type} (c : Nat) (x : D) (f : α → N β) : (err c x : N α).bind f = err c x := rfl
theorem stuck_bind {α β : Type} (f : α → N β) : (stuck : N α).bind f = stuck := rfl
theorem bind_assoc {α β γ : Type} (n : N α) (f : α → N β) (g : β → N γ) : (n.bind f).bind g = n.bind fun a => (f a).bind g := rfl
theorem bind_ok {α : Type} (n : N α) : n.bind ok = n := rfl
def fail : N D → Prop := fun _ => True
end N

abbrev Ty := Addr → Option (HO → Prop)
/-- just this object -/
def is (o : HO) : HO → Prop := fun o' => o' = o
def updT (F : Ty) (a : Addr) (p : HO → Prop) : Ty := fun b => if b = a then some p else F b
theorem updT_same {F : Ty} {a : Addr} {p : HO → Prop} : updT F a p a = some p := by unfold updT; rw [if_pos rfl]
theorem updT_ne {F : Ty} {a b : Addr} {p : HO → Prop} (h : b ≠ a) : updT F a p b = F b := by unfold updT; rw [if_neg h]
def Ex (F F' : Ty) : Prop := ∀ a p, F a = some p → F' a = some p
theorem Ex.refl (F : Ty) : Ex F F := fun _ _ h => h
theorem Ex.trans {F F1 F2 : Ty} (a : Ex F F1) (b : Ex F1 F2) : Ex F F2 := fun x p h => b x p (a x p h)
/-- the heap keeps to what is known -/
def Okk (F : Ty) (H : Hp) : Prop := ∀ a p, F a = some p → ∃ o, H a = some o ∧ p o ∧ ((∃ xs, o = .tup xs) → p = is o)
structure Ext (F : Ty) (H : Hp) (F' : Ty) (H' : Hp) : Prop where
  ex : Ex F F'
  ok : Okk F' H'
  kp : ∀ a o, H a = some o → F a = none → H' a = some o ∧ (F' a = none ∨ (F' a = some (is o) ∧ ∃ xs, o = .tup xs))
theorem Ext.refl {F : Ty} {H : Hp} (h : Okk F H) : Ext F H F H := ⟨Ex.refl F, h, fun _ _ a b => ⟨a, .inl b⟩⟩
theorem Ext.trans {F F1 F2 : Ty} {H H1 H2 : Hp} (a : Ext F H F1 H1) (b : Ext F1 H1 F2 H2) : Ext F H F2 H2 :=
  ⟨a.ex.trans b.ex, b.ok, fun x o h n => by
    obtain ⟨h1, n1⟩ := a.kp x o h n
    rcases n1 with n1 | ⟨n1, t⟩
    · exact b.kp x o h1 n1
    · have k := b.ex _ _ n1
      obtain ⟨o', h2, e, _⟩ := b.ok _ _ k
      rw [show o' = o from e] at h2
      exact ⟨h2, .inr ⟨k, t⟩⟩⟩
theorem Okk.none {F : Ty} {H : Hp} (k : Okk F H) {a : Addr} (h : H a = none) : F a = none := by
  cases e : F a with
  | none => rfl
  | some p => obtain ⟨o, q, _⟩ := k a p e; rw [h] at q; cases q
/-- a new object is known -/
theorem Ext.new {F : Ty} {H : Hp} (k : Okk F H) {a : Addr} {o : HO} {p : HO → Prop} (h : H a = none) (hp : p o) (ht : (∃ xs, o = .tup xs) → p = is o := by exact fun _ => rfl) : Ext F H (updT F a p) (upd H a o) := by
  have n := k.none h
  refine ⟨fun b q e => ?_, fun b q e => ?_, fun b u e nb => ?_⟩
  · by_cases z : b = a
    · subst z; rw [n] at e; cases e
    · rw [updT_ne z]; exact e
  · by_cases z : b = a
    · subst z; rw [updT_same] at e; cases e; exact ⟨o, upd_same, hp, ht⟩
    · rw [updT_ne z] at e; rw [upd_ne z]; exact k b q e
  · have z : b ≠ a := fun z => by subst z; rw [h] at e; cases e
    rw [updT_ne z, upd_ne z]; exact ⟨e, .inl nb⟩
/-- a new object that stays unknown -/
theorem Ext.own {F : Ty} {H : Hp} (k : Okk F H) {a : Addr} {o : HO} (h : H a = none) : Ext F H F (upd H a o) := by
  have n := k.none h
  refine ⟨Ex.refl F, fun b q e => ?_, fun b u e nb => ?_⟩
  · have z : b ≠ a := fun z => by subst z; rw [n] at e; cases e
    rw [upd_ne z]; exact k b q e
  · have z : b ≠ a := fun z => by subst z; rw [h] at e; cases e
    rw [upd_ne z]; exact ⟨e, .inl nb⟩

/-- the text's facts that the relation of data needs -/
structure Zt where
  K : PySem.W.Frag
  cs : Nat → Addr
  fs : Nat → String
  at_ : Nat → List Str
  dl : Nat → Ty → Addr → Prop
  dlm : ∀ k F F' a, Ex F F' → dl k F a → dl k F' a

/-- known as u, or locked as u -/
def RdF (F : Ty) (a : Addr) (u : HO) : Prop := F a = some (is u) ∨ ∃ ob, F a = some (is (.frz ob u))
theorem RdF.ex {F F' : Ty} {a : Addr} {u : HO} (e : Ex F F') (r : RdF F a u) : RdF F' a u := by
  rcases r with r | ⟨ob, r⟩
  · exact .inl (e _ _ r)
  · exact .inr ⟨ob, e _ _ r⟩
theorem RdF.rd {F : Ty} {H : Hp} {a : Addr} {u : HO} (k : Okk F H) (r : RdF F a u) : Rd H a u := by
  rcases r with r | ⟨ob, r⟩
  · obtain ⟨o, h, q, _⟩ := k _ _ r
    rw [show o = u from q] at h
    exact .inl h
  · obtain ⟨o, h, q, _⟩ := k _ _ r
    rw [show o = .frz ob u from q] at h
    exact .inr ⟨ob, h⟩
def KT (K : PySem.W.Frag) (a : Addr) (xs : List V) : Prop := ∃ (o : Obj) (its : Array Value) (n : Nat), K.lookup a = some o ∧ o.cls = .type "tuple" ∧ o.data = .seq its n ∧ its.size ≤ sizeLine ∧ Vals xs its.toList
def KL (K : PySem.W.Frag) (a : Addr) (xs : List V) : Prop := ∃ (o : Obj) (its : Array Value) (n : Nat), K.lookup a = some o ∧ o.cls = .type "list" ∧ o.dict = none ∧ o.data = .seq its n ∧ its.size ≤ sizeLine ∧ Vals xs its.toList
def RL (K : PySem.W.Frag) (F : Ty) (a : Addr) (xs : List V) : Prop := RdF F a (.lst xs) ∨ KL K a xs
theorem RL.ex {K : PySem.W.Frag} {F F' : Ty} {a : Addr} {xs : List V} (e : Ex F F') (r : RL K F a xs) : RL K F' a xs := r.imp (RdF.ex e) id
theorem sqT_of {K : PySem.W.Frag} {F : Ty} {H : Hp} {a : Addr} {xs : List V} (k : Okk F H) (r : F a = some (is (.tup xs))) : SqT K H a xs := .inl (RdF.rd k (.inl r))
theorem tup_of {F : Ty} {H : Hp} {a : Addr} {o : HO} (k : Okk F H) (r : F a = some (is o)) : H a = some o := by
  obtain ⟨o', h, e, _⟩ := k _ _ r
  rw [show o' = o from e] at h
  exact h
theorem RL.sq {K : PySem.W.Frag} {F : Ty} {H : Hp} {a : Addr} {xs : List V} (k : Okk F H) (r : RL K F a xs) : SqL K H a xs := r.imp (RdF.rd k) id

mutual
/-- v, by what is known, is the datum d -/
inductive Rp (Z : Zt) (F : Ty) : V → D → Prop
  | non : Rp Z F .non .non
  | bl (b : Bool) : Rp Z F (.bl b) (.bl b)
  | int (i : Int) : Rp Z F (.int i) (.int i)
  | str (x : Str) : Rp Z F (.str x) (.str x)
  | tup {a : Addr} {xs : List V} {ds : List D} : F a = some (is (.tup xs)) → RpL Z F xs ds → Rp Z F (.ref a) (.tup ds)
  | ktup {a : Addr} {xs : List V} {ds : List D} : KT Z.K a xs → RpL Z F xs ds → Rp Z F (.ref a) (.ktup ds)
  | lst {a : Addr} {xs : List V} {ds : List D} : RL Z.K F a xs → RpL Z F xs ds → Rp Z F (.ref a) (.lst ds)
  | obj {a dx : Addr} {c : Nat} {xs : List V} {ds : List D} : F a = some (is (.ins (Z.cs c) dx ((Z.at_ c).zip xs))) → xs.length = (Z.at_ c).length → RpL Z F xs ds → Rp Z F (.ref a) (.obj c ds)
  | dl {a : Addr} {k : Nat} : Z.dl k F a → Rp Z F (.ref a) (.dl k)
inductive RpL (Z : Zt) (F : Ty) : List V → List D → Prop
  | nil : RpL Z F [] []
  | cons {v : V} {vs : List V} {d : D} {ds : List D} : Rp Z F v d → RpL Z F vs ds → RpL Z F (v :: vs) (d :: ds)
end
section
variable {Z : Zt} {F F' : Ty}
mutual
theorem Rp.ex (e : Ex F F') : ∀ {v : V} {d : D}, Rp Z F v d → Rp Z F' v d
  | _, _, .non => .non
  | _, _, .bl b => .bl b
  | _, _, .int i => .int i
  | _, _, .str x => .str x
  | _, _, .tup r l => .tup (e _ _ r) (RpL.ex e l)
  | _, _, .ktup r l => .ktup r (RpL.ex e l)
  | _, _, .lst r l => .lst (r.ex e) (RpL.ex e l)
  | _, _, .obj r n l => .obj (e _ _ r) n (RpL.ex e l)
  | _, _, .dl r => .dl (Z.dlm _ _ _ _ e r)
theorem RpL.ex (e : Ex F F') : ∀ {vs : List V} {ds : List D}, RpL Z F vs ds → RpL Z F' vs ds
  | _, _, .nil => .nil
  | _, _, .cons r l => .cons (Rp.ex e r) (RpL.ex e l)
end
theorem RpL.length : ∀ {vs : List V} {ds : List D}, RpL Z F vs ds → vs.length = ds.length
  | _, _, .nil => rfl
  | _, _, .cons _ l => by rw [List.length_cons, List.length_cons, RpL.length l]
theorem RpL.get : ∀ {vs : List V} {ds : List D} {i : Nat} {d : D}, RpL Z F vs ds → ds[i]? = some d → ∃ v, vs[i]? = some v ∧ Rp Z F v d
  | _, _, 0, _, .cons r _, e => by simp at e; subst e; exact ⟨_, rfl, r⟩
  | _, _, i + 1, _, .cons _ l, e => by
    obtain ⟨v, h1, h2⟩ := RpL.get (i := i) l (by simpa using e)
    exact ⟨v, by simpa using h1, h2⟩
theorem RpL.getV : ∀ {vs : List V} {ds : List D} {i : Nat} {v : V}, RpL Z F vs ds → vs[i]? = some v → ∃ d, ds[i]? = some d ∧ Rp Z F v d
  | _, _, 0, _, .cons r _, e => by simp at e; subst e; exact ⟨_, rfl, r⟩
  | _, _, i + 1, _, .cons _ l, e => by
    obtain ⟨v, h1, h2⟩ := RpL.getV (i := i) l (by simpa using e)
    exact ⟨v, by simpa using h1, h2⟩
theorem RpL.append : ∀ {vs ws : List V} {ds es : List D}, RpL Z F vs ds → RpL Z F ws es → RpL Z F (vs ++ ws) (ds ++ es)
  | _, _, _, _, .nil, q => q
  | _, _, _, _, .cons r l, q => .cons r (RpL.append l q)
theorem RpL.take : ∀ {vs : List V} {ds : List D} (n : Nat), RpL Z F vs ds → RpL Z F (vs.take n) (ds.take n)
  | _, _, 0, _ => .nil
  | _, _, _ + 1, .nil => .nil
  | _, _, n + 1, .cons r l => .cons r (RpL.take n l)
theorem RpL.drop : ∀ {vs : List V} {ds : List D} (n : Nat), RpL Z F vs ds → RpL Z F (vs.drop n) (ds.drop n)
  | _, _, 0, q => q
  | _, _, _ + 1, .nil => .nil
  | _, _, n + 1, .cons _ l => RpL.drop n l
theorem RpL.reverse : ∀ {vs : List V} {ds : List D}, RpL Z F vs ds → RpL Z F vs.reverse ds.reverse
  | _, _, .nil => .nil
  | _, _, .cons r l => by rw [List.reverse_cons, List.reverse_cons]; exact RpL.append (RpL.reverse l) (.cons r .nil)
theorem RpL.set : ∀ {vs : List V} {ds : List D} (n : Nat) {v : V} {d : D}, RpL Z F vs ds → Rp Z F v d → RpL Z F (vs.set n v) (ds.set n d)
  | _, _, _, _, _, .nil, _ => .nil
  | _, _, 0, _, _, .cons _ l, q => .cons q l
  | _, _, n + 1, _, _, .cons r l, q => .cons r (RpL.set n l q)
end

/-- an error in the air: its class's number, what it keeps -/
def Keeps (Z : Zt) (F : Ty) (f : String) (x : D) (dd : Option Addr) : Prop := (f = "" ∧ x = .non) ∨ (f ≠ "" ∧ ∃ d v, dd = some d ∧ F d = some (is (.xd [(PySem.Str.ofString f, v)])) ∧ Rp Z F v x)
theorem Keeps.ex {Z : Zt} {F F' : Ty} (e : Ex F F') {f : String} {x : D} {dd : Option Addr} (h : Keeps Z F f x dd) : Keeps Z F' f x dd := by
  rcases h with h | ⟨n, d, v, h1, h2, r⟩
  · exact .inl h
  · exact .inr ⟨n, d, v, h1, e _ _ h2, r.ex e⟩
theorem fld_ne {f : String} (h : PySem.TErr.Fld f) : f ≠ "" := by
  rcases h with rfl | rfl | rfl <;> decide
def ErrIs (Z : Zt) (F : Ty) (c : Nat) (x : D) (cls : Value) (dd : Option Addr) : Prop := cls = .ref (Z.cs c) ∧ Keeps Z F (Z.fs c) x dd

/-- what a local holds that is changed in place -/
inductive Ce where
  | lst (ds : List D)
  | dK (kvs : List (Key × D))
  | dT (kvs : List (List Key × D))
def RpKV {κ : Type} (Z : Zt) (F : Ty) (vs : List (κ × V)) (ds : List (κ × D)) : Prop := vs.map (·.1) = ds.map (·.1) ∧ RpL Z F (vs.map (·.2)) (ds.map (·.2))
def Cell (Z : Zt) (F : Ty) : Ce → HO → Prop
  | .lst ds, o => ∃ vs, o = .lst vs ∧ RpL Z F vs ds
  | .dK kvs, o => ∃ vs, o = .dK vs ∧ RpKV Z F vs kvs
  | .dT kvs, o => ∃ vs, o = .dT vs ∧ RpKV Z F vs kvs
theorem Cell.ex {Z : Zt} {F F' : Ty} (e : Ex F F') {c : Ce} {o : HO} (h : Cell Z F c o) : Cell Z F' c o := by
  cases c with
  | lst ds => obtain ⟨vs, q, r⟩ := h; exact ⟨vs, q, r.ex e⟩
  | dK ds => obtain ⟨vs, q, n, r⟩ := h; exact ⟨vs, q, n, r.ex e⟩
  | dT ds => obtain ⟨vs, q, n, r⟩ := h; exact ⟨vs, q, n, r.ex e⟩
theorem Cell.notTup {Z : Zt} {F : Ty} {c : Ce} {xs : List V} (h : Cell Z F c (.tup xs)) : False := by
  cases c with
  | lst ds => obtain ⟨vs, q, r⟩ := h; cases q
  | dK ds => obtain ⟨vs, q, n, r⟩ := h; cases q
  | dT ds => obtain ⟨vs, q, n, r⟩ := h; cases q
/-- what is said of a slot -/
inductive Sl where
  | un
  | dat (d : D)
  | own (c : Ce)
  | exc (a : Addr) (d : Option Addr) (f : String) (x : D)
structure Bs where
  F : Ty
  H : Hp
  Fe : Ty
def SlOk (Z : Zt) (B : Bs) (F : Ty) (H : Hp) : Sl → Option (Option V) → Prop
  | .un, _ => True
  | .dat d, o => ∃ v, o = some (some v) ∧ Rp Z F v d
  | .exc a d f x, o => o = some (some (.ref a)) ∧ Keeps Z F f x d
  | .own c, o => ∃ l u, o = some (some (.ref l)) ∧ H l = some u ∧ F l = none ∧ B.H l = none ∧ Cell Z F c u
structure At (Z : Zt) (B : Bs) (S : List Sl) (F : Ty) (σ : St) (H : Hp) : Prop where
  ext : Ext B.F B.H F H
  fe : Ex B.Fe F
  len : σ.length = S.length
  sl : ∀ (i : Nat) (s : Sl), S[i]? = some s → SlOk Z B F H s σ[i]?
  dis : ∀ (i j : Nat) (l : Addr) (c c' : Ce), S[i]? = some (.own c) → S[j]? = some (.own c') → σ[i]? = some (some (.ref l)) → σ[j]? = some (some (.ref l)) → i = j
section
variable {Z : Zt} {B : Bs} {S : List Sl} {F F' : Ty} {σ : St} {H H' : Hp}
theorem At.ok (h : At Z B S F σ H) : Okk F H := h.ext.ok
theorem SlOk.ext (e : Ext F H F' H') {s : Sl} {o : Option (Option V)} (h : SlOk Z B F H s o) : SlOk Z B F' H' s o := by
  cases s with
  | un => trivial
  | dat d => obtain ⟨v, q, r⟩ := h; exact ⟨v, q, r.ex e.ex⟩
  | exc a d f x => exact ⟨h.1, h.2.ex e.ex⟩
  | own c =>
    obtain ⟨l, u, q, h1, n, b, r⟩ := h
    obtain ⟨h2, n2⟩ := e.kp l u h1 n
    rcases n2 with n2 | ⟨_, xs, hx⟩
    · exact ⟨l, u, q, h2, n2, b, r.ex e.ex⟩
    · subst hx
      exact (Cell.notTup r).elim
theorem At.go (h : At Z B S F σ H) (e : Ext F H F' H') : At Z B S F' σ H' := ⟨h.ext.trans e, h.fe.trans e.ex, h.len, fun i s q => (h.sl i s q).ext e, h.dis⟩
theorem At.dat (h : At Z B S F σ H) {i : Nat} {d : D} (hi : S[i]? = some (.dat d)) : ∃ v, σ[i]? = some (some v) ∧ Rp Z F v d := h.sl i _ hi
theorem At.lt (h : At Z B S F σ H) {i : Nat} {s : Sl} (hi : S[i]? = some s) : i < σ.length := by
  rw [h.len]; exact (List.getElem?_eq_some_iff.mp hi).1
/-- a slot is filled with data -/
theorem At.set (h : At Z B S F σ H) {i : Nat} {v : V} {d : D} (r : Rp Z F v d) : At Z B (S.set i (.dat d)) F (σ.set i (some v)) H := by
  refine ⟨h.ext, h.fe, by rw [List.length_set, List.length_set]; exact h.len, fun j s q => ?_, fun j k l c c' q1 q2 e1 e2 => ?_⟩
  · by_cases z : i = j
    · subst z
      have hj : i < S.length := by
        have := (List.getElem?_eq_some_iff.mp q).1
        rwa [List.length_set] at this
      rw [List.getElem?_set_self hj] at q
      cases q
      refine ⟨v, ?_, r⟩
      rw [List.getElem?_set_self (by rw [h.len]; exact hj)]
    · rw [List.getElem?_set_ne z] at q
      rw [List.getElem?_set_ne z]
      exact h.sl j s q
  · have nj : i ≠ j := fun z => by
      subst z
      have hj : i < S.length := by
        have := (List.getElem?_eq_some_iff.mp q1).1
        rwa [List.length_set] at this
      rw [List.getElem?_set_self hj] at q1; cases q1
    have nk : i ≠ k := fun z => by
      subst z
      have hj : i < S.length := by
        have := (List.getElem?_eq_some_iff.mp q2).1
        rwa [List.length_set] at this
      rw [List.getElem?_set_self hj] at q2; cases q2
    rw [List.getElem?_set_ne nj] at q1 e1
    rw [List.getElem?_set_ne nk] at q2 e2
    exact h.dis j k l c c' q1 q2 e1 e2
theorem Ext.live {F F' : Ty} {H H' : Hp} (e : Ext F H F' H') {a : Addr} {o : HO} (h : H a = some o) : ∃ o', H' a = some o' := by
  cases q : F a with
  | none => exact ⟨o, (e.kp a o h q).1⟩
  | some p =>
    obtain ⟨o', h2, _⟩ := e.ok _ _ (e.ex _ _ q)
    exact ⟨o', h2⟩
theorem At.fresh (h : At Z B S F σ H) {p : Addr} (n : H p = none) : B.H p = none := by
  cases q : B.H p with
  | none => rfl
  | some o =>
    obtain ⟨o', h2⟩ := h.ext.live q
    rw [n] at h2; cases h2
/-- a slot gets a new thing that is to be changed in place -/
theorem At.newOwn (h : At Z B S F σ H) {i : Nat} {p : Addr} {c : Ce} {u : HO} (n : H p = none) (hc : Cell Z F c u) : At Z B (S.set i (.own c)) F (σ.set i (some (.ref p))) (upd H p u) := by
  have e1 : Ext F H F (upd H p u) := Ext.own h.ok n
  have hg := h.go e1
  have bn := h.fresh n
  refine ⟨hg.ext, hg.fe, by rw [List.length_set, List.length_set]; exact h.len, fun j s q => ?_, fun j k l c c' q1 q2 e1 e2 => ?_⟩
  · by_cases z : i = j
    · subst z
      have hj : i < S.length := by
        have := (List.getElem?_eq_some_iff.mp q).1
        rwa [List.length_set] at this
      rw [List.getElem?_set_self hj] at q
      cases q
      rw [List.getElem?_set_self (by rw [h.len]; exact hj)]
      exact ⟨p, u, rfl, upd_same, h.ok.none n, bn, hc⟩
    · rw [List.getElem?_set_ne z] at q
      rw [List.getElem?_set_ne z]
      exact hg.sl j s q
  · have old : ∀ (m : Nat) (c : Ce), i ≠ m → S[m]? = some (.own c) → σ[m]? = some (some (.ref p)) → False := fun m c hm q1 q2 => by
      obtain ⟨l', u', e, hu, _⟩ := h.sl m _ q1
      rw [q2] at e
      cases e
      rw [n] at hu; cases hu
    by_cases zj : i = j
    · by_cases zk : i = k
      · exact zj.symm.trans zk
      · exfalso
        subst zj
        have hj : i < S.length := by
          have := (List.getElem?_eq_some_iff.mp q1).1
          rwa [List.length_set] at this
        rw [List.getElem?_set_self (by rw [h.len]; exact hj)] at e1
        cases e1
        rw [List.getElem?_set_ne zk] at q2 e2
        exact old k _ zk q2 e2
    · by_cases zk : i = k
      · exfalso
        subst zk
        have hj : i < S.length := by
          have := (List.getElem?_eq_some_iff.mp q2).1
          rwa [List.length_set] at this
        rw [List.getElem?_set_self (by rw [h.len]; exact hj)] at e2
        cases e2
        rw [List.getElem?_set_ne zj] at q1 e1
        exact old j _ zj q1 e1
      · rw [List.getElem?_set_ne zj] at q1 e1
        rw [List.getElem?_set_ne zk] at q2 e2
        exact h.dis j k l c c' q1 q2 e1 e2
/-- it is changed -/
theorem At.put (h : At Z B S F σ H) {i : Nat} {l : Addr} {c c' : Ce} {u : HO} (hi : S[i]? = some (.own c)) (hl : σ[i]? = some (some (.ref l))) (hc : Cell Z F c' u) : At Z B (S.set i (.own c')) F σ (upd H l u) := by
  obtain ⟨l', u', e, hu, nF, nB, _⟩ := h.sl i _ hi
  rw [hl] at e
  cases e
  have hil := (List.getElem?_eq_some_iff.mp hi).1
  refine ⟨⟨h.ext.ex, fun a p q => ?_, fun a o q n => ?_⟩, h.fe, by rw [List.length_set]; exact h.len, fun j s q => ?_, fun j k m c1 c2 q1 q2 e1 e2 => ?_⟩
  · have z : a ≠ l := fun z => by subst z; rw [nF] at q; cases q
    rw [upd_ne z]; exact h.ok a p q
  · have z : a ≠ l := fun z => by subst z; rw [nB] at q; cases q
    rw [upd_ne z]; exact h.ext.kp a o q n
  · by_cases z : i = j
    · subst z
      rw [List.getElem?_set_self hil] at q
      cases q
      exact ⟨l, u, hl, upd_same, nF, nB, hc⟩
    · rw [List.getElem?_set_ne z] at q
      have := h.sl j s q
      cases s with
      | un => trivial
      | dat d => exact this
      | exc a d f x => exact this
      | own c =>
        obtain ⟨m, w, e, hw, n1, n2, hcm⟩ := this
        have nm : m ≠ l := fun y => by
          subst y
          exact z (h.dis i j m _ _ hi q hl e)
        exact ⟨m, w, e, by rw [upd_ne nm]; exact hw, n1, n2, hcm⟩
  · have g1 : ∃ c, S[j]? = some (.own c) := by
      by_cases z : i = j
      · subst z; exact ⟨_, hi⟩
      · rw [List.getElem?_set_ne z] at q1; exact ⟨_, q1⟩
    have g2 : ∃ c, S[k]? = some (.own c) := by
      by_cases z : i = k
      · subst z; exact ⟨_, hi⟩
      · rw [List.getElem?_set_ne z] at q2; exact ⟨_, q2⟩
    obtain ⟨_, g1⟩ := g1
    obtain ⟨_, g2⟩ := g2
    exact h.dis j k m _ _ g1 g2 e1 e2
/-- a list that is no more changed becomes data -/
theorem At.freeze (h : At Z B S F σ H) {i : Nat} {ds : List D} (hi : S[i]? = some (.own (.lst ds))) : ∃ F', Ex F F' ∧ At Z B (S.set i (.dat (.lst ds))) F' σ H := by
  obtain ⟨l, u, e, hu, nF, nB, vs, eu, r⟩ := h.sl i _ hi
  subst eu
  have hil := (List.getElem?_eq_some_iff.mp hi).1
  have ex' : Ex F (updT F l (is (.lst vs))) := fun b p z => by
    by_cases hb : b = l
    · subst hb; rw [nF] at z; cases z
    · rw [updT_ne hb]; exact z
  refine ⟨updT F l (is (.lst vs)), ex', ⟨h.ext.ex.trans ex', fun a p q => ?_, fun a o q n => ?_⟩, h.fe.trans ex', by rw [List.length_set]; exact h.len, fun j s q => ?_, fun j k m c1 c2 q1 q2 e1 e2 => ?_⟩
  · by_cases z : a = l
    · subst z; rw [updT_same] at q; cases q; exact ⟨_, hu, rfl, fun _ => rfl⟩
    · rw [updT_ne z] at q; exact h.ok a p q
  · have z : a ≠ l := fun z => by subst z; rw [nB] at q; cases q
    rw [updT_ne z]; exact h.ext.kp a o q n
  · by_cases z : i = j
    · subst z
      rw [List.getElem?_set_self hil] at q
      cases q
      exact ⟨.ref l, e, .lst (.inl (.inl updT_same)) (r.ex ex')⟩
    · rw [List.getElem?_set_ne z] at q
      have := h.sl j s q
      cases s with
      | un => trivial
      | dat d => obtain ⟨v, h1, h2⟩ := this; exact ⟨v, h1, h2.ex ex'⟩
      | exc a d f x => exact ⟨this.1, this.2.ex ex'⟩
      | own c =>
        obtain ⟨m, w, em, hw, n1, n2, hcm⟩ := this
        have nm : m ≠ l := fun y => by
          subst y
          exact z (h.dis i j m _ _ hi q e em)
        exact ⟨m, w, em, hw, by rw [updT_ne nm]; exact n1, n2, hcm.ex ex'⟩
  · have g : ∀ (k : Nat) (c : Ce), (S.set i (.dat (.lst ds)))[k]? = some (Sl.own c) → S[k]? = some (Sl.own c) := fun k c q => by
      by_cases z : i = k
      · subst z; rw [List.getElem?_set_self hil] at q; cases q
      · rw [List.getElem?_set_ne z] at q; exact q
    exact h.dis j k m _ _ (g _ _ q1) (g _ _ q2) e1 e2
/-- less is said -/
inductive Wk : List Sl → List Sl → Prop
  | nil : Wk [] []
  | un {s : Sl} {S S' : List Sl} : Wk S S' → Wk (s :: S) (.un :: S')
  | same {s : Sl} {S S' : List Sl} : Wk S S' → Wk (s :: S) (s :: S')
theorem Wk.refl : ∀ S : List Sl, Wk S S
  | [] => .nil
  | _ :: S => .same (Wk.refl S)
theorem Wk.len : ∀ {S S' : List Sl}, Wk S S' → S.length = S'.length
  | _, _, .nil => rfl
  | _, _, .un w => by rw [List.length_cons, List.length_cons, Wk.len w]
  | _, _, .same w => by rw [List.length_cons, List.length_cons, Wk.len w]
theorem Wk.get : ∀ {S S' : List Sl} {i : Nat} {s : Sl}, Wk S S' → S'[i]? = some s → s = .un ∨ S[i]? = some s
  | _, _, 0, _, .un _, e => by simp at e; exact .inl e.symm
  | _, _, 0, _, .same _, e => by simp at e; subst e; exact .inr rfl
  | _, _, i + 1, _, .un w, e => by
    rcases Wk.get (i := i) w (by simpa using e) with h | h
    · exact .inl h
    · exact .inr (by simpa using h)
  | _, _, i + 1, _, .same w, e => by
    rcases Wk.get (i := i) w (by simpa using e) with h | h
    · exact .inl h
    · exact .inr (by simpa using h)
theorem At.weak {S' : List Sl} (h : At Z B S F σ H) (w : Wk S S') : At Z B S' F σ H := by
  refine ⟨h.ext, h.fe, h.len.trans w.len, fun i s q => ?_, fun i j l c c' q1 q2 => ?_⟩
  · rcases w.get q with e | e
    · subst e; trivial
    · exact h.sl i s e
  · rcases w.get q1 with e | e
    · cases e
    · rcases w.get q2 with e2 | e2
      · cases e2
      · exact h.dis i j l c c' e e2
end

/-- where a body stands: the text's facts, the entry, what is wished of errors, and of the slots then -/
structure Gx where
  Z : Zt
  B : Bs
  W : WX
  Se : List Sl
def Gx.Er (G : Gx) (c : Nat) (x : D) : Prop := ∀ cls dd F σ H, At G.Z G.B G.Se F σ H → ErrIs G.Z F c x cls dd → G.W cls dd σ H
section
variable (G : Gx) (S : List Sl)
def eV (n : N D) : TE := fun σ H Q => ∃ F, At G.Z G.B S F σ H ∧ n.wp (fun d => ∀ v F' H', Ext F H F' H' → Rp G.Z F' v d → Q v H') G.Er
def tV (n : N Bool) : TT := fun σ H Q => ∃ F, At G.Z G.B S F σ H ∧ n.wp (fun b => ∀ F' H', Ext F H F' H' → Q b H') G.Er
def aV (n : N (List D)) : TA := fun σ H Q => ∃ F, At G.Z G.B S F σ H ∧ n.wp (fun ds => ∀ vs F' H', Ext F H F' H' → RpL G.Z F' vs ds → Q vs H') G.Er
end
/-- how a block ends: on, handing back, out of the loop, on with the loop -/
inductive Fl (τ β : Type) where
  | nx (t : τ) | rt (d : D) | bk (b : β) | ct (b : β)
section
variable (G : Gx) (S : List Sl)
def flP {τ β : Type} (F0 : Ty) (sl : τ → List Sl) (sb : β → List Sl) (E : Ends) : Fl τ β → Prop
  | .nx t => ∀ F σ H, Ex F0 F → At G.Z G.B (sl t) F σ H → E.nx σ H
  | .bk t => ∀ F σ H, Ex F0 F → At G.Z G.B (sb t) F σ H → E.bk σ H
  | .ct t => ∀ F σ H, Ex F0 F → At G.Z G.B (sb t) F σ H → E.ct σ H
  | .rt d => ∀ v F H, Ext G.B.F G.B.H F H → Rp G.Z F v d → E.rt v H
def sV {τ β : Type} (sl : τ → List Sl) (sb : β → List Sl) (n : N (Fl τ β)) : TS := fun E σ H => ∃ F, At G.Z G.B S F σ H ∧ n.wp (flP G F sl sb E) G.Er
theorem flP.ex {τ β : Type} {F0 F1 : Ty} {sl : τ → List Sl} {sb : β → List Sl} {E : Ends} (e : Ex F0 F1) {f : Fl τ β} (h : flP G F0 sl sb E f) : flP G F1 sl sb E f := by
  cases f with
  | nx t => exact fun F σ H e1 A => h F σ H (e.trans e1) A
  | bk t => exact fun F σ H e1 A => h F σ H (e.trans e1) A
  | ct t => exact fun F σ H e1 A => h F σ H (e.trans e1) A
  | rt d => exact h
end

theorem PE.imp {X : Cx} {e : Expr} {t t' : TE} (h : PE X e t) (i : ∀ σ H Q, t' σ H Q → t σ H Q) : PE X e t' := ⟨fun pins s σ H Q I q => h.run pins s σ H Q I (i σ H Q q)⟩
theorem PT.imp {X : Cx} {e : Expr} {t t' : TT} (h : PT X e t) (i : ∀ σ H Q, t' σ H Q → t σ H Q) : PT X e t' := ⟨fun pins s σ H Q I q => h.run pins s σ H Q I (i σ H Q q)⟩
theorem PW.imp {X : Cx} {e : Expr} {t t' : TT} (h : PW X e t) (i : ∀ σ H Q, t' σ H Q → t σ H Q) : PW X e t' := ⟨fun w pins s σ H Q I q => h.run w pins s σ H Q I (i σ H Q q)⟩
theorem PA.imp {X : Cx} {e : List Expr} {t t' : TA} (h : PA X e t) (i : ∀ σ H Q, t' σ H Q → t σ H Q) : PA X e t' := ⟨fun pos pins s σ H Q I q => h.run pos pins s σ H Q I (i σ H Q q)⟩
theorem PK.imp {X : Cx} {e : List Keyword} {t t' : TA} (h : PK X e t) (i : ∀ σ H Q, t' σ H Q → t σ H Q) : PK X e t' := ⟨fun pos pins s σ H Q I q => h.run pos pins s σ H Q I (i σ H Q q)⟩
theorem PS.imp {X : Cx} {e : Stmt} {t t' : TS} (h : PS X e t) (i : ∀ E σ H, t' E σ H → t E σ H) : PS X e t' := ⟨fun pins s σ H E I q => h.run pins s σ H E I (i E σ H q)⟩
theorem PSs.imp {X : Cx} {e : List Stmt} {t t' : TS} (h : PSs X e t) (i : ∀ E σ H, t' E σ H → t E σ H) : PSs X e t' := ⟨fun pins s σ H E I q => h.run pins s σ H E I (i E σ H q)⟩

/-! ### expressions -/
section
variable {X : Cx} {G : Gx} {S : List Sl} {a b c : Expr} {na nb nc : N D} {pos : Pos}

theorem de_var {i : Nat} {x : Str} {d : D} (hi : S[i]? = some (.dat d) := by rfl) (hN : X.N[i]? = some x := by rfl) (hv : Vis X.env.scope x := by first | exact Or.inl rfl | exact Or.inr (Or.inl rfl) | exact Or.inr (Or.inr rfl))
    (hd : (x == ("__debug__" : Str)) = false := by decide) (hcd : (x == ("__classdict__" : Str)) = false := by decide) : PE X (.Name x pos) (eV G S (.ok d)) :=
  PE.imp (pe_var (i := i) hN hv hd hcd) fun σ H Q ⟨F, A, q⟩ => by
    obtain ⟨v, h, r⟩ := A.dat hi
    exact ⟨v, h, q v F H (Ext.refl A.ok) r⟩
theorem de_c {e : Expr} {v : V} {d : D} (h : PE X e (tC v)) (r : ∀ F, Rp G.Z F v d) : PE X e (eV G S (.ok d)) := PE.imp h fun σ H Q ⟨F, A, q⟩ => q v F H (Ext.refl A.ok) (r F)
theorem de_int {i j} : PE X (.Constant (.int i) j pos) (eV G S (.ok (.int i))) := de_c pe_int fun _ => .int _
theorem de_bl {i j} : PE X (.Constant (.bool i) j pos) (eV G S (.ok (.bl i))) := de_c pe_bl fun _ => .bl _
theorem de_str {i j} : PE X (.Constant (.str i) j pos) (eV G S (.ok (.str i))) := de_c pe_str fun _ => .str _
theorem de_non {j} : PE X (.Constant .none j pos) (eV G S (.ok .non)) := de_c pe_non fun _ => .non

/-- what a two-place operation on values does by data -/
def R2D (G : Gx) (r : R2) (op : D → D → N D) : Prop := ∀ (F : Ty) (H : Hp) (x y : D) (v u : V) (Q : VK), Okk F H → Rp G.Z F v x → Rp G.Z F u y →
  (op x y).wp (fun d => ∀ w F' H', Ext F H F' H' → Rp G.Z F' w d → Q w H') (fun _ _ => False) → r v u H Q
def R1D (G : Gx) (r : V → Hp → VK → Prop) (op : D → N D) : Prop := ∀ (F : Ty) (H : Hp) (x : D) (v : V) (Q : VK), Okk F H → Rp G.Z F v x →
  (op x).wp (fun d => ∀ w F' H', Ext F H F' H' → Rp G.Z F' w d → Q w H') (fun _ _ => False) → r v H Q
def RCD (G : Gx) (r : List V → Hp → VK → Prop) (op : List D → N D) : Prop := ∀ (F : Ty) (H : Hp) (xs : List D) (vs : List V) (Q : VK), Okk F H → RpL G.Z F vs xs →
  (op xs).wp (fun d => ∀ w F' H', Ext F H F' H' → Rp G.Z F' w d → Q w H') (fun _ _ => False) → r vs H Q
/-- no error of its own -/
def Tot {α : Type} (n : N α) : Prop := ∀ (k : α → Prop) (e : Nat → D → Prop), n.wp k e → n.wp k (fun _ _ => False)

theorem op_run {G : Gx} {S : List Sl} {ta tb : TE} {r : R2} {op : D → D → N D} (hr : R2D G r op) (ht : ∀ x y, Tot (op x y)) {σ : St} {H : Hp} {Q : VK}
    (h : eV G S (na.bind fun x => nb.bind fun y => op x y) σ H Q) : eV G S na σ H fun v H1 => eV G S nb σ H1 fun u H2 => r v u H2 Q := by
  obtain ⟨F, A, q⟩ := h
  refine ⟨F, A, na.mono (fun x q1 v F1 H1 e1 r1 => ?_) (fun _ _ z => z) q⟩
  have A1 := A.go e1
  refine ⟨F1, A1, nb.mono (fun y q2 u F2 H2 e2 r2 => ?_) (fun _ _ z => z) q1⟩
  refine hr F2 H2 x y v u Q (A1.go e2).ok (r1.ex e2.ex) r2 ((op x y).mono (fun d q3 w F3 H3 e3 r3 => q3 w F3 H3 ((e1.trans e2).trans e3) r3) (fun _ _ z => z) (ht x y _ _ q2))
theorem de_op {op : Operator} {r : R2} {o : D → D → N D} (ho : OpR X (binaryOp op) r) (hr : R2D G r o) (ht : ∀ x y, Tot (o x y)) (ha : PE X a (eV G S na)) (hb : PE X b (eV G S nb)) :
    PE X (.BinOp a op b pos) (eV G S (na.bind fun x => nb.bind fun y => o x y)) := PE.imp (pe_op ho ha hb) fun _ _ _ h => op_run (ta := eV G S na) (tb := eV G S nb) hr ht h
theorem de_cmp {op : CmpOp} {r : R2} {o : D → D → N D} (ho : OpR X (compareOp op) r) (hr : R2D G r o) (ht : ∀ x y, Tot (o x y)) (ha : PE X a (eV G S na)) (hb : PE X b (eV G S nb)) (hm : behindInMarks op b = false) :
    PE X (.Compare a [op] [b] pos) (eV G S (na.bind fun x => nb.bind fun y => o x y)) := PE.imp (pe_cmpR ho ha hb hm) fun _ _ _ h => op_run (ta := eV G S na) (tb := eV G S nb) hr ht h
theorem de_ix {r : R2} {o : D → D → N D} (ho : IxR X r) (hr : R2D G r o) (ht : ∀ x y, Tot (o x y)) (ha : PE X a (eV G S na)) (hb : PE X b (eV G S nb)) (hs : PlainIx b := by exact fun _ _ => rfl) :
    PE X (.Subscript a b pos) (eV G S (na.bind fun x => nb.bind fun y => o x y)) := PE.imp (pe_ix ho ha hb hs) fun _ _ _ h => op_run (ta := eV G S na) (tb := eV G S nb) hr ht h
theorem de_un {op : UnaryOp} {r : V → Hp → VK → Prop} {o : D → N D} (ho : UnR X (unaryOp op) r) (hr : R1D G r o) (ht : ∀ x, Tot (o x)) (ha : PE X a (eV G S na)) : PE X (.UnaryOp op a pos) (eV G S (na.bind o)) :=
  PE.imp (pe_un ho ha) fun σ H Q ⟨F, A, q⟩ => ⟨F, A, na.mono (fun x q1 v F1 H1 e1 r1 => hr F1 H1 x v Q (A.go e1).ok r1 ((o x).mono (fun d q2 w F2 H2 e2 r2 => q2 w F2 H2 (e1.trans e2) r2) (fun _ _ z => z) (ht x _ _ q1))) (fun _ _ z => z) q⟩

/-! arguments -/
theorem da_nil : PA X [] (aV G S (.ok [])) := PA.imp pa_nil fun σ H Q ⟨F, A, q⟩ => q [] F H (Ext.refl A.ok) .nil
theorem cons_run {na : N D} {nr : N (List D)} {σ : St} {H : Hp} {Q : List V → Hp → Prop} (h : aV G S (na.bind fun x => nr.bind fun xs => .ok (x :: xs)) σ H Q) :
    tCons (eV G S na) (aV G S nr) σ H Q := by
  obtain ⟨F, A, q⟩ := h
  refine ⟨F, A, na.mono (fun x q1 v F1 H1 e1 r1 => ?_) (fun _ _ z => z) q⟩
  refine ⟨F1, A.go e1, nr.mono (fun xs q2 vs F2 H2 e2 r2 => ?_) (fun _ _ z => z) q1⟩
  exact q2 (v :: vs) F2 H2 (e1.trans e2) (.cons (r1.ex e2.ex) r2)
theorem da_cons {es : List Expr} {nr : N (List D)} (ha : PE X a (eV G S na)) (hr : PA X es (aV G S nr)) (hs : starEach (a :: es) X.env = (false, eval a X.env) :: starEach es X.env := by rfl) :
    PA X (a :: es) (aV G S (na.bind fun x => nr.bind fun xs => .ok (x :: xs))) := PA.imp (pa_cons ha hr hs) fun _ _ _ h => cons_run h
theorem dk_nil : PK X [] (aV G S (.ok [])) := PK.imp pk_nil fun σ H Q ⟨F, A, q⟩ => q [] F H (Ext.refl A.ok) .nil
theorem dk_cons {es : List Keyword} {nr : N (List D)} {nm : Option Str} {kpos : Pos} (ha : PE X a (eV G S na)) (hr : PK X es (aV G S nr)) :
    PK X (⟨nm, a, kpos⟩ :: es) (aV G S (na.bind fun x => nr.bind fun xs => .ok (x :: xs))) := PK.imp (pk_cons ha hr) fun _ _ _ h => cons_run h
def N.le1 {α : Type} (xs : List α) : N Unit := N.asrt (xs.length ≤ sizeLine)
theorem de_tup {es : List Expr} {n : N (List D)} {x1} (h : PA X es (aV G S n)) : PE X (.Tuple es x1 pos) (eV G S (n.bind fun xs => (N.le1 xs).bind fun _ => .ok (.tup xs))) :=
  PE.imp (pe_tup h) fun σ H Q ⟨F, A, q⟩ => ⟨F, A, n.mono (fun xs q1 vs F1 H1 e1 r1 => by
    obtain ⟨hl, q2⟩ := q1
    refine ⟨by rw [r1.length]; exact hl, fun p hp => ?_⟩
    have ok1 := (A.go e1).ok
    have e2 : Ext F1 H1 (updT F1 p (is (.tup vs))) (upd H1 p (.tup vs)) := Ext.new ok1 hp rfl
    exact q2 _ _ _ (e1.trans e2) (.tup updT_same (r1.ex e2.ex))) (fun _ _ z => z) q⟩
theorem de_lst {es : List Expr} {n : N (List D)} (h : PA X es (aV G S n)) : PE X (.List es pos) (eV G S (n.bind fun xs => (N.le1 xs).bind fun _ => .ok (.lst xs))) :=
  PE.imp (pe_lst h) fun σ H Q ⟨F, A, q⟩ => ⟨F, A, n.mono (fun xs q1 vs F1 H1 e1 r1 => by
    obtain ⟨hl, q2⟩ := q1
    refine ⟨by rw [r1.length]; exact hl, fun p hp => ?_⟩
    have ok1 := (A.go e1).ok
    have e2 : Ext F1 H1 (updT F1 p (is (.lst vs))) (upd H1 p (.lst vs)) := Ext.new ok1 hp rfl
    exact q2 _ _ _ (e1.trans e2) (.lst (.inl (.inl updT_same)) (r1.ex e2.ex))) (fun _ _ z => z) q⟩

/-! tests -/
def N.tst (d : D) : N Bool := match d with
  | .bl b => .ok b
  | _ => .stuck
theorem rp_bl {Z : Zt} {F : Ty} {v : V} {b : Bool} (r : Rp Z F v (.bl b)) : v = .bl b := by cases r; rfl
theorem rp_int {Z : Zt} {F : Ty} {v : V} {b : Int} (r : Rp Z F v (.int b)) : v = .int b := by cases r; rfl
theorem rp_str {Z : Zt} {F : Ty} {v : V} {b : Str} (r : Rp Z F v (.str b)) : v = .str b := by cases r; rfl
theorem rp_non {Z : Zt} {F : Ty} {v : V} (r : Rp Z F v .non) : v = .non := by cases r; rfl
theorem tst_run {na : N D} {σ : St} {H : Hp} {Q : Bool → Hp → Prop} (h : tV G S (na.bind N.tst) σ H Q) : eV G S na σ H fun x H1 => ∃ c, x = .bl c ∧ Q c H1 := by
  obtain ⟨F, A, q⟩ := h
  refine ⟨F, A, na.mono (fun x q1 v F1 H1 e1 r1 => ?_) (fun _ _ z => z) q⟩
  cases x with
  | bl b => exact ⟨b, rp_bl r1, q1 F1 H1 e1⟩
  | _ => exact (show False from q1).elim
/-- an expression that gives True or False, as a test -/
theorem dt_val (ha : PE X a (eV G S na)) (he : ∀ whole, isTrue a X.env whole = (do let v ← whole; standAt a.pos; holding [v] (truthy v)) := by intro _; rfl) : PT X a (tV G S (na.bind N.tst)) :=
  PT.imp (pt_val ha he) fun _ _ _ h => tst_run h
theorem dt_cmp {op : CmpOp} {r : R2} {o : D → D → N D} (ho : OpR X (compareOp op) r) (hr : R2D G r o) (ht : ∀ x y, Tot (o x y)) (ha : PE X a (eV G S na)) (hb : PE X b (eV G S nb)) (hm : behindInMarks op b = false) :
    PT X (.Compare a [op] [b] pos) (tV G S ((na.bind fun x => nb.bind fun y => o x y).bind N.tst)) := PT.imp (pt_cmpR ho ha hb hm) fun _ _ _ h => op_run (ta := eV G S na) (tb := eV G S nb) hr ht (tst_run (na := na.bind fun x => nb.bind fun y => o x y) h)
theorem dt_not {n : N Bool} (h : PT X a (tV G S n)) : PT X (.UnaryOp .Not a pos) (tV G S (n.bind fun b => .ok (!b))) :=
  PT.imp (pt_not h) fun _ _ _ ⟨F, A, q⟩ => ⟨F, A, q⟩
theorem and_run {n m : N Bool} {σ : St} {H : Hp} {Q : Bool → Hp → Prop} (h : tV G S (n.bind fun b => if b = true then m else .ok false) σ H Q) : tAnd (tV G S n) (tV G S m) σ H Q := by
  obtain ⟨F, A, q⟩ := h
  refine ⟨F, A, n.mono (fun b q1 F1 H1 e1 => ?_) (fun _ _ z => z) q⟩
  cases b with
  | true => exact ⟨F1, A.go e1, m.mono (fun c q2 F2 H2 e2 => q2 F2 H2 (e1.trans e2)) (fun _ _ z => z) q1⟩
  | false => exact q1 F1 H1 e1
theorem or_run {n m : N Bool} {σ : St} {H : Hp} {Q : Bool → Hp → Prop} (h : tV G S (n.bind fun b => if b = true then .ok true else m) σ H Q) : tOr (tV G S n) (tV G S m) σ H Q := by
  obtain ⟨F, A, q⟩ := h
  refine ⟨F, A, n.mono (fun b q1 F1 H1 e1 => ?_) (fun _ _ z => z) q⟩
  cases b with
  | false => exact ⟨F1, A.go e1, m.mono (fun c q2 F2 H2 e2 => q2 F2 H2 (e1.trans e2)) (fun _ _ z => z) q1⟩
  | true => exact q1 F1 H1 e1
theorem dw_and1 {n : N Bool} (h : PT X a (tV G S n)) : PW X (.BoolOp .And [a] pos) (tV G S n) := pw_and1 h
theorem dw_or1 {n : N Bool} (h : PT X a (tV G S n)) : PW X (.BoolOp .Or [a] pos) (tV G S n) := pw_or1 h
theorem dw_and {rest : List Expr} {n m : N Bool} (ha : PT X a (tV G S n)) (hb : PW X (.BoolOp .And (b :: rest) pos) (tV G S m)) : PW X (.BoolOp .And (a :: b :: rest) pos) (tV G S (n.bind fun x => if x = true then m else .ok false)) :=
  PW.imp (pw_and ha hb) fun _ _ _ h => and_run h
theorem dw_or {rest : List Expr} {n m : N Bool} (ha : PT X a (tV G S n)) (hb : PW X (.BoolOp .Or (b :: rest) pos) (tV G S m)) : PW X (.BoolOp .Or (a :: b :: rest) pos) (tV G S (n.bind fun x => if x = true then .ok true else m)) :=
  PW.imp (pw_or ha hb) fun _ _ _ h => or_run h
/-- the same as values -/
def N.boo (d : D) : N Bool := N.tst d
theorem de_one {op} {n : N D} (h : PE X a (eV G S n)) : PE X (.BoolOp op [a] pos) (eV G S n) := pe_one h
theorem de_and {rest : List Expr} (ha : PE X a (eV G S na)) (hb : PE X (.BoolOp .And (b :: rest) pos) (eV G S nb)) : PE X (.BoolOp .And (a :: b :: rest) pos) (eV G S (na.bind fun x => (N.tst x).bind fun c => if c = true then nb else .ok (.bl false))) :=
  PE.imp (pe_and ha hb) fun σ H Q ⟨F, A, q⟩ => ⟨F, A, na.mono (fun x q1 v F1 H1 e1 r1 => by
    cases x with
    | bl c =>
      refine ⟨c, rp_bl r1, ?_⟩
      cases c with
      | true => exact ⟨F1, A.go e1, nb.mono (fun d q2 w F2 H2 e2 r2 => q2 w F2 H2 (e1.trans e2) r2) (fun _ _ z => z) q1⟩
      | false => exact q1 _ F1 H1 e1 (.bl false)
    | _ => exact (show False from q1).elim) (fun _ _ z => z) q⟩
theorem de_or {rest : List Expr} (ha : PE X a (eV G S na)) (hb : PE X (.BoolOp .Or (b :: rest) pos) (eV G S nb)) : PE X (.BoolOp .Or (a :: b :: rest) pos) (eV G S (na.bind fun x => (N.tst x).bind fun c => if c = true then .ok (.bl true) else nb)) :=
  PE.imp (pe_or ha hb) fun σ H Q ⟨F, A, q⟩ => ⟨F, A, na.mono (fun x q1 v F1 H1 e1 r1 => by
    cases x with
    | bl c =>
      refine ⟨c, rp_bl r1, ?_⟩
      cases c with
      | false => exact ⟨F1, A.go e1, nb.mono (fun d q2 w F2 H2 e2 r2 => q2 w F2 H2 (e1.trans e2) r2) (fun _ _ z => z) q1⟩
      | true => exact q1 _ F1 H1 e1 (.bl true)
    | _ => exact (show False from q1).elim) (fun _ _ z => z) q⟩
theorem de_not (ha : PE X a (eV G S na)) : PE X (.UnaryOp .Not a pos) (eV G S (na.bind fun x => (N.tst x).bind fun c => .ok (.bl (!c)))) :=
  PE.imp (pe_not ha) fun σ H Q ⟨F, A, q⟩ => ⟨F, A, na.mono (fun x q1 v F1 H1 e1 r1 => by
    cases x with
    | bl c => exact ⟨c, rp_bl r1, q1 _ F1 H1 e1 (.bl _)⟩
    | _ => exact (show False from q1).elim) (fun _ _ z => z) q⟩
theorem de_if {n : N Bool} (hc : PT X c (tV G S n)) (ha : PE X a (eV G S na)) (hb : PE X b (eV G S nb)) : PE X (.IfExp c a b pos) (eV G S (n.bind fun x => if x = true then na else nb)) :=
  PE.imp (pe_ifExp hc ha hb) fun σ H Q ⟨F, A, q⟩ => ⟨F, A, n.mono (fun x q1 F1 H1 e1 => by
    cases x with
    | true => exact ⟨F1, A.go e1, na.mono (fun d q2 w F2 H2 e2 r2 => q2 w F2 H2 (e1.trans e2) r2) (fun _ _ z => z) q1⟩
    | false => exact ⟨F1, A.go e1, nb.mono (fun d q2 w F2 H2 e2 r2 => q2 w F2 H2 (e1.trans e2) r2) (fun _ _ z => z) q1⟩) (fun _ _ z => z) q⟩

/-! calls -/
/-- a def's promise by its mirror -/
def spN (Z : Zt) (n : Nat) (m : List D → N D) : Sp := fun vs H Q E => vs.length = n ∧ ∃ F ds, Okk F H ∧ RpL Z F vs ds ∧
  (m ds).wp (fun d => ∀ v F' H', Ext F H F' H' → Rp Z F' v d → Q v H') (fun c x => ∀ cls dd F' H', Ext F H F' H' → ErrIs Z F' c x cls dd → E cls dd H')
theorem spN.len {Z : Zt} {n : Nat} {m : List D → N D} (vs : List V) (H : Hp) (Q : VK) (E : XK) (h : spN Z n m vs H Q E) : vs.length = n := h.1
def Arity (n : Nat) (m : List D → N D) : Prop := ∀ ds k e, (m ds).wp k e → ds.length = n
def app0 (m : N D) : List D → N D | [] => m | _ => .stuck
def app1 (m : D → N D) : List D → N D | [a] => m a | _ => .stuck
def app2 (m : D → D → N D) : List D → N D | [a, b] => m a b | _ => .stuck
def app3 (m : D → D → D → N D) : List D → N D | [a, b, c] => m a b c | _ => .stuck
def app4 (m : D → D → D → D → N D) : List D → N D | [a, b, c, d] => m a b c d | _ => .stuck
def app5 (m : D → D → D → D → D → N D) : List D → N D | [a, b, c, d, e] => m a b c d e | _ => .stuck
theorem ar0 (m) : Arity 0 (app0 m) := fun ds k e h => match ds, h with | [], _ => rfl
theorem ar1 (m) : Arity 1 (app1 m) := fun ds k e h => match ds, h with | [_], _ => rfl
theorem ar2 (m) : Arity 2 (app2 m) := fun ds k e h => match ds, h with | [_, _], _ => rfl
theorem ar3 (m) : Arity 3 (app3 m) := fun ds k e h => match ds, h with | [_, _, _], _ => rfl
theorem ar4 (m) : Arity 4 (app4 m) := fun ds k e h => match ds, h with | [_, _, _, _], _ => rfl
theorem ar5 (m) : Arity 5 (app5 m) := fun ds k e h => match ds, h with | [_, _, _, _, _], _ => rfl
theorem call_post {n : Nat} {vs : List V} {F1 : Ty} {F : Ty} {H H1 : Hp} {σ : St} {ds : List D} {m : List D → N D} {Q : VK} (hz : Arity n m) (hw : Wk S G.Se) (A : At G.Z G.B S F σ H) (e1 : Ext F H F1 H1) (r1 : RpL G.Z F1 vs ds)
    (q : (m ds).wp (fun d => ∀ v F' H', Ext F H F' H' → Rp G.Z F' v d → Q v H') G.Er) : spN G.Z n m vs H1 Q (WE G.W σ) :=
  ⟨r1.length.trans (hz ds _ _ q), F1, ds, (A.go e1).ok, r1, (m ds).mono (fun d q2 v F2 H2 e2 r2 => q2 v F2 H2 (e1.trans e2) r2) (fun c x z cls dd F2 H2 e2 er => z cls dd F2 σ H2 (((A.go e1).go e2).weak hw) er) q⟩
/-- what a call of a def wants, once: it stands at f, keeps its mirror's promise, is in reach -/
structure Cal (X : Cx) (G : Gx) (x : Str) (n : Nat) (m : List D → N D) : Prop where
  ex : ∃ (k : Nat) (f : Addr) (fd : FuncData) (ps : List Str), FnOk X.prog X.w X.K X.mg X.base (L2.CX X.prog X.w) k f fd ps (spN G.Z n m) ∧ Room k X.A ∧ X.mg x = some (.ref f) ∧ PySem.W.keepIn X.K (.ref f) = true ∧ Binds X.K fd ps []
  ar : Arity n m
theorem de_callL {n : Nat} {m : List D → N D} {x : Str} {p : Pos} {e : Expr} {es : List Expr} {na : N (List D)} (C : Cal X G x n m) (tk : Takes X G.W) (hw : Wk S G.Se)
    (ha : PA X (e :: es) (aV G S na)) (hg : Gl X x := by rfl) (hdb : (x == ("__debug__" : Str)) = false := by decide) (he : starEach (e :: es) X.env = (false, eval e X.env) :: starEach es X.env := by rfl) (hpl : (backTo pos (starEach es X.env)).any (·.1) = false := by rfl) :
    PE X (.Call (.Name x p) (e :: es) [] pos) (eV G S (na.bind m)) := by
  obtain ⟨k, f, fd, ps, Fn, hr, hm, hk, hb⟩ := C.ex
  refine PE.imp (pe_callS Fn hr hg hm hk hb (fun σ => passAt tk σ) ha hdb he hpl) fun σ H Q ⟨F, A, q⟩ => ?_
  exact ⟨F, A, na.mono (fun ds q1 vs F1 H1 e1 r1 => call_post C.ar hw A e1 r1 q1) (fun _ _ z => z) q⟩
theorem de_call1 {m : D → N D} {x : Str} {p : Pos} (C : Cal X G x 1 (app1 m)) (tk : Takes X G.W) (hw : Wk S G.Se) (ha : PE X a (eV G S na)) (hg : Gl X x := by rfl) (hdb : (x == ("__debug__" : Str)) = false := by decide)
    (h1 : starEach [a] X.env = (false, eval a X.env) :: starEach [] X.env := by rfl) : PE X (.Call (.Name x p) [a] [] pos) (eV G S (na.bind m)) :=
  de_callL C tk hw (da_cons ha da_nil h1) hg hdb h1 rfl
theorem de_call2 {m : D → D → N D} {x : Str} {p : Pos} (C : Cal X G x 2 (app2 m)) (tk : Takes X G.W) (hw : Wk S G.Se) (ha : PE X a (eV G S na)) (hb : PE X b (eV G S nb)) (hg : Gl X x := by rfl) (hdb : (x == ("__debug__" : Str)) = false := by decide)
    (h1 : starEach [a, b] X.env = (false, eval a X.env) :: starEach [b] X.env := by rfl) (h2 : starEach [b] X.env = (false, eval b X.env) :: starEach [] X.env := by rfl) (hpl : (backTo pos (starEach [b] X.env)).any (·.1) = false := by rfl) :
    PE X (.Call (.Name x p) [a, b] [] pos) (eV G S (na.bind fun x => nb.bind fun y => m x y)) :=
  de_callL C tk hw (da_cons ha (da_cons hb da_nil h2) h1) hg hdb h1 hpl
theorem de_call3 {m : D → D → D → N D} {x : Str} {p : Pos} (C : Cal X G x 3 (app3 m)) (tk : Takes X G.W) (hw : Wk S G.Se) (ha : PE X a (eV G S na)) (hb : PE X b (eV G S nb)) (hc : PE X c (eV G S nc)) (hg : Gl X x := by rfl) (hdb : (x == ("__debug__" : Str)) = false := by decide)
    (h1 : starEach [a, b, c] X.env = (false, eval a X.env) :: starEach [b, c] X.env := by rfl) (h2 : starEach [b, c] X.env = (false, eval b X.env) :: starEach [c] X.env := by rfl) (h3 : starEach [c] X.env = (false, eval c X.env) :: starEach [] X.env := by rfl)
    (hpl : (backTo pos (starEach [b, c] X.env)).any (·.1) = false := by rfl) :
    PE X (.Call (.Name x p) [a, b, c] [] pos) (eV G S (na.bind fun x => nb.bind fun y => nc.bind fun z => m x y z)) :=
  de_callL C tk hw (da_cons ha (da_cons hb (da_cons hc da_nil h3) h2) h1) hg hdb h1 hpl
end
end M

set_option Elab.async false
set_option linter.all false
set_option maxRecDepth 100000
set_option maxHeartbeats 2000000
namespace M
open PySem L2
/-! ### statements -/
section
variable {X : Cx} {G : Gx} {S : List Sl} {τ τ1 β : Type} {sl : τ → List Sl} {sl1 : τ1 → List Sl} {sb : β → List Sl} {a b c e : Expr} {na nb : N D} {pos : Pos} {st : Stmt} {rest body : List Stmt}
theorem PSs.ex {ι : Type} {u : ι → TS} (h : ∀ t, PSs X rest (u t)) : PSs X rest (fun E σ H => ∃ t, u t E σ H) := ⟨fun pins s σ H E I ⟨t, q⟩ => (h t).run pins s σ H E I q⟩
def N.seq (n : N (Fl τ1 β)) (m : τ1 → N (Fl τ β)) : N (Fl τ β) := n.bind fun f => match f with
  | .nx t => m t
  | .rt d => .ok (.rt d)
  | .bk t => .ok (.bk t)
  | .ct t => .ok (.ct t)
theorem ds_cons {n : N (Fl τ1 β)} {m : τ1 → N (Fl τ β)} (h1 : PS X st (sV G S sl1 sb n)) (h2 : ∀ t, PSs X rest (sV G (sl1 t) sl sb (m t))) : PSs X (st :: rest) (sV G S sl sb (n.seq m)) :=
  PSs.imp (pss_cons h1 (PSs.ex h2)) fun E σ H ⟨F0, A, q⟩ => ⟨F0, A, n.mono (fun f q1 => by
    cases f with
    | nx t => exact fun F σ H e A => ⟨t, F, A, (m t).mono (fun f q2 => flP.ex G e q2) (fun _ _ z => z) q1⟩
    | rt d => exact q1
    | bk t => exact q1
    | ct t => exact q1) (fun _ _ z => z) q⟩
theorem ds_one {n : N (Fl τ β)} (h1 : PS X st (sV G S sl sb n)) : PSs X [st] (sV G S sl sb n) := pss_one h1
theorem ds_nil (t : τ) (h : sl t = S := by rfl) : PSs X [] (sV G S sl sb (.ok (.nx t))) := PSs.imp pss_nil fun E σ H ⟨F, A, q⟩ => q F σ H (Ex.refl F) (by rw [h]; exact A)
/-- weakened behind -/
theorem ds_nilW (t : τ) (h : Wk S (sl t)) : PSs X [] (sV G S sl sb (.ok (.nx t))) := PSs.imp pss_nil fun E σ H ⟨F, A, q⟩ => q F σ H (Ex.refl F) (A.weak h)
theorem ds_pass : PS X (.Pass pos) (sV G S (fun _ : Unit => S) sb (.ok (.nx ()))) := PS.imp ps_pass fun E σ H ⟨F, A, q⟩ => q F σ H (Ex.refl F) A
theorem ds_brk (t : β) (h : sb t = S := by rfl) : PS X (.Break pos) (sV G S sl sb (.ok (.bk t))) := PS.imp ps_break fun E σ H ⟨F, A, q⟩ => q F σ H (Ex.refl F) (by rw [h]; exact A)
theorem ds_cont (t : β) (h : sb t = S := by rfl) : PS X (.Continue pos) (sV G S sl sb (.ok (.ct t))) := PS.imp ps_continue fun E σ H ⟨F, A, q⟩ => q F σ H (Ex.refl F) (by rw [h]; exact A)
theorem ds_contW (t : β) (h : Wk S (sb t)) : PS X (.Continue pos) (sV G S sl sb (.ok (.ct t))) := PS.imp ps_continue fun E σ H ⟨F, A, q⟩ => q F σ H (Ex.refl F) (A.weak h)
theorem ds_ret (ha : PE X e (eV G S na)) : PS X (.Return (some e) pos) (sV G S sl sb (na.bind fun d => .ok (.rt d))) :=
  PS.imp (ps_ret ha) fun E σ H ⟨F, A, q⟩ => ⟨F, A, na.mono (fun d q1 v F1 H1 e1 r1 => q1 v F1 H1 (A.ext.trans e1) r1) (fun _ _ z => z) q⟩
theorem ds_retN : PS X (.Return none pos) (sV G S sl sb (.ok (.rt .non))) := PS.imp ps_retN fun E σ H ⟨F, A, q⟩ => q .non F H A.ext .non
theorem ds_expr (ha : PE X e (eV G S na)) (hs : swapsWith e none pos.line X.env = pure false := by rfl) : PS X (.Expr e pos) (sV G S (fun _ : Unit => S) sb (na.bind fun _ => .ok (.nx ()))) :=
  PS.imp (ps_expr ha hs) fun E σ H ⟨F, A, q⟩ => ⟨F, A, na.mono (fun d q1 v F1 H1 e1 r1 => q1 F1 σ H1 e1.ex (A.go e1)) (fun _ _ z => z) q⟩
theorem ds_set {i : Nat} {x : Str} {pos' : Pos} (hN : X.N.Nodup) (ha : PE X e (eV G S na)) (hi : X.N[i]? = some x := by rfl) (hx : Loc X.env.scope x := by first | exact Or.inl rfl | exact Or.inr rfl) (hs : swapsWith e (some (.Name x pos')) pos.line X.env = pure false := by rfl)
    (hf : X.fn x = true ∨ X.env.scope.names.lookup x = some .local := by first | exact .inl rfl | exact .inr rfl) :
    PS X (.Assign [.Name x pos'] e pos) (sV G S (fun d => S.set i (.dat d)) sb (na.bind fun d => .ok (.nx d))) :=
  PS.imp (ps_set (i := i) hN hi hx ha hs hf) fun E σ H ⟨F, A, q⟩ => ⟨F, A, na.mono (fun d q1 v F1 H1 e1 r1 => q1 F1 _ H1 e1.ex ((A.go e1).set r1)) (fun _ _ z => z) q⟩
theorem ds_if {n : N Bool} {n1 n2 : N (Fl τ β)} {s1 s2 : List Stmt} (hc : PT X c (tV G S n)) (h1 : PSs X s1 (sV G S sl sb n1)) (h2 : PSs X s2 (sV G S sl sb n2)) :
    PS X (.If c s1 s2 pos) (sV G S sl sb (n.bind fun x => if x = true then n1 else n2)) :=
  PS.imp (ps_if hc h1 h2) fun E σ H ⟨F, A, q⟩ => ⟨F, A, n.mono (fun x q1 F1 H1 e1 => by
    cases x with
    | true => exact ⟨F1, A.go e1, n1.mono (fun f q2 => flP.ex G e1.ex q2) (fun _ _ z => z) q1⟩
    | false => exact ⟨F1, A.go e1, n2.mono (fun f q2 => flP.ex G e1.ex q2) (fun _ _ z => z) q1⟩) (fun _ _ z => z) q⟩
/-- raise C(e) -/
theorem ds_raise {ci : Nat} {nm : String} {fI : Addr} {p pos2 : Pos} {k : Nat} {x : Str} (hc : X.calm = true) (T : PySem.TErr.ETxt X.K X.mg nm (G.Z.fs ci) (G.Z.cs ci) fI) (hr : Room k X.A) (tk : Takes X G.W) (hw : Wk S G.Se) (ha : PE X a (eV G S na))
    (hx : x = PySem.Str.ofString nm := by rfl) (hg : Gl X x := by rfl) (hdb : (x == ("__debug__" : Str)) = false := by decide) (he : starEach (a :: []) X.env = (false, eval a X.env) :: starEach [] X.env := by rfl) (hpl : (backTo pos (starEach [] X.env)).any (·.1) = false := by rfl) :
    PS X (.Raise (some (.Call (.Name x p) [a] [] pos)) none pos2) (sV G S sl sb (na.bind fun d => .err ci d)) :=
  PS.imp (ps_raiseE hc T hr tk (pa_cons ha pa_nil he) hx hg hdb he hpl) fun E σ H ⟨F, A, q⟩ => ⟨F, A, na.mono (fun d q1 v F1 H1 e1 r1 => ⟨v, rfl, fun p hp => by
    have A1 := A.go e1
    have e2 : Ext F1 H1 (updT F1 p (is (.xd [(PySem.Str.ofString (G.Z.fs ci), v)]))) (upd H1 p (.xd [(PySem.Str.ofString (G.Z.fs ci), v)])) := Ext.new A1.ok hp rfl
    exact q1 _ _ _ σ _ ((A1.go e2).weak hw) ⟨rfl, .inr ⟨fld_ne T.fld, p, v, rfl, updT_same, r1.ex e2.ex⟩⟩⟩) (fun _ _ z => z) q⟩
/-- raise C(), a bare class -/
theorem ds_raise0 {ci : Nat} {bmB : List Value} {B newId initId : String} {x : Str} {p pos2 : Pos} (hc : X.calm = true) (tk : Takes X G.W) (hw : Wk S G.Se) (F : PySem.ExcBaseFacts B newId initId bmB) (hf : G.Z.fs ci = "") (q : PySem.W.excIn X.K (G.Z.cs ci) bmB newId = true) (gC : X.mg x = some (.ref (G.Z.cs ci))) (kC : PySem.W.keepIn X.K (.ref (G.Z.cs ci)) = true) (r : Raises X (.ref (G.Z.cs ci))) (hg : Gl X x := by rfl)
    (hdb : (x == ("__debug__" : Str)) = false := by decide) : PS X (.Raise (some (.Call (.Name x p) [] [] pos)) none pos2) (sV G S sl sb (.err ci .non)) :=
  PS.imp (ps_raise0 hc tk F q gC kC r hg hdb) fun E σ H ⟨F, A, h⟩ => h _ none F σ H (A.weak hw) ⟨rfl, .inl ⟨hf, rfl⟩⟩
/-- C(f = e).f -/
theorem de_mkget {na : N (List D)} {nm f : String} {C fI : Addr} {kws : List Keyword} {p pos2 : Pos} {k : Nat} {x y : Str} (T : PySem.TErr.ETxt X.K X.mg nm f C fI) (hr : Room k X.A) (hkw : PK X kws (aV G S na)) (hx : x = PySem.Str.ofString nm := by rfl) (hy : y = PySem.Str.ofString f := by rfl) (hg : Gl X x := by rfl)
    (hdb : (x == ("__debug__" : Str)) = false := by decide) (hall : (backToKw pos (keywordEach kws X.env)).all (·.1.isSome) = true := by rfl) (hks : (backToKw pos (keywordEach kws X.env)).filterMap (·.1) = [y] := by rfl)
    (hpl : ((backTo pos (starEach [] X.env)).any (·.1) || (backToKw pos (keywordEach kws X.env)).any (·.1.isNone)) = false := by rfl)
    (hb : attributeBase (.Call (.Name x p) [] kws pos) y X.env (eval (.Call (.Name x p) [] kws pos) X.env) = eval (.Call (.Name x p) [] kws pos) X.env := by rfl) :
    PE X (.Attribute (.Call (.Name x p) [] kws pos) y pos2) (eV G S (na.bind fun ds => match ds with | [d] => .ok d | _ => .stuck)) :=
  PE.imp (pe_mkget T hr hkw hx hy hg hdb hall hks hpl hb) fun σ H Q ⟨F, A, q⟩ => ⟨F, A, na.mono (fun ds q1 vs F1 H1 e1 r1 => by
    match ds, r1, q1 with
    | [d], .cons (v := v) r .nil, q1 => exact ⟨v, rfl, q1 v F1 H1 e1 r⟩) (fun _ _ z => z) q⟩
end

/-! ### a def's body -/
def N.fin {τ β : Type} (n : N (Fl τ β)) : N D := n.bind fun f => match f with
  | .nx _ => .ok .non
  | .rt d => .ok d
  | _ => .stuck
def sls (ds : List D) (k : Nat) : List Sl := ds.map Sl.dat ++ List.replicate k .un
theorem at_start {Z : Zt} {F : Ty} {H : Hp} {vs : List V} {ds : List D} {Nn : List Str} (ok : Okk F H) (r : RpL Z F vs ds) : At Z ⟨F, H, F⟩ (sls ds (Nn.length - vs.length)) F (L2.start Nn vs) H := by
  refine ⟨Ext.refl ok, Ex.refl F, ?_, fun i s q => ?_, fun i j l c c' q1 => ?_⟩
  · unfold L2.start sls
    rw [List.length_append, List.length_append, List.length_map, List.length_map, List.length_replicate, List.length_replicate, r.length]
  · unfold sls at q
    unfold L2.start
    by_cases hi : i < ds.length
    · rw [List.getElem?_append_left (by rw [List.length_map]; exact hi), List.getElem?_map] at q
      cases e : ds[i]? with
      | none => rw [e] at q; cases q
      | some d =>
        rw [e] at q
        cases q
        obtain ⟨v, hv, rv⟩ := r.get e
        refine ⟨v, ?_, rv⟩
        rw [List.getElem?_append_left (by rw [List.length_map, r.length]; exact hi), List.getElem?_map, hv]
        rfl
    · rw [List.getElem?_append_right (by rw [List.length_map]; omega), List.getElem?_replicate] at q
      split at q
      · cases q; trivial
      · cases q
  · exfalso
    unfold sls at q1
    by_cases hi : i < ds.length
    · rw [List.getElem?_append_left (by rw [List.length_map]; exact hi), List.getElem?_map] at q1
      cases e : ds[i]? with
      | none => rw [e] at q1; cases q1
      | some d => rw [e] at q1; cases q1
    · rw [List.getElem?_append_right (by rw [List.length_map]; omega), List.getElem?_replicate] at q1
      split at q1
      · cases q1
      · cases q1
theorem wk_un : ∀ (S : List Sl), Wk S (List.replicate S.length .un)
  | [] => .nil
  | _ :: S => .un (wk_un S)
section
variable {P : Program} {w : World} {K : PySem.W.Frag} {mg : Str → Option Value} {base : Heap}
/-- what stands around a def's body -/
structure Body (Z : Zt) (k : Nat) (X : Cx) (G : Gx) (n : Nat) : Prop where
  z : G.Z = Z
  tk : Takes X G.W
  hr : Room k X.A
  se : G.Se = List.replicate n .un
/-- a def, by its body's derivation -/
theorem fn_ok {Z : Zt} {x qual : Str} {st : Stmt} {f : Addr} {fd : FuncData} {Nn ps : List Str} {k : Nat} {m : List D → N D} (F : Fun K x qual st f fd) (S : FnScope Nn ps (defScope st)) (ar : Arity ps.length m)
    (hbody : ∀ (X : Cx) (G : Gx) (ds : List D), X.prog = P → X.w = w → X.K = K → X.mg = mg → X.base = base → X.N = Nn → X.env.scope = defScope st → X.fn = (fun _ => true) → X.calm = true → X.stack = X.env :: X.outer → X.env.frame = some X.env.locals →
      G.Z = Z → G.Se = List.replicate Nn.length .un → Takes X G.W → Room k X.A → ds.length = ps.length →
      ∃ (τ β : Type) (sl : τ → List Sl) (sb : β → List Sl) (nn : N (Fl τ β)), PSs X (defBody st) (sV G (sls ds (Nn.length - ps.length)) sl sb nn) ∧ ∀ k e, (m ds).wp k e → nn.fin.wp k e) :
    FnOk P w K mg base (L2.CX P w) (k + 1) f fd ps (spN Z ps.length m) := by
  refine F.okX S (fun vs H Q E h => h.1) (fun cdv A outer s H vs Q E hr h => ?_)
  obtain ⟨hl, F0, ds, ok0, r0, q0⟩ := h
  have hd : ds.length = ps.length := ar ds _ _ q0
  obtain ⟨τ, β, sl, sb, nn, hps, hq⟩ := hbody (cxOf (L2.CX P w) P w K mg base Nn qual (defScope st) f cdv A outer s H E) ⟨Z, ⟨F0, H, F0⟩, fun cls d _ H => E cls d H, List.replicate Nn.length .un⟩ ds rfl rfl rfl rfl rfl rfl rfl rfl rfl rfl rfl rfl rfl
    (takes_of rfl rfl rfl rfl) hr hd
  refine ⟨_, hps, ⟨F0, ?_, ?_⟩⟩
  · have := at_start (Z := Z) (Nn := Nn) ok0 r0
    rw [hl] at this
    exact this
  · have q1 := hq _ _ q0
    refine nn.mono (fun f q2 => ?_) (fun c x q2 => ?_) q1
    · cases f with
      | nx t => exact fun F σ H1 _ A => q2 .non F H1 A.ext .non
      | rt d => exact fun v F H1 e1 r1 => q2 v F H1 e1 r1
      | bk t => exact (show False from q2).elim
      | ct t => exact (show False from q2).elim
    · intro cls dd F σ H1 A er
      exact q2 cls dd F H1 A.ext er
end
end M

set_option Elab.async false
set_option linter.all false
set_option maxRecDepth 100000
set_option maxHeartbeats 2000000
namespace M
open PySem L2
/-! ### operations by data -/
def iOp (f : Int → Int → D) : D → D → N D
  | .int i, .int j => .ok (f i j)
  | _, _ => .stuck
def iOpC (C : Int → Int → Prop) (f : Int → Int → D) : D → D → N D
  | .int i, .int j => (N.asrt (C i j)).bind fun _ => .ok (f i j)
  | _, _ => .stuck
theorem Tot.ok {α : Type} (a : α) : Tot (N.ok a) := fun _ _ h => h
theorem Tot.stuck {α : Type} : Tot (N.stuck : N α) := fun _ _ h => h
theorem Tot.bind {α β : Type} {n : N α} {f : α → N β} (h : Tot n) (hf : ∀ a, Tot (f a)) : Tot (n.bind f) := fun k e q => n.mono (fun a z => hf a _ _ z) (fun _ _ z => z) (h _ _ q)
theorem Tot.asrt (p : Prop) : Tot (N.asrt p) := fun _ _ h => h
theorem iOp_tot (f) (x y : D) : Tot (iOp f x y) := by
  unfold iOp
  split
  · exact Tot.ok _
  · exact Tot.stuck
theorem iOpC_tot (C) (f) (x y : D) : Tot (iOpC C f x y) := by
  unfold iOpC
  split
  · exact (Tot.asrt _).bind fun _ => Tot.ok _
  · exact Tot.stuck
section
variable {G : Gx}
theorem r2_I0 {g : Int → Int → V} {f : Int → Int → D} (h : ∀ F i j, Rp G.Z F (g i j) (f i j)) : R2D G (rI0 g) (iOp f) := by
  intro F H x y v u Q ok rx ry q
  unfold iOp at q
  split at q
  · exact ⟨_, _, rp_int rx, rp_int ry, q _ F H (Ext.refl ok) (h F _ _)⟩
  · exact q.elim
theorem r2_I {C : Int → Int → Prop} {g : Int → Int → V} {f : Int → Int → D} (h : ∀ F i j, Rp G.Z F (g i j) (f i j)) : R2D G (rI C g) (iOpC C f) := by
  intro F H x y v u Q ok rx ry q
  unfold iOpC at q
  split at q
  · exact ⟨_, _, rp_int rx, rp_int ry, q.1, q.2 _ F H (Ext.refl ok) (h F _ _)⟩
  · exact q.elim
abbrev dAdd := iOp fun i j => .int (i + j)
abbrev dSub := iOp fun i j => .int (i - j)
abbrev dMul := iOpC CMul fun i j => .int (i * j)
abbrev dDiv := iOpC CDiv fun i j => .int (i / j)
abbrev dMod := iOpC (fun _ j => 0 < j) fun i j => .int (i % j)
abbrev dModN := iOpC (fun _ j => j ≠ 0) fun i j => .int (i.fmod j)
abbrev dPow := iOpC CPow fun i j => .int (i ^ j.toNat)
abbrev dLt := iOp fun i j => .bl (decide (i < j))
abbrev dLe := iOp fun i j => .bl (decide (i ≤ j))
abbrev dGt := iOp fun i j => .bl (decide (j < i))
abbrev dGe := iOp fun i j => .bl (decide (j ≤ i))
variable {X : Cx} {S : List Sl} {a b c : Expr} {na nb nc : N D} {pos : Pos}
theorem de_add (ha : PE X a (eV G S na)) (hb : PE X b (eV G S nb)) : PE X (.BinOp a .Add b pos) (eV G S (na.bind fun x => nb.bind fun y => dAdd x y)) := de_op op_add (r2_I0 fun _ _ _ => .int _) (iOp_tot _) ha hb
theorem de_sub (ha : PE X a (eV G S na)) (hb : PE X b (eV G S nb)) : PE X (.BinOp a .Sub b pos) (eV G S (na.bind fun x => nb.bind fun y => dSub x y)) := de_op op_sub (r2_I0 fun _ _ _ => .int _) (iOp_tot _) ha hb
theorem de_mul (ha : PE X a (eV G S na)) (hb : PE X b (eV G S nb)) : PE X (.BinOp a .Mult b pos) (eV G S (na.bind fun x => nb.bind fun y => dMul x y)) := de_op op_mul (r2_I fun _ _ _ => .int _) (iOpC_tot _ _) ha hb
theorem de_fdiv (ha : PE X a (eV G S na)) (hb : PE X b (eV G S nb)) : PE X (.BinOp a .FloorDiv b pos) (eV G S (na.bind fun x => nb.bind fun y => dDiv x y)) := de_op op_fdiv (r2_I fun _ _ _ => .int _) (iOpC_tot _ _) ha hb
theorem de_mod (ha : PE X a (eV G S na)) (hb : PE X b (eV G S nb)) : PE X (.BinOp a .Mod b pos) (eV G S (na.bind fun x => nb.bind fun y => dMod x y)) := de_op op_mod (r2_I fun _ _ _ => .int _) (iOpC_tot _ _) ha hb
theorem de_pow (ha : PE X a (eV G S na)) (hb : PE X b (eV G S nb)) : PE X (.BinOp a .Pow b pos) (eV G S (na.bind fun x => nb.bind fun y => dPow x y)) := de_op op_pow (r2_I fun _ _ _ => .int _) (iOpC_tot _ _) ha hb
theorem de_lt (ha : PE X a (eV G S na)) (hb : PE X b (eV G S nb)) : PE X (.Compare a [.Lt] [b] pos) (eV G S (na.bind fun x => nb.bind fun y => dLt x y)) := de_cmp op_lt (r2_I0 fun _ _ _ => .bl _) (iOp_tot _) ha hb (nomark _)
theorem de_le (ha : PE X a (eV G S na)) (hb : PE X b (eV G S nb)) : PE X (.Compare a [.LtE] [b] pos) (eV G S (na.bind fun x => nb.bind fun y => dLe x y)) := de_cmp op_le (r2_I0 fun _ _ _ => .bl _) (iOp_tot _) ha hb (nomark _)
theorem de_gt (ha : PE X a (eV G S na)) (hb : PE X b (eV G S nb)) : PE X (.Compare a [.Gt] [b] pos) (eV G S (na.bind fun x => nb.bind fun y => dGt x y)) := de_cmp op_gt (r2_I0 fun _ _ _ => .bl _) (iOp_tot _) ha hb (nomark _)
theorem de_ge (ha : PE X a (eV G S na)) (hb : PE X b (eV G S nb)) : PE X (.Compare a [.GtE] [b] pos) (eV G S (na.bind fun x => nb.bind fun y => dGe x y)) := de_cmp op_ge (r2_I0 fun _ _ _ => .bl _) (iOp_tot _) ha hb (nomark _)
/-- a test by an expression's True or False: the derivation of the expression, taken as a test -/
theorem dt_of (ha : PE X a (eV G S na)) (he : ∀ whole, isTrue a X.env whole = (do let v ← whole; standAt a.pos; holding [v] (truthy v)) := by intro _; rfl) : PT X a (tV G S (na.bind N.tst)) := dt_val ha he
/-- a <= b < c and its like, of ints -/
def dChain (o o' : D → D → N D) (na nb nc : N D) : N D := na.bind fun x => nb.bind fun y => (o x y).bind fun z => (N.tst z).bind fun k => if k = true then nc.bind fun w => o' y w else .ok (.bl false)
theorem de_chain {op op' : CmpOp} {r r' : R2} {o o' : D → D → N D} (ho : OpR X (compareOp op) r) (ho' : OpR X (compareOp op') r') (hr : R2D G r o) (ht : ∀ x y, Tot (o x y)) (hr' : R2D G r' o') (ht' : ∀ x y, Tot (o' x y))
    (ha : PE X a (eV G S na)) (hb : PE X b (eV G S nb)) (hc : PE X c (eV G S nc)) (h1 : lastMarks [op, op'] [b, c] = false := by rfl) :
    PE X (.Compare a [op, op'] [b, c] pos) (eV G S (dChain o o' na nb nc)) :=
  PE.imp (pe_chain ho ho' ha hb hc h1) fun σ H Q ⟨F, A, q⟩ => by
    refine ⟨F, A, na.mono (fun x q1 v F1 H1 e1 r1 => ⟨F1, A.go e1, nb.mono (fun y q2 u F2 H2 e2 r2 => ?_) (fun _ _ z => z) q1⟩) (fun _ _ z => z) q⟩
    refine hr F2 H2 x y v u _ ((A.go e1).go e2).ok (r1.ex e2.ex) r2 ((o x y).mono (fun z q3 w F3 H3 e3 r3 => ?_) (fun _ _ z => z) (ht x y _ _ q2))
    cases z with
    | bl k =>
      refine ⟨k, rp_bl r3, ?_⟩
      cases k with
      | true =>
        refine ⟨F3, ((A.go e1).go e2).go e3, nc.mono (fun w q4 u2 F4 H4 e4 r4 => ?_) (fun _ _ z => z) q3⟩
        exact hr' F4 H4 y w u u2 Q ((((A.go e1).go e2).go e3).go e4).ok (r2.ex (e3.ex.trans e4.ex)) r4 ((o' y w).mono (fun d q5 w5 F5 H5 e5 r5 => q5 w5 F5 H5 ((((e1.trans e2).trans e3).trans e4).trans e5) r5) (fun _ _ z => z) (ht' y w _ _ q4))
      | false => exact q3 _ F3 H3 ((e1.trans e2).trans e3) (.bl false)
    | _ => exact (show False from q3).elim

/-- == of two flat things of one kind -/
def sEq : D → D → N Bool
  | .int i, .int j => .ok (decide (i = j))
  | .str i, .str j => .ok (decide (i = j))
  | .bl i, .bl j => .ok (decide (i = j))
  | _, _ => .stuck
def dEqS (x y : D) : N D := (sEq x y).bind fun b => .ok (.bl b)
def dNeS (x y : D) : N D := (sEq x y).bind fun b => .ok (.bl (!b))
theorem sEq_tot (x y : D) : Tot (sEq x y) := by
  unfold sEq
  split <;> first | exact Tot.ok _ | exact Tot.stuck
theorem r2_EqS : R2D G rEq dEqS := by
  intro F H x y v u Q ok rx ry q
  unfold dEqS sEq at q
  split at q
  · rename_i i j
    rw [rp_int rx, rp_int ry]
    refine ⟨rfl, ?_⟩
    have e : decide (V.int i = V.int j) = decide (i = j) := by simp only [V.int.injEq]
    rw [e]; exact q _ F H (Ext.refl ok) (.bl _)
  · rename_i i j
    rw [rp_str rx, rp_str ry]
    refine ⟨rfl, ?_⟩
    have e : decide (V.str i = V.str j) = decide (i = j) := by simp only [V.str.injEq]
    rw [e]; exact q _ F H (Ext.refl ok) (.bl _)
  · rename_i i j
    rw [rp_bl rx, rp_bl ry]
    refine ⟨rfl, ?_⟩
    have e : decide (V.bl i = V.bl j) = decide (i = j) := by simp only [V.bl.injEq]
    rw [e]; exact q _ F H (Ext.refl ok) (.bl _)
  · exact q.elim
theorem r2_NeS : R2D G rNe dNeS := by
  intro F H x y v u Q ok rx ry q
  unfold dNeS sEq at q
  split at q
  · rename_i i j
    rw [rp_int rx, rp_int ry]
    refine ⟨rfl, ?_⟩
    have e : decide (V.int i = V.int j) = decide (i = j) := by simp only [V.int.injEq]
    rw [e]; exact q _ F H (Ext.refl ok) (.bl _)
  · rename_i i j
    rw [rp_str rx, rp_str ry]
    refine ⟨rfl, ?_⟩
    have e : decide (V.str i = V.str j) = decide (i = j) := by simp only [V.str.injEq]
    rw [e]; exact q _ F H (Ext.refl ok) (.bl _)
  · rename_i i j
    rw [rp_bl rx, rp_bl ry]
    refine ⟨rfl, ?_⟩
    have e : decide (V.bl i = V.bl j) = decide (i = j) := by simp only [V.bl.injEq]
    rw [e]; exact q _ F H (Ext.refl ok) (.bl _)
  · exact q.elim
theorem dEqS_tot (x y : D) : Tot (dEqS x y) := (sEq_tot x y).bind fun _ => Tot.ok _
theorem dNeS_tot (x y : D) : Tot (dNeS x y) := (sEq_tot x y).bind fun _ => Tot.ok _
theorem de_eqS (ha : PE X a (eV G S na)) (hb : PE X b (eV G S nb)) : PE X (.Compare a [.Eq] [b] pos) (eV G S (na.bind fun x => nb.bind fun y => dEqS x y)) := de_cmp op_eq r2_EqS dEqS_tot ha hb (nomark _)
theorem de_neS (ha : PE X a (eV G S na)) (hb : PE X b (eV G S nb)) : PE X (.Compare a [.NotEq] [b] pos) (eV G S (na.bind fun x => nb.bind fun y => dNeS x y)) := de_cmp op_ne r2_NeS dNeS_tot ha hb (nomark _)

/-! data as the library's data, for == at any depth -/
mutual
def toPy : D → Option PyData
  | .non => some .none
  | .bl b => some (.bool b)
  | .int i => some (.int i)
  | .str s => some (.str s)
  | .tup xs => (toPys xs).map .tuple
  | .ktup xs => (toPys xs).map .tuple
  | .lst xs => (toPys xs).map .list
  | .obj _ _ => none
  | .dl _ => none
def toPys : List D → Option (List PyData)
  | [] => some []
  | x :: xs => match toPy x, toPys xs with
    | some p, some ps => some (p :: ps)
    | _, _ => none
end
mutual
theorem dp_of {F : Ty} {H : Hp} (ok : Okk F H) : ∀ {v : V} {d : D} {p : PyData}, Rp G.Z F v d → toPy d = some p → Dp G.Z.K H v p
  | _, _, _, .non, e => by unfold toPy at e; cases e; exact .non
  | _, _, _, .bl b, e => by unfold toPy at e; cases e; exact .bl b
  | _, _, _, .int i, e => by unfold toPy at e; cases e; exact .int i
  | _, _, _, .str i, e => by unfold toPy at e; cases e; exact .str i
  | _, _, _, .tup r l, e => by
    unfold toPy at e
    obtain ⟨ps, h1, h2⟩ := Option.map_eq_some_iff.mp e
    subst h2
    exact .tup (sqT_of ok r) (dps_of ok l h1)
  | _, _, _, .ktup r l, e => by
    unfold toPy at e
    obtain ⟨ps, h1, h2⟩ := Option.map_eq_some_iff.mp e
    subst h2
    exact .tup (.inr r) (dps_of ok l h1)
  | _, _, _, .lst r l, e => by
    unfold toPy at e
    obtain ⟨ps, h1, h2⟩ := Option.map_eq_some_iff.mp e
    subst h2
    exact .lst (RL.sq ok r) (dps_of ok l h1)
  | _, _, _, .obj _ _ _, e => by unfold toPy at e; cases e
  | _, _, _, .dl _, e => by unfold toPy at e; cases e
theorem dps_of {F : Ty} {H : Hp} (ok : Okk F H) : ∀ {vs : List V} {ds : List D} {ps : List PyData}, RpL G.Z F vs ds → toPys ds = some ps → DpAll G.Z.K H vs ps
  | _, _, _, .nil, e => by unfold toPys at e; cases e; exact .nil
  | _, _, _, .cons (d := d) (ds := ds) r l, e => by
    unfold toPys at e
    cases h1 : toPy d with
    | none => rw [h1] at e; simp at e
    | some p =>
      cases h2 : toPys ds with
      | none => rw [h1, h2] at e; simp at e
      | some ps =>
        rw [h1, h2] at e
        simp at e
        subst e
        exact .cons (dp_of ok r h1) (dps_of ok l h2)
end
/-- == of data at any depth -/
def pEq (x y : D) : N Bool := match toPy x, toPy y with
  | some p, some q => (N.asrt (SeqAt.shaped p = true ∧ SeqAt.shaped q = true)).bind fun _ => .ok (PyData.eqv p q)
  | _, _ => .stuck
def dEqD (x y : D) : N D := (pEq x y).bind fun b => .ok (.bl b)
def dNeD (x y : D) : N D := (pEq x y).bind fun b => .ok (.bl (!b))
theorem pEq_tot (x y : D) : Tot (pEq x y) := by
  unfold pEq
  split
  · exact (Tot.asrt _).bind fun _ => Tot.ok _
  · exact Tot.stuck
theorem dEqD_tot (x y : D) : Tot (dEqD x y) := (pEq_tot x y).bind fun _ => Tot.ok _
theorem dNeD_tot (x y : D) : Tot (dNeD x y) := (pEq_tot x y).bind fun _ => Tot.ok _
theorem r2_EqD : R2D G (rEqD G.Z.K) dEqD := by
  intro F H x y v u Q ok rx ry q
  unfold dEqD pEq at q
  split at q
  · rename_i p q' hp hq
    exact ⟨p, q', dp_of ok rx hp, dp_of ok ry hq, q.1.1, q.1.2, q.2 _ F H (Ext.refl ok) (.bl _)⟩
  · exact q.elim
theorem r2_NeD : R2D G (rNeD G.Z.K) dNeD := by
  intro F H x y v u Q ok rx ry q
  unfold dNeD pEq at q
  split at q
  · rename_i p q' hp hq
    exact ⟨p, q', dp_of ok rx hp, dp_of ok ry hq, q.1.1, q.1.2, q.2 _ F H (Ext.refl ok) (.bl _)⟩
  · exact q.elim
theorem de_eqD {k : Nat} (hr : Room k X.A) (hK : G.Z.K = X.K) (ha : PE X a (eV G S na)) (hb : PE X b (eV G S nb)) : PE X (.Compare a [.Eq] [b] pos) (eV G S (na.bind fun x => nb.bind fun y => dEqD x y)) :=
  de_cmp (op_eqD hr.units) (by rw [← hK]; exact r2_EqD) dEqD_tot ha hb (nomark _)
theorem de_neD {k : Nat} (hr : Room k X.A) (hK : G.Z.K = X.K) (ha : PE X a (eV G S na)) (hb : PE X b (eV G S nb)) : PE X (.Compare a [.NotEq] [b] pos) (eV G S (na.bind fun x => nb.bind fun y => dNeD x y)) :=
  de_cmp (op_neD hr.units) (by rw [← hK]; exact r2_NeD) dNeD_tot ha hb (nomark _)

/-! subscripts -/
def items : D → Option (List D)
  | .tup xs => some xs
  | .ktup xs => some xs
  | .lst xs => some xs
  | _ => none
def dIx : D → D → N D
  | x, .int i => match items x with
    | some xs => match atI xs i with
      | some d => .ok d
      | none => .stuck
    | none => .stuck
  | _, _ => .stuck
theorem dIx_tot (x y : D) : Tot (dIx x y) := by
  unfold dIx
  split
  · split
    · split
      · exact Tot.ok _
      · exact Tot.stuck
    · exact Tot.stuck
  · exact Tot.stuck
theorem RpL.atI {Z : Zt} {F : Ty} {vs : List V} {ds : List D} {i : Int} {d : D} (l : RpL Z F vs ds) (h : atI ds i = some d) : ∃ v, atI vs i = some v ∧ Rp Z F v d := by
  unfold L2.atI at h ⊢
  obtain ⟨j, h1, h2⟩ := Option.bind_eq_some_iff.mp h
  obtain ⟨v, h3, r⟩ := l.get h2
  exact ⟨v, by rw [l.length, h1]; exact h3, r⟩
theorem r2_Ix : R2D G (rIx G.Z.K) dIx := by
  intro F H x y v u Q ok rx ry q
  unfold dIx at q
  split at q
  · rename_i i
    have eu := rp_int ry
    subst eu
    cases rx with
    | tup r l =>
      simp only [items] at q
      split at q
      · rename_i d hd
        obtain ⟨w, hw, rw'⟩ := l.atI hd
        exact .inr (.inl ⟨_, _, _, w, rfl, rfl, sqT_of ok r, hw, q w F H (Ext.refl ok) rw'⟩)
      · exact q.elim
    | ktup r l =>
      simp only [items] at q
      split at q
      · rename_i d hd
        obtain ⟨w, hw, rw'⟩ := l.atI hd
        exact .inr (.inl ⟨_, _, _, w, rfl, rfl, .inr r, hw, q w F H (Ext.refl ok) rw'⟩)
      · exact q.elim
    | lst r l =>
      simp only [items] at q
      split at q
      · rename_i d hd
        obtain ⟨w, hw, rw'⟩ := l.atI hd
        exact .inl ⟨_, _, _, w, rfl, rfl, RL.sq ok r, hw, q w F H (Ext.refl ok) rw'⟩
      · exact q.elim
    | _ => exact q.elim
  · exact q.elim
theorem de_ixD (hK : G.Z.K = X.K) (ha : PE X a (eV G S na)) (hb : PE X b (eV G S nb)) (hs : PlainIx b := by exact fun _ _ => rfl) : PE X (.Subscript a b pos) (eV G S (na.bind fun x => nb.bind fun y => dIx x y)) :=
  de_ix ix_seq (by rw [← hK]; exact r2_Ix) dIx_tot ha hb hs

/-! tuple + tuple -/
def dCat : D → D → N D
  | .tup xs, .tup ys => (N.asrt (xs.length + ys.length ≤ sizeLine)).bind fun _ => .ok (.tup (xs ++ ys))
  | _, _ => .stuck
theorem dCat_tot (x y : D) : Tot (dCat x y) := by
  unfold dCat
  split
  · exact (Tot.asrt _).bind fun _ => Tot.ok _
  · exact Tot.stuck
end
end M

set_option Elab.async false
set_option linter.all false
set_option maxRecDepth 100000
set_option maxHeartbeats 2000000
namespace M
open PySem L2
section
variable {G : Gx} {X : Cx} {S : List Sl} {a b c : Expr} {na nb nc : N D} {pos : Pos}
theorem new_tup {Z : Zt} {F : Ty} {H : Hp} {vs : List V} {ds : List D} {p : Addr} (ok : Okk F H) (hp : H p = none) (l : RpL Z F vs ds) : Ext F H (updT F p (is (.tup vs))) (upd H p (.tup vs)) ∧ Rp Z (updT F p (is (.tup vs))) (.ref p) (.tup ds) := by
  have e2 := Ext.new (o := .tup vs) (p := is (.tup vs)) ok hp rfl
  exact ⟨e2, .tup updT_same (l.ex e2.ex)⟩
theorem new_lst {Z : Zt} {F : Ty} {H : Hp} {vs : List V} {ds : List D} {p : Addr} (ok : Okk F H) (hp : H p = none) (l : RpL Z F vs ds) : Ext F H (updT F p (is (.lst vs))) (upd H p (.lst vs)) ∧ Rp Z (updT F p (is (.lst vs))) (.ref p) (.lst ds) := by
  have e2 := Ext.new (o := .lst vs) (p := is (.lst vs)) ok hp rfl
  exact ⟨e2, .lst (.inl (.inl updT_same)) (l.ex e2.ex)⟩
theorem r2_Cat : R2D G (rCatA G.Z.K) dCat := by
  intro F H x y v u Q ok rx ry q
  unfold dCat at q
  split at q
  · cases rx with
    | tup r1 l1 =>
      cases ry with
      | tup r2 l2 =>
        rename_i xs ys a vs b us
        refine ⟨_, _, _, _, rfl, rfl, sqT_of ok r1, sqT_of ok r2, by rw [l1.length, l2.length]; exact q.1, fun e => ?_, fun n e => ?_, fun n n2 p hp => ?_⟩
        · subst e
          cases l1
          exact q.2 _ F H (Ext.refl ok) (.tup r2 l2)
        · subst e
          cases l2
          have := q.2 (.ref a) F H (Ext.refl ok)
          rw [List.append_nil] at this
          exact this (.tup r1 l1)
        · have e2 := Ext.new (o := .tup (vs ++ us)) (p := is (.tup (vs ++ us))) ok hp rfl
          exact q.2 _ _ _ e2 (.tup updT_same ((l1.append l2).ex e2.ex))
  · exact q.elim
theorem de_cat (hK : G.Z.K = X.K) (ha : PE X a (eV G S na)) (hb : PE X b (eV G S nb)) : PE X (.BinOp a .Add b pos) (eV G S (na.bind fun x => nb.bind fun y => dCat x y)) :=
  de_op op_catA (by rw [← hK]; exact r2_Cat) dCat_tot ha hb

/-! t[lo:hi] of a tuple -/
def cutD (xs : List D) (lo hi : Option Int) : List D := (xs.drop (HT.sIx xs.length 0 lo)).take (HT.sIx xs.length xs.length hi - HT.sIx xs.length 0 lo)
def oV (n : N (Option Int)) : TO := fun σ H Q => ∃ F, At G.Z G.B S F σ H ∧ n.wp (fun d => ∀ F' H', Ext F H F' H' → Q d H') G.Er
def toI : D → N Int
  | .int i => .ok i
  | _ => .stuck
theorem do_none : PO X none (oV (G := G) (S := S) (.ok none)) := ⟨fun pins s σ H Q I ⟨F, A, q⟩ => po_none.run pins s σ H Q I (q F H (Ext.refl A.ok))⟩
theorem do_some (ha : PE X a (eV G S na)) : PO X (some a) (oV (G := G) (S := S) (na.bind fun d => (toI d).bind fun i => .ok (some i))) := ⟨fun pins s σ H Q I ⟨F, A, q⟩ => (po_some ha).run pins s σ H Q I ⟨F, A, na.mono (fun d q1 v F1 H1 e1 r1 => by
  cases d with
  | int i => exact ⟨i, rp_int r1, q1 F1 H1 e1⟩
  | _ => exact (show False from q1).elim) (fun _ _ z => z) q⟩⟩
def dSlT (d : D) (lo hi : Option Int) : N D := match d with
  | .tup xs => .ok (.tup (cutD xs lo hi))
  | _ => .stuck
theorem cutD_whole {Z : Zt} {F : Ty} {vs : List V} {xs : List D} {lo hi : Option Int} (l : RpL Z F vs xs) (h : HT.sIx vs.length 0 lo = 0 ∧ HT.sIx vs.length vs.length hi = vs.length) : cutD xs lo hi = xs := by
  unfold cutD
  rw [← l.length, h.1, h.2, List.drop_zero, Nat.sub_zero, l.length, List.take_length]
theorem de_slT (hK : G.Z.K = X.K) {lo hi : Option Expr} {nl nh : N (Option Int)} {p2 : Pos} (ha : PE X a (eV G S na)) (hl : PO X lo (oV (G := G) (S := S) nl)) (hh : PO X hi (oV (G := G) (S := S) nh)) :
    PE X (.Subscript a (.Slice lo hi none p2) pos) (eV G S (na.bind fun d => nl.bind fun l => nh.bind fun h => dSlT d l h)) :=
  PE.imp (pe_slice sl_tupA ha hl hh) fun σ H Q ⟨F, A, q⟩ => ⟨F, A, na.mono (fun d q1 v F1 H1 e1 r1 => ⟨F1, A.go e1, nl.mono (fun lo q2 F2 H2 e2 => ⟨F2, (A.go e1).go e2, nh.mono (fun hi q3 F3 H3 e3 => by
    unfold dSlT at q3
    have ok3 := (((A.go e1).go e2).go e3).ok
    cases r1 with
    | tup r l =>
      rename_i a vs xs
      have r3 := (e2.ex.trans e3.ex) _ _ r
      have l3 := l.ex (e2.ex.trans e3.ex)
      refine ⟨_, _, rfl, by rw [← hK]; exact sqT_of ok3 r3, fun h => ?_, fun h p hp => ?_⟩
      · have e := cutD_whole l3 h
        have := q3 (.ref a) F3 H3 ((e1.trans e2).trans e3)
        rw [e] at this
        exact this (.tup r3 l3)
      · have e4 := Ext.new (o := .tup (cutV vs lo hi)) (p := is (.tup (cutV vs lo hi))) ok3 hp rfl
        refine q3 _ _ _ (((e1.trans e2).trans e3).trans e4) (.tup updT_same ?_)
        unfold cutV cutD
        rw [← l3.length]
        exact ((l3.drop _).take _).ex e4.ex
    | _ => exact (show False from q3).elim) (fun _ _ z => z) q2⟩) (fun _ _ z => z) q1⟩) (fun _ _ z => z) q⟩

/-! x in t, flat things -/
def flat : D → Bool
  | .non => true
  | .bl _ => true
  | .int _ => true
  | .str _ => true
  | _ => false
def eqF : D → D → Bool
  | .non, .non => true
  | .bl a, .bl b => a == b
  | .bl a, .int b => (if a then 1 else 0) == b
  | .int a, .bl b => a == (if b then 1 else 0)
  | .int a, .int b => a == b
  | .str a, .str b => a == b
  | _, _ => false
def dIn (neg : Bool) (x y : D) : N D := match items y with
  | some xs => (N.asrt (flat x = true ∧ xs.all flat = true)).bind fun _ => .ok (.bl (if neg then !xs.any (fun z => eqF z x) else xs.any fun z => eqF z x))
  | none => .stuck
theorem dIn_tot (neg : Bool) (x y : D) : Tot (dIn neg x y) := by
  unfold dIn
  split
  · exact (Tot.asrt _).bind fun _ => Tot.ok _
  · exact Tot.stuck
theorem flat_of {F : Ty} {v : V} {d : D} (r : Rp G.Z F v d) (h : flat d = true) : flatV v = true := by
  cases r <;> first | rfl | cases h
theorem flats_of {F : Ty} : ∀ {vs : List V} {ds : List D}, RpL G.Z F vs ds → ds.all flat = true → vs.all flatV = true
  | _, _, .nil, _ => rfl
  | _, _, .cons r l, h => by
    rw [List.all_cons, Bool.and_eq_true] at h ⊢
    exact ⟨flat_of r h.1, flats_of l h.2⟩
theorem eqF_of {F : Ty} {v u : V} {d e : D} (r : Rp G.Z F v d) (q : Rp G.Z F u e) (h : flat d = true) (h2 : flat e = true) : eqV v u = eqF d e := by
  cases r <;> first | (cases q <;> first | rfl | cases h2) | cases h
theorem anyF_of {F : Ty} {u : V} {e : D} (q : Rp G.Z F u e) (h2 : flat e = true) : ∀ {vs : List V} {ds : List D}, RpL G.Z F vs ds → ds.all flat = true → inV u vs = ds.any fun z => eqF z e
  | _, _, .nil, _ => rfl
  | _, _, .cons r l, h => by
    rw [List.all_cons, Bool.and_eq_true] at h
    unfold inV
    rw [List.any_cons, List.any_cons, eqF_of r q h.1 h2]
    congr 1
    exact anyF_of q h2 l h.2
theorem r2_In (neg : Bool) : R2D G (rIn G.Z.K neg) (dIn neg) := by
  intro F H x y v u Q ok rx ry q
  unfold dIn at q
  cases ry with
  | tup r l =>
    obtain ⟨⟨h1, h2⟩, q⟩ := q
    refine ⟨_, _, rfl, .inr (sqT_of ok r), flat_of rx h1, flats_of l h2, ?_⟩
    rw [anyF_of rx h1 l h2]
    exact q _ F H (Ext.refl ok) (.bl _)
  | ktup r l =>
    obtain ⟨⟨h1, h2⟩, q⟩ := q
    refine ⟨_, _, rfl, .inr (.inr r), flat_of rx h1, flats_of l h2, ?_⟩
    rw [anyF_of rx h1 l h2]
    exact q _ F H (Ext.refl ok) (.bl _)
  | lst r l =>
    obtain ⟨⟨h1, h2⟩, q⟩ := q
    refine ⟨_, _, rfl, .inl (RL.sq ok r), flat_of rx h1, flats_of l h2, ?_⟩
    rw [anyF_of rx h1 l h2]
    exact q _ F H (Ext.refl ok) (.bl _)
  | _ => exact q.elim
theorem de_inF (hK : G.Z.K = X.K) (ha : PE X a (eV G S na)) (hb : PE X b (eV G S nb)) (hm : behindInMarks .In b = false := by rfl) : PE X (.Compare a [.In] [b] pos) (eV G S (na.bind fun x => nb.bind fun y => dIn false x y)) :=
  de_cmp op_in_seq (by rw [← hK]; exact r2_In false) (dIn_tot false) ha hb hm
theorem de_notInF (hK : G.Z.K = X.K) (ha : PE X a (eV G S na)) (hb : PE X b (eV G S nb)) (hm : behindInMarks .NotIn b = false := by rfl) : PE X (.Compare a [.NotIn] [b] pos) (eV G S (na.bind fun x => nb.bind fun y => dIn true x y)) :=
  de_cmp op_notIn_seq (by rw [← hK]; exact r2_In true) (dIn_tot true) ha hb hm
/-- a constant of the module that is a tuple of flat things -/
theorem de_kt {x : Str} {p : Addr} {vs : List V} {ds : List D} (hm : X.mg x = some (.ref p)) (hk : KT G.Z.K p vs) (hr : ∀ F, RpL G.Z F vs ds) (hg : Gl X x := by rfl) (hd : (x == ("__debug__" : Str)) = false := by decide) : PE X (.Name x pos) (eV G S (.ok (.ktup ds))) :=
  de_c (v := .ref p) (pe_glob hg hm rfl hd) fun F => .ktup hk (hr F)

/-! built-in functions -/
theorem de_b1 {x : Str} {p : Pos} {id : String} {r : List V → Hp → VK → Prop} {o : D → N D} (hc : CallR X (.builtin id) r) (hr : RCD G r (app1 o)) (ht : ∀ x, Tot (o x)) (hm : X.mg x = none) (hv : bootBuiltins x = some (.builtin id)) (ha : PE X a (eV G S na))
    (hg : Gl X x := by rfl) (hn : x ≠ "__name__" := by decide) (hdb : (x == ("__debug__" : Str)) = false := by decide) (he : starEach (a :: []) X.env = (false, eval a X.env) :: starEach [] X.env := by rfl) (hpl : (backTo pos (starEach [] X.env)).any (·.1) = false := by rfl) :
    PE X (.Call (.Name x p) [a] [] pos) (eV G S (na.bind o)) :=
  PE.imp (pe_callB hc hg hm hv (da_cons ha da_nil he) hn hdb he hpl) fun σ H Q ⟨F, A, q⟩ => ⟨F, A, na.mono (fun d q1 vs F1 H1 e1 r1 => hr F1 H1 [d] vs Q (A.go e1).ok r1 ((o d).mono (fun z q2 w F2 H2 e2 r2 => q2 w F2 H2 (e1.trans e2) r2) (fun _ _ z => z) (ht d _ _ q1))) (fun _ _ z => z) q⟩
theorem de_t1 {x : Str} {p : Pos} {T : String} {r : List V → Hp → VK → Prop} {o : D → N D} (hc : CallR X (.type T) r) (hr : RCD G r (app1 o)) (ht : ∀ x, Tot (o x)) (hm : X.mg x = none) (hv : bootBuiltins x = some (.type T)) (ha : PE X a (eV G S na))
    (hg : Gl X x := by rfl) (hn : x ≠ "__name__" := by decide) (hdb : (x == ("__debug__" : Str)) = false := by decide) (he : starEach (a :: []) X.env = (false, eval a X.env) :: starEach [] X.env := by rfl) (hpl : (backTo pos (starEach [] X.env)).any (·.1) = false := by rfl) :
    PE X (.Call (.Name x p) [a] [] pos) (eV G S (na.bind o)) :=
  PE.imp (pe_callTy hc hg hm hv (da_cons ha da_nil he) hn hdb he hpl) fun σ H Q ⟨F, A, q⟩ => ⟨F, A, na.mono (fun d q1 vs F1 H1 e1 r1 => hr F1 H1 [d] vs Q (A.go e1).ok r1 ((o d).mono (fun z q2 w F2 H2 e2 r2 => q2 w F2 H2 (e1.trans e2) r2) (fun _ _ z => z) (ht d _ _ q1))) (fun _ _ z => z) q⟩
def dLen (d : D) : N D := match items d with
  | some xs => .ok (.int xs.length)
  | none => .stuck
theorem dLen_tot (x : D) : Tot (dLen x) := by
  unfold dLen
  split
  · exact Tot.ok _
  · exact Tot.stuck
theorem rc_len : RCD G (fun xs H Q => ∃ p ys, xs = [V.ref p] ∧ (SqL G.Z.K H p ys ∨ SqT G.Z.K H p ys) ∧ Q (.int ys.length) H) (app1 dLen) := by
  intro F H xs vs Q ok l q
  cases l with
  | nil => exact q.elim
  | cons r l2 =>
    cases l2 with
    | cons _ _ => exact q.elim
    | nil =>
      unfold app1 dLen at q
      cases r with
      | tup r l => exact ⟨_, _, rfl, .inr (sqT_of ok r), by rw [l.length]; exact q _ F H (Ext.refl ok) (.int _)⟩
      | ktup r l => exact ⟨_, _, rfl, .inr (.inr r), by rw [l.length]; exact q _ F H (Ext.refl ok) (.int _)⟩
      | lst r l => exact ⟨_, _, rfl, .inl (RL.sq ok r), by rw [l.length]; exact q _ F H (Ext.refl ok) (.int _)⟩
      | _ => exact q.elim
theorem de_len (hK : G.Z.K = X.K) {p : Pos} (hm : X.mg "len" = none) (ha : PE X a (eV G S na)) (hg : Gl X "len" := by rfl) (he : starEach (a :: []) X.env = (false, eval a X.env) :: starEach [] X.env := by rfl) (hpl : (backTo pos (starEach [] X.env)).any (·.1) = false := by rfl) :
    PE X (.Call (.Name "len" p) [a] [] pos) (eV G S (na.bind dLen)) := de_b1 call_len_seq (by rw [← hK]; exact rc_len) dLen_tot hm PySem.boot_len ha hg (by decide) (by decide) he hpl
def dTuple : D → N D
  | .tup xs => .ok (.tup xs)
  | .ktup xs => .ok (.ktup xs)
  | .lst xs => .ok (.tup xs)
  | _ => .stuck
theorem dTuple_tot (x : D) : Tot (dTuple x) := by
  unfold dTuple
  split <;> first | exact Tot.ok _ | exact Tot.stuck
theorem rc_tuple : RCD G (fun xs H Q => ∃ p ys, xs = [V.ref p] ∧ ((SqL G.Z.K H p ys ∧ ∀ l, H l = none → Q (.ref l) (upd H l (.tup ys))) ∨ (SqT G.Z.K H p ys ∧ Q (.ref p) H))) (app1 dTuple) := by
  intro F H xs vs Q ok l q
  cases l with
  | nil => exact q.elim
  | cons r l2 =>
    cases l2 with
    | cons _ _ => exact q.elim
    | nil =>
      unfold app1 dTuple at q
      cases r with
      | tup r l => exact ⟨_, _, rfl, .inr ⟨sqT_of ok r, q _ F H (Ext.refl ok) (.tup r l)⟩⟩
      | ktup r l => exact ⟨_, _, rfl, .inr ⟨.inr r, q _ F H (Ext.refl ok) (.ktup r l)⟩⟩
      | lst r l => exact ⟨_, _, rfl, .inl ⟨RL.sq ok r, fun p hp => by
          obtain ⟨e2, r2⟩ := new_tup ok hp l
          exact q _ _ _ e2 r2⟩⟩
      | _ => exact q.elim
theorem de_tuple (hK : G.Z.K = X.K) {p : Pos} (hm : X.mg "tuple" = none) (ha : PE X a (eV G S na)) (hg : Gl X "tuple" := by rfl) (he : starEach (a :: []) X.env = (false, eval a X.env) :: starEach [] X.env := by rfl) (hpl : (backTo pos (starEach [] X.env)).any (·.1) = false := by rfl) :
    PE X (.Call (.Name "tuple" p) [a] [] pos) (eV G S (na.bind dTuple)) := de_t1 call_tuple_of (by rw [← hK]; exact rc_tuple) dTuple_tot hm (by decide +kernel) ha hg (by decide) (by decide) he hpl
def dList (d : D) : N D := match items d with
  | some xs => .ok (.lst xs)
  | none => .stuck
theorem dList_tot (x : D) : Tot (dList x) := by
  unfold dList
  split <;> first | exact Tot.ok _ | exact Tot.stuck
theorem rc_list : RCD G (fun xs H Q => ∃ p ys, xs = [V.ref p] ∧ (SqL G.Z.K H p ys ∨ SqT G.Z.K H p ys) ∧ ∀ l, H l = none → Q (.ref l) (upd H l (.lst ys))) (app1 dList) := by
  intro F H xs vs Q ok l q
  cases l with
  | nil => exact q.elim
  | cons r l2 =>
    cases l2 with
    | cons _ _ => exact q.elim
    | nil =>
      unfold app1 dList at q
      cases r with
      | tup r l => exact ⟨_, _, rfl, .inr (sqT_of ok r), fun p hp => by
          obtain ⟨e2, r2⟩ := new_lst ok hp l
          exact q _ _ _ e2 r2⟩
      | ktup r l => exact ⟨_, _, rfl, .inr (.inr r), fun p hp => by
          obtain ⟨e2, r2⟩ := new_lst ok hp l
          exact q _ _ _ e2 r2⟩
      | lst r l => exact ⟨_, _, rfl, .inl (RL.sq ok r), fun p hp => by
          obtain ⟨e2, r2⟩ := new_lst ok hp l
          exact q _ _ _ e2 r2⟩
      | _ => exact q.elim
theorem de_list (hK : G.Z.K = X.K) {p : Pos} (hm : X.mg "list" = none) (ha : PE X a (eV G S na)) (hg : Gl X "list" := by rfl) (he : starEach (a :: []) X.env = (false, eval a X.env) :: starEach [] X.env := by rfl) (hpl : (backTo pos (starEach [] X.env)).any (·.1) = false := by rfl) :
    PE X (.Call (.Name "list" p) [a] [] pos) (eV G S (na.bind dList)) := de_t1 call_list_of (by rw [← hK]; exact rc_list) dList_tot hm (by decide +kernel) ha hg (by decide) (by decide) he hpl

/-! isinstance -/
/-- the built-in type's name of a datum (own objects: none) -/
def tyN : D → Option String
  | .non => some "NoneType"
  | .bl _ => some "bool"
  | .int _ => some "int"
  | .str _ => some "str"
  | .tup _ => some "tuple"
  | .ktup _ => some "tuple"
  | .lst _ => some "list"
  | _ => none
def dIsi (T : String) (d : D) : N D := match tyN d with
  | some t => match kitB t T with
    | some b => .ok (.bl b)
    | none => .stuck
  | none => .stuck
theorem tyX_of {F : Ty} {H : Hp} {v : V} {d : D} {t : String} (ok : Okk F H) (r : Rp G.Z F v d) (h : tyN d = some t) : TyX G.Z.K H v (.type t) := by
  cases r with
  | non => cases h; exact .base .non
  | bl b => cases h; exact .base (.bl b)
  | int b => cases h; exact .base (.int b)
  | str b => cases h; exact .base (.str b)
  | tup r l => cases h; exact .base (.tup (tup_of ok r))
  | ktup r l =>
    cases h
    obtain ⟨o, its, n, h1, h2, _⟩ := r
    exact .kTuple h1 h2
  | lst r l =>
    cases h
    rcases r with (r | ⟨ob, r⟩) | ⟨o, its, n, h1, h2, _⟩
    · exact .base (.lst (tup_of ok r))
    · exact .base (.frz (tup_of ok r))
    · exact .kList h1 h2
  | obj _ _ _ => cases h
  | dl _ => cases h
theorem de_isi (hK : G.Z.K = X.K) {T : Str} {Ts : String} {p pT : Pos} (hm : X.mg "isinstance" = none) (hmT : X.mg T = none) (hvT : bootBuiltins T = some (.type Ts)) (ha : PE X a (eV G S na)) (hg : Gl X "isinstance" := by rfl) (hgT : Gl X T := by rfl) (hnT : T ≠ "__name__" := by decide) (hdT : (T == ("__debug__" : Str)) = false := by decide)
    (he : starEach (a :: .Name T pT :: []) X.env = (false, eval a X.env) :: starEach [.Name T pT] X.env := by rfl) (he2 : starEach (.Name T pT :: []) X.env = (false, eval (.Name T pT) X.env) :: starEach [] X.env := by rfl) (hpl : (backTo pos (starEach [.Name T pT] X.env)).any (·.1) = false := by rfl) :
    PE X (.Call (.Name "isinstance" p) [a, .Name T pT] [] pos) (eV G S (na.bind (dIsi Ts))) :=
  PE.imp (pe_callB call_isi hg hm (by decide +kernel) (pa_cons ha (pa_cons (pe_bltn (v := .ty Ts) hgT hmT hvT rfl hnT hdT) pa_nil he2) he) (by decide) (by decide) he hpl) fun σ H Q ⟨F, A, q⟩ => ⟨F, A, na.mono (fun d q1 v F1 H1 e1 r1 => by
    unfold dIsi at q1
    cases ht : tyN d with
    | none => rw [ht] at q1; exact (show False from q1).elim
    | some t =>
      rw [ht] at q1
      cases hb : kitB t Ts with
      | none => simp only [hb] at q1; exact (show False from q1).elim
      | some b =>
        simp only [hb] at q1
        exact ⟨v, .ty Ts, .type t, .type Ts, b, rfl, .ty Ts, by rw [← hK]; exact tyX_of (A.go e1).ok r1 ht, kit_ty hb, q1 _ F1 H1 e1 (.bl b)⟩) (fun _ _ z => z) q⟩
/-- isinstance(x, (T, U)) -/
def dIsi2 (T U : String) (d : D) : N D := match tyN d with
  | some t => match kitB t T, kitB t U with
    | some b, some c => .ok (.bl (b || c))
    | _, _ => .stuck
  | none => .stuck
theorem de_isi2 (hK : G.Z.K = X.K) {T U : Str} {Ts Us : String} {p pT pU pt : Pos} {x1} (hm : X.mg "isinstance" = none) (hmT : X.mg T = none) (hvT : bootBuiltins T = some (.type Ts)) (hmU : X.mg U = none) (hvU : bootBuiltins U = some (.type Us)) (ha : PE X a (eV G S na))
    (hg : Gl X "isinstance" := by rfl) (hgT : Gl X T := by rfl) (hnT : T ≠ "__name__" := by decide) (hdT : (T == ("__debug__" : Str)) = false := by decide) (hgU : Gl X U := by rfl) (hnU : U ≠ "__name__" := by decide) (hdU : (U == ("__debug__" : Str)) = false := by decide)
    (he : starEach (a :: .Tuple [.Name T pT, .Name U pU] x1 pt :: []) X.env = (false, eval a X.env) :: starEach [.Tuple [.Name T pT, .Name U pU] x1 pt] X.env := by rfl)
    (he2 : starEach (.Tuple [.Name T pT, .Name U pU] x1 pt :: []) X.env = (false, eval (.Tuple [.Name T pT, .Name U pU] x1 pt) X.env) :: starEach [] X.env := by rfl) (hpl : (backTo pos (starEach [.Tuple [.Name T pT, .Name U pU] x1 pt] X.env)).any (·.1) = false := by rfl)
    (he3 : starEach (.Name T pT :: .Name U pU :: []) X.env = (false, eval (.Name T pT) X.env) :: starEach [.Name U pU] X.env := by rfl) (he4 : starEach (.Name U pU :: []) X.env = (false, eval (.Name U pU) X.env) :: starEach [] X.env := by rfl) :
    PE X (.Call (.Name "isinstance" p) [a, .Tuple [.Name T pT, .Name U pU] x1 pt] [] pos) (eV G S (na.bind (dIsi2 Ts Us))) :=
  PE.imp (pe_callB call_isiT hg hm (by decide +kernel) (pa_cons ha (pa_cons (pe_tup (pa_cons (pe_bltn (v := .ty Ts) hgT hmT hvT rfl hnT hdT) (pa_cons (pe_bltn (v := .ty Us) hgU hmU hvU rfl hnU hdU) pa_nil he4) he3)) pa_nil he2) he) (by decide) (by decide) he hpl) fun σ H Q ⟨F, A, q⟩ => ⟨F, A, na.mono (fun d q1 v F1 H1 e1 r1 => by
    unfold dIsi2 at q1
    cases ht : tyN d with
    | none => rw [ht] at q1; exact (show False from q1).elim
    | some t =>
      rw [ht] at q1
      cases hb : kitB t Ts with
      | none => simp only [hb] at q1; exact (show False from q1).elim
      | some b =>
        cases hc : kitB t Us with
        | none => simp only [hb, hc] at q1; exact (show False from q1).elim
        | some c =>
          simp only [hb, hc] at q1
          refine ⟨by show 2 ≤ sizeLine; decide, fun p hp => ?_⟩
          have ok1 := (A.go e1).ok
          have e2 := Ext.own (o := .tup [.ty Ts, .ty Us]) ok1 hp
          refine ⟨v, p, [.ty Ts, .ty Us], .type t, [.type Ts, .type Us], b || c, rfl, upd_same, .cons (.ty Ts) (.cons (.ty Us) .nil), by rw [← hK]; exact tyX_of e2.ok (r1.ex e2.ex) ht, ?_, q1 _ F1 _ (e1.trans e2) (.bl _)⟩
          cases b with
          | true => exact kitAny_cons (b := true) (kit_ty hb) (fun h => by cases h) (fun _ => rfl)
          | false =>
            refine kitAny_cons (b := false) (kit_ty hb) (fun _ => ?_) (fun h => by cases h)
            cases c with
            | true => exact kitAny_cons (b := true) (kit_ty hc) (fun h => by cases h) (fun _ => rfl)
            | false => exact kitAny_cons (b := false) (kit_ty hc) (fun _ => kitAny_nil) (fun h => by cases h)) (fun _ _ z => z) q⟩
end
end M

set_option Elab.async false
set_option linter.all false
set_option maxRecDepth 100000
set_option maxHeartbeats 2000000
namespace M
open PySem L2
/-! ### loops -/
def N.loop {α τ β : Type} (body : α → τ → N (Fl τ τ)) : List α → τ → N (Fl τ β)
  | [], t => .ok (.nx t)
  | x :: xs, t => (body x t).bind fun f => match f with
    | .nx t' => N.loop body xs t'
    | .ct t' => N.loop body xs t'
    | .bk t' => .ok (.nx t')
    | .rt d => .ok (.rt d)
def seqOf (d : D) : N (List D) := match items d with
  | some xs => .ok xs
  | none => .stuck
section
variable {X : Cx} {tg : Expr}
/-- a list or a tuple, walked -/
def iSeq (K : PySem.W.Frag) (tl : TE) : TI := fun σ H R => tl σ H fun x H1 => ∃ a, x = .ref a ∧ (((∃ xs, SqL K H1 a xs) ∧ R (Itl K a) H1) ∨ ((∃ xs, SqT K H1 a xs) ∧ R (Itt K a) H1))
theorem pi_seq {l : Expr} {tl : TE} (hl : PE X l tl) : PI X tg l (iSeq X.K tl) := by
  refine ⟨fun pins s σ H R I h => ?_⟩
  refine thn (hl.run pins s σ H _ I h) fun v s1 ⟨x, H1, I1, r1, q1⟩ => ?_
  obtain ⟨a, e, q⟩ := q1
  subst e
  cases r1
  have fpn : ∀ b ∈ [s1.heap.objs.size], FpOk X pins H1 b := fun b hb => by
    have e : b = s1.heap.objs.size := by simpa using hb
    subst e
    exact I1.fpOk (Nat.le_refl _) (I1.hok.fresh (Nat.le_refl _))
  rcases q with ⟨⟨xs, hq⟩, q⟩ | ⟨⟨xs, hq⟩, q⟩
  · obtain ⟨its, rv, p, hz⟩ := I1.list hq
    refine wpAny_pyIter_list p.isList ?_
    exact ⟨s1.heap.objs.size, [s1.heap.objs.size], _, _, H1, rfl, I1.kept (t' := s1.toks) fun b o e => Heap.get?_push_of_some _ e, turn_list a _, ⟨_, Heap.get?_push_size _ rfl, rfl, rfl⟩, fpn, q⟩
  · obtain ⟨its, rv, p, hz⟩ := I1.tuple hq
    refine wpAny_pyIter_tuple (show s1.heap.IsTuple a its.toArray from p) ?_
    exact ⟨s1.heap.objs.size, [s1.heap.objs.size], _, _, H1, rfl, I1.kept (t' := s1.toks) fun b o e => Heap.get?_push_of_some _ e, turn_tuple a _, ⟨_, Heap.get?_push_size _ rfl, rfl, rfl⟩, fpn, q⟩
end
section
variable {X : Cx} {G : Gx} {S : List Sl} {τ β : Type} {sl : τ → List Sl} {sb : β → List Sl} {a b c e : Expr} {na nb : N D} {pos : Pos} {body : List Stmt}
/-- the word of a loop over items: what is left of the loop, run on from here, leads to what is wanted -/
def LW {α : Type} (G : Gx) (F0 : Ty) (sl : τ → List Sl) (sb : β → List Sl) (E : Ends) (bn : α → τ → N (Fl τ τ)) (xs : List α) : St → Hp → Prop :=
  fun σ H => ∃ t F, Ex F0 F ∧ At G.Z G.B (sl t) F σ H ∧ (N.loop (β := β) bn xs t).wp (flP G F0 sl sb E) G.Er
/-- one turn: the body's derivation, from the slots with the item in them -/
theorem loop_turn {α : Type} {F0 : Ty} {E : Ends} {bn : α → τ → N (Fl τ τ)} {x : α} {xs : List α} {t : τ} {F : Ty} {σ : St} {H : Hp} {S' : List Sl} (e0 : Ex F0 F) (A : At G.Z G.B S' F σ H)
    (q : (N.loop (β := β) bn (x :: xs) t).wp (flP G F0 sl sb E) G.Er) : sV G S' sl sl (bn x t) { nx := LW G F0 sl sb E bn xs, ct := LW G F0 sl sb E bn xs, bk := E.nx, rt := E.rt } σ H := by
  refine ⟨F, A, (bn x t).mono (fun f q1 => ?_) (fun _ _ z => z) q⟩
  cases f with
  | nx t' => exact fun F' σ' H' e A' => ⟨t', F', e0.trans e, A', q1⟩
  | ct t' => exact fun F' σ' H' e A' => ⟨t', F', e0.trans e, A', q1⟩
  | bk t' => exact fun F' σ' H' e A' => q1 F' σ' H' (e0.trans e) A'
  | rt d => exact q1
/-- for x in e (a list or a tuple); j the slot of x -/
theorem ds_for {j : Nat} {x : Str} {px : Pos} (t0 : τ) {bn : D → τ → N (Fl τ τ)} (hp : PassesOwn (model X.prog X.w) X.A X.env X.xe) (hc : X.calm = true) (hK : G.Z.K = X.K) (hN : X.N.Nodup) (ha : PE X a (eV G S na)) (h0 : Wk S (sl t0))
    (hb : ∀ y t, PSs X body (sV G ((sl t).set j (.dat y)) sl sl (bn y t))) (hi : X.N[j]? = some x := by rfl) (hx : Loc X.env.scope x := by first | exact Or.inl rfl | exact Or.inr rfl)
    (hf : X.fn x = true ∨ X.env.scope.names.lookup x = some .local := by first | exact .inl rfl | exact .inr rfl) (hs : ∀ v, foldedSetIterable a X.env v = pure v := by intro _; rfl) :
    PS X (.For (.Name x px) a body [] pos) (sV G S sl sb (na.bind fun d => (seqOf d).bind fun xs => N.loop bn xs t0)) := by
  refine PS.imp (ps_for hp hc (pi_seq ha) (pg_name (i := j) hN hi hx hf) (PSs.ex fun p : D × τ => hb p.1 p.2) hs) fun E σ H ⟨F, A, q⟩ => ?_
  refine ⟨F, A, na.mono (fun d q1 v F1 H1 e1 r1 => ?_) (fun _ _ z => z) q⟩
  have A1 := A.go e1
  have start : ∀ (xs : List D), (N.loop (β := β) bn xs t0).wp (flP G F sl sb E) G.Er → LW G F1 sl sb E bn xs σ H1 := fun xs h => ⟨t0, F1, Ex.refl F1, A1.weak h0, (N.loop bn xs t0).mono (fun f z => flP.ex G e1.ex z) (fun _ _ z => z) h⟩
  have turn : ∀ (xs : List D) (vs : List V), RpL G.Z F1 vs xs → ∀ (i : Nat) (y : V) (σ' : St) (H' : Hp), vs[i]? = some y → LW G F1 sl sb E bn (xs.drop i) σ' H' →
      gName j y σ' H' fun σ2 H2 => (∃ p : D × τ, sV G ((sl p.2).set j (.dat p.1)) sl sl (bn p.1 p.2) { nx := LW G F1 sl sb E bn (xs.drop (i + 1)), ct := LW G F1 sl sb E bn (xs.drop (i + 1)), bk := E.nx, rt := E.rt } σ2 H2) := fun xs vs l i y σ' H' hy ⟨t, F', e', A', q'⟩ => by
    obtain ⟨d, hd, r⟩ := l.getV hy
    have hdr : xs.drop i = d :: xs.drop (i + 1) := by
      obtain ⟨hlt, he⟩ := List.getElem?_eq_some_iff.mp hd
      rw [List.drop_eq_getElem_cons hlt, he]
    rw [hdr] at q'
    exact ⟨(d, t), loop_turn e' (A'.set (r.ex e')) q'⟩
  have fin : ∀ (xs : List D) (vs : List V), RpL G.Z F1 vs xs → ∀ σ' H', LW G F1 sl sb E bn (xs.drop vs.length) σ' H' → E.nx σ' H' := fun xs vs l σ' H' ⟨t, F', e', A', q'⟩ => by
    rw [l.length, List.drop_length] at q'
    exact q' F' σ' H' e' A'
  cases r1 with
  | tup r l =>
    rename_i a vs xs
    refine ⟨a, rfl, .inr ⟨⟨vs, by rw [← hK]; exact sqT_of A1.ok r⟩, ?_⟩⟩
    rw [← hK]
    exact for_tup (K := G.Z.K) (xs := vs) (g := gName j) (tb := fun E σ H => ∃ p : D × τ, sV G ((sl p.2).set j (.dat p.1)) sl sl (bn p.1 p.2) E σ H) (fun i => LW G F1 sl sb E bn (xs.drop i)) (start _ q1) (fun i σ' H' _ ⟨t, F', e', A', _⟩ => sqT_of A'.ok (e' _ _ r)) (turn xs vs l) (fin xs vs l)
  | ktup r l =>
    rename_i a vs xs
    refine ⟨a, rfl, .inr ⟨⟨vs, by rw [← hK]; exact .inr r⟩, ?_⟩⟩
    rw [← hK]
    exact for_tup (K := G.Z.K) (xs := vs) (g := gName j) (tb := fun E σ H => ∃ p : D × τ, sV G ((sl p.2).set j (.dat p.1)) sl sl (bn p.1 p.2) E σ H) (fun i => LW G F1 sl sb E bn (xs.drop i)) (start _ q1) (fun i σ' H' _ _ => .inr r) (turn xs vs l) (fin xs vs l)
  | lst r l =>
    rename_i a vs xs
    refine ⟨a, rfl, .inl ⟨⟨vs, by rw [← hK]; exact RL.sq A1.ok r⟩, ?_⟩⟩
    rw [← hK]
    exact for_list (K := G.Z.K) (xs := vs) (g := gName j) (tb := fun E σ H => ∃ p : D × τ, sV G ((sl p.2).set j (.dat p.1)) sl sl (bn p.1 p.2) E σ H) (fun i => LW G F1 sl sb E bn (xs.drop i)) (start _ q1) (fun i σ' H' _ ⟨t, F', e', A', _⟩ => RL.sq A'.ok (r.ex e')) (turn xs vs l) (fin xs vs l)
  | _ => exact (show False from q1).elim
/-- for i in range(n) -/
def N.upTo (d : D) : N (List Int) := match d with
  | .int n => (N.asrt (n < 2 ^ 62 ∧ -(2 ^ 62) ≤ n)).bind fun _ => .ok ((List.range n.toNat).map fun i => ((i : Nat) : Int))
  | _ => .stuck
theorem ds_forR {j : Nat} {x : Str} {px pr pc : Pos} (t0 : τ) {bn : Int → τ → N (Fl τ τ)} (hp : PassesOwn (model X.prog X.w) X.A X.env X.xe) (hc : X.calm = true) (hm : X.mg "range" = none) (hN : X.N.Nodup) (ha : PE X a (eV G S na)) (h0 : Wk S (sl t0))
    (hb : ∀ y t, PSs X body (sV G ((sl t).set j (.dat (.int y))) sl sl (bn y t))) (hg : Gl X "range" := by rfl) (hi : X.N[j]? = some x := by rfl) (hx : Loc X.env.scope x := by first | exact Or.inl rfl | exact Or.inr rfl)
    (hf : X.fn x = true ∨ X.env.scope.names.lookup x = some .local := by first | exact .inl rfl | exact .inr rfl) (hs : ∀ v, foldedSetIterable (.Call (.Name "range" pr) [a] [] pc) X.env v = pure v := by intro _; rfl)
    (he : starEach [a] X.env = [(false, eval a X.env)] := by rfl) :
    PS X (.For (.Name x px) (.Call (.Name "range" pr) [a] [] pc) body [] pos) (sV G S sl sb (na.bind fun d => (N.upTo d).bind fun xs => N.loop bn xs t0)) := by
  refine PS.imp (ps_for hp hc (pi_range1 hg hm (da_cons ha da_nil he) he) (pg_name (i := j) hN hi hx hf) (PSs.ex fun p : Int × τ => hb p.1 p.2) hs) fun E σ H ⟨F, A, q⟩ => ?_
  refine ⟨F, A, na.mono (fun d q1 vs F1 H1 e1 r1 => ?_) (fun _ _ z => z) q⟩
  have A1 := A.go e1
  cases d with
  | int n =>
    obtain ⟨⟨h1, h2⟩, q1⟩ := q1
    cases r1 with
    | cons r rl =>
      cases rl
      rw [rp_int r]
      refine ⟨n, rfl, by omega, by omega, for_range (lo := 0) (n := n.toNat) (g := gName j) (D := E) (tb := fun E σ H => ∃ p : Int × τ, sV G ((sl p.2).set j (.dat (.int p.1))) sl sl (bn p.1 p.2) E σ H) (fun i => LW G F1 sl sb E bn (((List.range n.toNat).map fun i => ((i : Nat) : Int)).drop i)) ⟨t0, F1, Ex.refl F1, A1.weak h0, (N.loop bn _ t0).mono (fun f z => flP.ex G e1.ex z) (fun _ _ z => z) q1⟩ ?_ ?_⟩
      · rintro i σ' H' hlt ⟨t, F', e', A', q'⟩
        have hdr : ((List.range n.toNat).map fun i => ((i : Nat) : Int)).drop i = (i : Int) :: ((List.range n.toNat).map fun i => ((i : Nat) : Int)).drop (i + 1) := by
          rw [List.drop_eq_getElem_cons (by rw [List.length_map, List.length_range]; exact hlt)]
          simp
        rw [hdr] at q'
        have e0 : (0 : Int) + (i : Int) = (i : Int) := Int.zero_add _
        rw [e0]
        exact ⟨((i : Int), t), loop_turn e' (A'.set (.int _)) q'⟩
      · rintro σ' H' ⟨t, F', e', A', q'⟩
        have hdr : ((List.range n.toNat).map fun i => ((i : Nat) : Int)).drop n.toNat = [] := by
          apply List.drop_eq_nil_of_le
          rw [List.length_map, List.length_range]
          exact Nat.le_refl _
        rw [hdr] at q'
        exact q' F' σ' H' e' A'
  | _ => exact (show False from q1).elim
end

/-! ### comprehensions -/
/-- without errors -/
def N.ne {α : Type} (n : N α) : N α := ⟨fun k _ => n.wp k (fun _ _ => False), fun h _ q => n.mono h (fun _ _ z => z) q⟩
def N.comp {α : Type} (t : α → N Bool) (f : α → N D) : List α → N (List D)
  | [] => .ok []
  | x :: xs => (N.ne (t x)).bind fun b => if b = true then (N.ne (f x)).bind fun y => (N.comp t f xs).bind fun ys => .ok (y :: ys) else N.comp t f xs
theorem PE.ex {X : Cx} {e : Expr} {ι : Type} {u : ι → TE} (h : ∀ t, PE X e (u t)) : PE X e (fun σ H Q => ∃ t, u t σ H Q) := ⟨fun pins s σ H Q I ⟨t, q⟩ => (h t).run pins s σ H Q I q⟩
theorem PTs.ex {X : Cx} {e : List Expr} {ι : Type} {u : ι → TT} (h : ∀ t, PTs X e (u t)) : PTs X e (fun σ H Q => ∃ t, u t σ H Q) := ⟨fun pins s σ H Q I ⟨t, q⟩ => (h t).run pins s σ H Q I q⟩
/-- within a comprehension: no error is let out -/
def Gx.in (G : Gx) (n : Nat) : Gx := { G with W := fun _ _ _ _ => False, Se := List.replicate n .un }
def wipeS (S : List Sl) : List Nat → List Sl
  | [] => S
  | v :: vs => (wipeS S vs).set v .un
theorem At.unset {Z : Zt} {B : Bs} {S : List Sl} {F : Ty} {σ : St} {H : Hp} {i : Nat} {o : Option V} (h : At Z B S F σ H) : At Z B (S.set i .un) F (σ.set i o) H := by
  refine ⟨h.ext, h.fe, by rw [List.length_set, List.length_set]; exact h.len, fun j s q => ?_, fun j k l c c' q1 q2 e1 e2 => ?_⟩
  · by_cases z : i = j
    · subst z
      have hj : i < S.length := by
        have := (List.getElem?_eq_some_iff.mp q).1
        rwa [List.length_set] at this
      rw [List.getElem?_set_self hj] at q
      cases q
      trivial
    · rw [List.getElem?_set_ne z] at q
      rw [List.getElem?_set_ne z]
      exact h.sl j s q
  · have nj : i ≠ j := fun z => by
      subst z
      have hj : i < S.length := by
        have := (List.getElem?_eq_some_iff.mp q1).1
        rwa [List.length_set] at this
      rw [List.getElem?_set_self hj] at q1; cases q1
    have nk : i ≠ k := fun z => by
      subst z
      have hj : i < S.length := by
        have := (List.getElem?_eq_some_iff.mp q2).1
        rwa [List.length_set] at this
      rw [List.getElem?_set_self hj] at q2; cases q2
    rw [List.getElem?_set_ne nj] at q1 e1
    rw [List.getElem?_set_ne nk] at q2 e2
    exact h.dis j k l c c' q1 q2 e1 e2
theorem At.wipe {Z : Zt} {B : Bs} {S : List Sl} {F : Ty} {σ : St} {H : Hp} (h : At Z B S F σ H) : ∀ vs : List Nat, At Z B (wipeS S vs) F (L2.wipe σ vs) H
  | [] => h
  | v :: vs => (At.wipe h vs).unset
theorem Gx.in_er {G : Gx} {n : Nat} (c : Nat) (x : D) : False → (G.in n).Er c x := fun h => h.elim
def KQ (G : Gx) (F : Ty) (H : Hp) (Q : VK) : List D → Prop := fun ds => ∀ v F' H', Ext F H F' H' → Rp G.Z F' v (.lst ds) → Q v H'
def TT1 (G : Gx) (n : Nat) (S : List Sl) (j : Nat) (tn : D → N Bool) : TT := fun σ H Q => ∃ y : D, tV (G.in n) ((S.set j .un).set j (.dat y)) (tn y) σ H Q
def TE1 (G : Gx) (n : Nat) (S : List Sl) (j : Nat) (fn : D → N D) : TE := fun σ H Q => ∃ y : D, eV (G.in n) ((S.set j .un).set j (.dat y)) (fn y) σ H Q
/-- the word of a comprehension's loop: what is made so far, and what is left leads to what is wanted -/
def CW {α : Type} (G : Gx) (F1 : Ty) (H1 : Hp) (Dl : Addr) (tn : α → N Bool) (fn : α → N D) (K : List D → Prop) (Er : Nat → D → Prop) (len : Nat) (i : Nat) (xs : List α) : Hp → Prop := fun H => ∃ F av ad, Ext F1 H1 F H ∧ F Dl = none ∧ H Dl = some (.lst av) ∧ RpL G.Z F av ad ∧
  ad.length ≤ i ∧ (N.comp tn fn xs).wp (fun ys => K (ad ++ ys)) Er
section
variable {X : Cx} {G : Gx} {S : List Sl} {a : Expr} {na : N D} {pos : Pos} {elt tg : Expr} {ifs : List Expr} {scope : Scope} {own : List (Str × Nat)}
theorem ext_put {F1 F : Ty} {H1 H : Hp} {Dl : Addr} {o : HO} (e : Ext F1 H1 F H) (n : H1 Dl = none) (hF : F Dl = none) : Ext F1 H1 F (upd H Dl o) := by
  refine ⟨e.ex, fun b p q => ?_, fun b u q nb => ?_⟩
  · have z : b ≠ Dl := fun z => by subst z; rw [hF] at q; cases q
    rw [upd_ne z]; exact e.ok b p q
  · have z : b ≠ Dl := fun z => by subst z; rw [n] at q; cases q
    rw [upd_ne z]; exact e.kp b u q nb
theorem ext_lst {F F2 : Ty} {H H2 : Hp} {Dl : Addr} {av : List V} (e : Ext F H F2 H2) (hF : F Dl = none) (hA : H Dl = some (.lst av)) : F2 Dl = none ∧ H2 Dl = some (.lst av) := by
  obtain ⟨h, n⟩ := e.kp _ _ hA hF
  rcases n with n | ⟨_, xs, z⟩
  · exact ⟨n, h⟩
  · cases z
/-- one turn -/
theorem comp_turn {α : Type} {tn : α → N Bool} {fn : α → N D} {n len i : Nat} {S' : List Sl} {F1 F : Ty} {H1 H : Hp} {Dl : Addr} {av : List V} {ad : List D} {x : α} {xs : List α} {σ2 : St} {K : List D → Prop} {Er : Nat → D → Prop} {tt : TT} {te : TE}
    (hn : H1 Dl = none) (e1 : Ext F1 H1 F H) (hF : F Dl = none) (hA : H Dl = some (.lst av)) (r : RpL G.Z F av ad) (hl : ad.length ≤ i) (hi : i < len) (hz : len ≤ sizeLine) (A : At G.Z G.B S' F σ2 H)
    (q : (N.comp tn fn (x :: xs)).wp (fun ys => K (ad ++ ys)) Er) (ht : ∀ H Q, tV (G.in n) S' (tn x) σ2 H Q → tt σ2 H Q) (he : ∀ H Q, eV (G.in n) S' (fn x) σ2 H Q → te σ2 H Q) :
    tt σ2 H fun b H3 => if b = true then te σ2 H3 fun y H4 => ∃ acc, H4 Dl = some (.lst acc) ∧ acc.length < sizeLine ∧ CW G F1 H1 Dl tn fn K Er len (i + 1) xs (upd H4 Dl (.lst (acc ++ [y]))) else CW G F1 H1 Dl tn fn K Er len (i + 1) xs H3 := by
  refine ht H _ ⟨F, A, (tn x).mono (fun b q1 F3 H3 e3 => ?_) (fun _ _ z => z.elim) q⟩
  obtain ⟨hF3, hA3⟩ := ext_lst e3 hF hA
  cases b with
  | false =>
    show CW G F1 H1 Dl tn fn K Er len (i + 1) xs H3
    exact ⟨F3, av, ad, e1.trans e3, hF3, hA3, r.ex e3.ex, by omega, q1⟩
  | true =>
    show te σ2 H3 _
    refine he H3 _ ⟨F3, A.go e3, (fn x).mono (fun d q2 y F4 H4 e4 r4 => ?_) (fun _ _ z => z.elim) q1⟩
    obtain ⟨hF4, hA4⟩ := ext_lst e4 hF3 hA3
    refine ⟨av, hA4, by rw [r.length]; omega, F4, av ++ [y], ad ++ [d], ext_put ((e1.trans e3).trans e4) hn hF4, hF4, upd_same, (r.ex (e3.ex.trans e4.ex)).append (.cons r4 .nil), by rw [List.length_append, List.length_singleton]; omega, ?_⟩
    exact (N.comp tn fn xs).mono (fun ys z => by rw [List.append_assoc]; exact z) (fun _ _ z => z) q2
theorem comp_end {α : Type} {tn : α → N Bool} {fn : α → N D} {len i : Nat} {F1 : Ty} {H1 H : Hp} {Dl : Addr} {Er : Nat → D → Prop} {Q : VK} {F0 : Ty} {H0 : Hp} (e0 : Ext F0 H0 F1 H1) (hn : H1 Dl = none)
    (h : CW G F1 H1 Dl tn fn (KQ G F0 H0 Q) Er len i [] H) : Q (.ref Dl) H := by
  obtain ⟨F, av, ad, e1, hF, hA, r, hl, q⟩ := h
  have q' : ∀ v F' H', Ext F0 H0 F' H' → Rp G.Z F' v (.lst (ad ++ [])) → Q v H' := q
  rw [List.append_nil] at q'
  have ex' : Ex F (updT F Dl (is (.lst av))) := fun b p z => by
    by_cases hb : b = Dl
    · subst hb; rw [hF] at z; cases z
    · rw [updT_ne hb]; exact z
  have e2 : Ext F1 H1 (updT F Dl (is (.lst av))) H := by
    refine ⟨e1.ex.trans ex', fun b p z => ?_, fun b u z nb => ?_⟩
    · by_cases hb : b = Dl
      · subst hb
        rw [updT_same] at z
        cases z
        exact ⟨_, hA, rfl, fun _ => rfl⟩
      · rw [updT_ne hb] at z; exact e1.ok b p z
    · have hb : b ≠ Dl := fun y => by subst y; rw [hn] at z; cases z
      rw [updT_ne hb]; exact e1.kp b u z nb
  exact q' _ _ _ (e0.trans e2) (.lst (.inl (.inl updT_same)) (r.ex ex'))
theorem wipe1 (σ : St) (j : Nat) (v : V) : L2.wipe ((L2.wipe σ [j]).set j (some v)) [j] = L2.wipe σ [j] := by
  show ((σ.set j none).set j (some v)).set j none = σ.set j none
  rw [List.set_set, List.set_set]
def N.fits {α : Type} (xs : List α) : N Unit := N.asrt (xs.length ≤ sizeLine)
theorem lc_run {K : PySem.W.Frag} {j : Nat} {tn : D → N Bool} {fn : D → N D} {n : Nat} (hK : G.Z.K = K) {σ : St} {H : Hp} {Q : VK} (h : eV G S (na.bind fun d => (seqOf d).bind fun xs => (N.fits xs).bind fun _ => (N.comp tn fn xs).bind fun ys => .ok (.lst ys)) σ H Q) :
    tLc (iSeq K (eV G S na)) (gName j) (TT1 G n S j tn) (TE1 G n S j fn) [j] σ H Q := by
  obtain ⟨F, A, q⟩ := h
  refine ⟨F, A, na.mono (fun d q1 v F1 H1 e1 r1 => ?_) (fun _ _ z => z) q⟩
  have A1 := A.go e1
  have start : ∀ (xs : List D), (N.comp tn fn xs).wp (KQ G F H Q) G.Er → ∀ Dl, H1 Dl = none → CW G F1 H1 Dl tn fn (KQ G F H Q) G.Er xs.length 0 (xs.drop 0) (upd H1 Dl (.lst [])) := fun xs h Dl hD =>
    ⟨F1, [], [], Ext.own A1.ok hD, A1.ok.none hD, upd_same, .nil, Nat.zero_le _, h⟩
  have turn : ∀ (xs : List D) (vs : List V), RpL G.Z F1 vs xs → xs.length ≤ sizeLine → ∀ Dl, H1 Dl = none → ∀ (i : Nat) (y : V) (H' : Hp), vs[i]? = some y → CW G F1 H1 Dl tn fn (KQ G F H Q) G.Er xs.length i (xs.drop i) H' →
      gName j y (L2.wipe σ [j]) H' fun σ2 H2 => L2.wipe σ2 [j] = L2.wipe σ [j] ∧ TT1 G n S j tn σ2 H2 fun b H3 => if b = true then TE1 G n S j fn σ2 H3 fun y H4 => ∃ acc, H4 Dl = some (.lst acc) ∧ acc.length < sizeLine ∧ CW G F1 H1 Dl tn fn (KQ G F H Q) G.Er xs.length (i + 1) (xs.drop (i + 1)) (upd H4 Dl (.lst (acc ++ [y]))) else CW G F1 H1 Dl tn fn (KQ G F H Q) G.Er xs.length (i + 1) (xs.drop (i + 1)) H3 := fun xs vs l hz Dl hD i y H' hy ⟨F', av, ad, e', hF', hA', r', hl', q'⟩ => by
    obtain ⟨d, hd, r⟩ := l.getV hy
    obtain ⟨hlt, hde⟩ := List.getElem?_eq_some_iff.mp hd
    have hdr : xs.drop i = d :: xs.drop (i + 1) := by rw [List.drop_eq_getElem_cons hlt, hde]
    rw [hdr] at q'
    refine ⟨wipe1 σ j y, ?_⟩
    exact comp_turn (n := n) (K := KQ G F H Q) (tt := TT1 G n S j tn) (te := TE1 G n S j fn) (S' := (S.set j .un).set j (.dat d)) hD e' hF' hA' r' hl' hlt hz (((A1.go e').wipe [j]).set (r.ex e'.ex)) q' (fun H Q z => ⟨d, z⟩) (fun H Q z => ⟨d, z⟩)
  have fin : ∀ (xs : List D) (vs : List V), RpL G.Z F1 vs xs → ∀ Dl, H1 Dl = none → ∀ H', CW G F1 H1 Dl tn fn (KQ G F H Q) G.Er xs.length vs.length (xs.drop vs.length) H' → Q (.ref Dl) H' := fun xs vs l Dl hD H' h => by
    rw [l.length, List.drop_length] at h
    exact comp_end e1 hD h
  cases r1 with
  | tup r l =>
    rename_i a vs xs
    obtain ⟨hz, q1⟩ := q1
    refine ⟨a, rfl, .inr ⟨⟨vs, by rw [← hK]; exact sqT_of A1.ok r⟩, fun Dl hD => ?_⟩⟩
    rw [← hK]
    exact lc_tup (K := G.Z.K) (xs := vs) (g := gName j) (tt := TT1 G n S j tn) (te := TE1 G n S j fn) (fun i => CW G F1 H1 Dl tn fn (KQ G F H Q) G.Er xs.length i (xs.drop i)) (start xs q1 Dl hD) (fun i H' _ ⟨F', _, _, e', _⟩ => sqT_of e'.ok (e'.ex _ _ r)) (turn xs vs l hz Dl hD) (fin xs vs l Dl hD)
  | ktup r l =>
    rename_i a vs xs
    obtain ⟨hz, q1⟩ := q1
    refine ⟨a, rfl, .inr ⟨⟨vs, by rw [← hK]; exact .inr r⟩, fun Dl hD => ?_⟩⟩
    rw [← hK]
    exact lc_tup (K := G.Z.K) (xs := vs) (g := gName j) (tt := TT1 G n S j tn) (te := TE1 G n S j fn) (fun i => CW G F1 H1 Dl tn fn (KQ G F H Q) G.Er xs.length i (xs.drop i)) (start xs q1 Dl hD) (fun i H' _ _ => .inr r) (turn xs vs l hz Dl hD) (fin xs vs l Dl hD)
  | lst r l =>
    rename_i a vs xs
    obtain ⟨hz, q1⟩ := q1
    refine ⟨a, rfl, .inl ⟨⟨vs, by rw [← hK]; exact RL.sq A1.ok r⟩, fun Dl hD => ?_⟩⟩
    rw [← hK]
    exact lc_list (K := G.Z.K) (xs := vs) (g := gName j) (tt := TT1 G n S j tn) (te := TE1 G n S j fn) (fun i => CW G F1 H1 Dl tn fn (KQ G F H Q) G.Er xs.length i (xs.drop i)) (start xs q1 Dl hD) (fun i H' _ ⟨F', _, _, e', _⟩ => RL.sq e'.ok (r.ex e'.ex)) (turn xs vs l hz Dl hD) (fin xs vs l Dl hD)
  | _ => exact (show False from q1).elim
/-- [elt for x in e if ..], e a list or a tuple; j the slot of x -/
theorem de_lc {j : Nat} {x : Str} {px : Pos} {tn : D → N Bool} {fn : D → N D} {n : Nat} (hc : X.calm = true) (hK : G.Z.K = X.K) (hN : X.N.Nodup) (ha : PE X a (eV G S na)) (ok : BlkOk X.N X.env.scope scope [(x, j)])
    (hg : ∀ (s : Shared) (H : Hp) (C : Addr) (cl : List (Str × Addr)) (fp : List Addr), PG (X.blk s H scope (compEnvC scope cl C X.env) fp) (.Name x px) (gName j))
    (ht : ∀ (s : Shared) (H : Hp) (C : Addr) (cl : List (Str × Addr)) (fp : List Addr) (y : D), PTs (X.blk s H scope (compEnvC scope cl C X.env) fp) ifs (tV (G.in n) ((S.set j .un).set j (.dat y)) (tn y)))
    (he : ∀ (s : Shared) (H : Hp) (C : Addr) (cl : List (Str × Addr)) (fp : List Addr) (y : D), PE (X.blk s H scope (compEnvC scope cl C X.env) fp) elt (eV (G.in n) ((S.set j .un).set j (.dat y)) (fn y)))
    (hs : ∀ x, foldedSetIterable a X.env x = pure x := by intro _; rfl) :
    PE X (.ListComp elt [⟨.Name x px, a, ifs, 0⟩] scope pos) (eV G S (na.bind fun d => (seqOf d).bind fun xs => (N.fits xs).bind fun _ => (N.comp tn fn xs).bind fun ys => .ok (.lst ys))) := by
  exact PE.imp (pe_lc (own := [(x, j)]) (g := gName j) hc hN (pi_seq ha) ok hg (tt := TT1 G n S j tn) (te := TE1 G n S j fn) (fun s H C cl fp => PTs.ex fun y : D => ht s H C cl fp y) (fun s H C cl fp => PE.ex fun y : D => he s H C cl fp y) hs) fun σ H Q h => lc_run hK h
theorem dts_nil {y : α} : PTs X [] (tV G S (.ok true)) := ⟨fun pins s σ H Q I ⟨F, A, q⟩ => pts_nil.run pins s σ H Q I (q F H (Ext.refl A.ok))⟩
theorem dts_one {c : Expr} {n : N Bool} (h : PT X c (tV G S n)) : PTs X [c] (tV G S n) := pts_one h
end
end M

set_option Elab.async false
set_option linter.all false
set_option maxRecDepth 100000
set_option maxHeartbeats 2000000
namespace PySem
namespace TEnum
open Sem (wp)
open AutoSeq1 (wpAny_loadPart')
theorem meets_enumT (l : Addr) (items : Array Value) (n : Nat) (dct : Option Addr) (sl : Array (Option Value)) :
    Meets (Builtin.«enumerate.__new__» ⟨[.type "enumerate", .ref l], []⟩) (fun _ R s => s.heap.get? l = some { cls := .type "tuple", dict := dct, data := .seq items n, slots := sl } ∧
      R (.ok (.ret (.ref (s.heap.push { cls := .type "tuple_iterator", data := .fields #[.ref l, .int 0 0] }).objs.size)))
        { s with heap := (s.heap.push { cls := .type "tuple_iterator", data := .fields #[.ref l, .int 0 0] }).push { cls := .type "enumerate", data := .fields #[.none, .bool false, .ref s.heap.objs.size, rawInt 0, .none, .none] } }) :=
  .of_wp fun prog w A R s h => by
    obtain ⟨hp, g, d, tk, os⟩ := s; obtain ⟨hl, h⟩ := h
    have hsub := sub_enumerate
    have hL : Heap.IsTuple (Shared.heap ⟨hp, g, d, tk, os⟩) l items := ⟨_, hl, rfl, n, rfl⟩
    wp_walk using wpAny_loadPart' hl
    refine wpAny_stack_any fun st => wpAny_pure ?_
    split
    · rename_i c _ _ _ _ _
      cases (c == Value.type "enumerate")
      · wp_walk using wpAny_loadPart' hl, wpAny_pyIter_tuple hL
        exact ⟨_, rfl, h⟩
      · wp_walk using wpAny_loadPart' hl, wpAny_pyIter_tuple hL
        exact ⟨_, rfl, h⟩
    · wp_walk using wpAny_loadPart' hl, wpAny_pyIter_tuple hL
      exact ⟨_, rfl, h⟩
section
variable {prog : Program} {w : World} {A : Around} {E : Value → Shared → Prop} {s : Shared}
theorem call_enumT {l : Addr} {items : Array Value} {Q : Value → Shared → Prop} (hL : s.heap.IsTuple l items)
    (h : ∀ h', IsEnum h' (s.heap.objs.size + 1) s.heap.objs.size 0 .none → h'.IsTupleIter s.heap.objs.size l 0 → h'.objs.size = s.heap.objs.size + 2 →
      (∀ b o, s.heap.get? b = some o → h'.get? b = some o) → Q (.ref (s.heap.objs.size + 1)) { s with heap := h' }) :
    wpAny (model prog w) A (call (.type "enumerate") [.ref l]) Q E s := by
  obtain ⟨⟨c, dct, dt, sl⟩, hl, hc, n, hd⟩ := hL
  replace hc : c = .type "tuple" := hc
  replace hd : dt = .seq items n := hd
  subst hc hd
  refine callType_new F.called_enumerate (by decide) (F.typeCall_enumerate_1 _) (F.newCall_enumerate_1 _) (fun obj => F.args_object_init_2 obj _) F.entry_enumerate_new
    (meets_enumT l items n dct sl) ⟨hl, ?_⟩
  have hz : (s.heap.push { cls := .type "tuple_iterator", data := .fields #[.ref l, .int 0 0] }).objs.size = s.heap.objs.size + 1 := Heap.size_push ..
  show _ ∧ _
  rw [hz]
  have he : IsEnum ((s.heap.push { cls := .type "tuple_iterator", data := .fields #[.ref l, .int 0 0] }).push
      { cls := .type "enumerate", data := .fields #[.none, .bool false, .ref s.heap.objs.size, rawInt 0, .none, .none] }) (s.heap.objs.size + 1) s.heap.objs.size 0 .none := by
    have := Heap.get?_push_size (s.heap.push { cls := .type "tuple_iterator", data := .fields #[.ref l, .int 0 0] })
      (o := { cls := .type "enumerate", data := .fields #[.none, .bool false, .ref s.heap.objs.size, rawInt 0, .none, .none] }) rfl
    rw [hz] at this; exact this
  refine ⟨⟨_, he, rfl⟩, h _ he ⟨_, Heap.get?_push_of_some _ (Heap.get?_push_size _ rfl), rfl, rfl⟩ (by rw [Heap.size_push, hz]) fun b o x => Heap.get?_push_of_some _ (Heap.get?_push_of_some _ x)⟩
end
end TEnum
end PySem
namespace M
open PySem PyProof.Rows L2
/-- the tuple at a, each item in a new pair -/
def Itet (K : PySem.W.Frag) (a : Addr) : It :=
  ⟨fun i H => ∃ (xs : List V) (x : V), SqT K H a xs ∧ xs[i]? = some x, fun i H v H' => ∃ T x, v = .ref T ∧ H T = none ∧ H' = upd H T (.tup [.int (i : Nat), x]) ∧ ∀ xs, SqT K H a xs → xs[i]? = some x, fun i H => ∃ xs : List V, SqT K H a xs ∧ xs.length ≤ i⟩
theorem turn_enumT {P : Program} {w : World} {K : PySem.W.Frag} {elts : List Expr} {kk : Nat} {tpos : Pos} (a e it : Addr) (hae : a ≠ e) (hai : a ≠ it) :
    Turn P w K (.Tuple elts kk tpos) (Itet K a) [e, it] e (fun i h => (∃ old, IsEnum h e it ((i : Nat) : Int) old) ∧ h.IsTupleIter it a i ∧ e ≠ it) where
  mem := by simp
  obj := fun i h st b hb => by
    obtain ⟨⟨old, he⟩, ⟨o, ho, hc, hd⟩, _⟩ := st
    have e' : b = e ∨ b = it := by simpa using hb
    rcases e' with z | z
    · rw [z]; exact ⟨_, he, fun v q => nomatch q⟩
    · rw [z]; exact ⟨o, ho, fun v q => by rw [hd] at q; cases q⟩
  keep := fun i h h' st k => let ⟨⟨old, he⟩, hi, hne⟩ := st; ⟨⟨old, k e (by simp) _ he⟩, hi.at fun o q => k it (by simp) o q, hne⟩
  item := by
    intro X hP hw hK hc i pins s σ H E I hf st hg
    subst hP hw hK
    obtain ⟨⟨old, he⟩, hit, hne⟩ := st
    obtain ⟨xs, x, hq, hx⟩ := hg
    obtain ⟨its, rv, p, hz⟩ := I.tuple hq
    obtain ⟨u, hu, ru⟩ := rv.get hx
    have hel : e < s.heap.objs.size := Heap.lt_size he
    have hil : it < s.heap.objs.size := by obtain ⟨_, q, _⟩ := hit; exact Heap.lt_size q
    have hlt : i < its.toArray.size := by
      have := (List.getElem?_eq_some_iff.mp hu).1
      simpa using this
    have Dr := PySem.Draws.tuple (prog := X.prog) (w := X.w) (A := X.A.in1) (show X.A.in1.handled = none from I.ok.hd hc) it a hai its.toArray
    refine wpAny_pyNext_enum_itemD Dr he ⟨hit, show s.heap.IsTuple a its.toArray from p⟩ hlt hne (by simp [hne, Ne.symm hae]) fun x' h' tk hx' ho hst hT hsz hk => ?_
    have eu : x' = u := by
      have h1 : its.toArray[i]? = some x' := hx'
      have h2 : its.toArray[i]? = some u := by simpa using hu
      rw [h1] at h2
      exact Option.some.inj h2
    subst eu
    refine ⟨_, rfl, wpAny_letOwnedTupleGo_enum (s := { s with heap := h', toks := tk + 1 }) ho fun h'' he' sb => ?_⟩
    have hT2 : h''.get? s.heap.objs.size = some { cls := .type "tuple", data := .seq #[.int i tk, x'] } := (sb.2 _ (Nat.ne_of_gt hel)).trans hT
    have new : ObjOk X.prog X.w (upd H s.heap.objs.size (.tup [.int (i : Nat), x])) h'' s.heap.objs.size (.tup [.int (i : Nat), x]) :=
      ⟨by show 2 ≤ sizeLine; decide, [.int i tk, x'], .cons ⟨_, rfl⟩ (.cons ru .nil), ⟨_, hT2, rfl, _, rfl⟩⟩
    have I1 : Inv X pins σ (upd H s.heap.objs.size (.tup [.int (i : Nat), x])) { s with heap := h'', toks := tk + 1 } :=
      I.turnedNew (ch := [e, it]) (fun b ob hb q => (sb.2 b (fun z => hb (by simp [z]))).trans (hk b ob (fun z => hb (by simp [z])) (fun z => hb (by simp [z])) q)) hf (Nat.le_refl _) new
    refine ⟨.ref s.heap.objs.size, _, I1, rfl, ⟨_, x, rfl, I.hok.fresh (Nat.le_refl _), rfl, fun ys hy => by rw [I.tuple_inj hy hq]; exact hx⟩, ⟨⟨x', ?_⟩, hst.1.at fun o q => (sb.2 it (Ne.symm hne)).trans q, hne⟩, fun b hb => ?_⟩
    · have e1 : ((i + 1 : Nat) : Int) = (i : Int) + 1 := by omega
      rw [e1]; exact he'
    · have hb' : b < s.heap.objs.size := by
        have e' : b = e ∨ b = it := by simpa using hb
        rcases e' with z | z
        · rw [z]; exact hel
        · rw [z]; exact hil
      rw [upd_ne (Nat.ne_of_lt hb')]
      exact (hf b hb).1
  done := by
    intro X hP hw hK hc i pins s σ H E I hf st hg
    subst hP hw hK
    obtain ⟨⟨old, he⟩, hit, hne⟩ := st
    obtain ⟨xs, hq, hx⟩ := hg
    obtain ⟨its, rv, p, hz⟩ := I.tuple hq
    obtain ⟨f0, f1, f2, f3, f4, f5⟩ := hf it (by simp)
    have hl := rv.length
    have hT : s.TypeIs (.ref e) "enumerate" := ⟨_, he, rfl⟩
    unfold pyNext
    refine wpAny_bind (wpAny_attempt (wpAny_callSpecial?_slot (name := PySem.Str.ofString "__next__") hT PySem.F.slot_enumerate_next
      (wpAny_call_entry PySem.F.slot_enumerate_next hT PySem.F.entry_enumerate_next ?_ (PySem.F.args_enumerate_next_1 _))))
    show wpAny _ _ (field (.ref e) 2 >>= _) _ _ _
    refine wpAny_bind (wpAny_field he rfl (x := .ref it) rfl ?_)
    refine wpAny_bind (PySem.wpAny_nextOf_tuple_end (show X.A.in1.in1.handled = none from I.ok.hd hc) hit (show s.heap.IsTuple a its.toArray from p) (by simp; omega) fun h' x he' hx' => ?_)
    obtain ⟨o, ho, hcc⟩ := hx'
    refine wpAny_bind (wpAny_isInstance (T := "StopIteration") (b := true) ⟨o, ho, hcc⟩ isSubtype_stop ?_)
    exact wpAny_pure ⟨rfl, I.turned (t' := s.toks) (fun b o hb q => he' b o hb q) f0 f1 f3 f4 f5⟩
  self := fun A i s Q E st h => let ⟨⟨_, he⟩, _⟩ := st; wpAny_pyIter_enum he h
end M

set_option Elab.async false
set_option linter.all false
set_option maxRecDepth 100000
set_option maxHeartbeats 2000000
namespace M
open PySem L2
/-! ### for a, b in enumerate(e) -/
section
variable {X : Cx} {tg : Expr}
def iEn (K : PySem.W.Frag) (ta : TA) : TI := fun σ H R => ta σ H fun vs H1 => ∃ a, vs = [.ref a] ∧ (((∃ xs, SqL K H1 a xs) ∧ R (Ite K a) H1) ∨ ((∃ xs, H1 a = some (.tup xs)) ∧ R (Itet K a) H1))
open PySem.Spec PyProof.Rows in
theorem pi_en {e : Expr} {ta : TA} {p pos tpos : Pos} {elts : List Expr} {kk : Nat} (hg : Gl X "enumerate") (hm : X.mg "enumerate" = none) (ha : PA X [e] ta) (hs : starEach [e] X.env = [(false, eval e X.env)] := by rfl) :
    PI X (.Tuple elts kk tpos) (.Call (.Name "enumerate" p) [e] [] pos) (iEn X.K ta) := by
  refine ⟨fun pins s σ H R I h => ?_⟩
  refine Call_ (ld_blt I hg hm boot_enumerate (PyProof.Rows.callWith_type1 (thn (ha.run pos pins s σ H _ I h) fun us s1 ⟨vs, H1, I1, r1, q1⟩ => ?_) hs rfl))
  obtain ⟨a, ex, q⟩ := q1
  subst ex
  cases r1 with
  | cons r rr =>
    cases rr
    cases r
    have fpn : ∀ b ∈ [s1.heap.objs.size + 1, s1.heap.objs.size], FpOk X pins H1 b := fun b hb => by
      have e' : b = s1.heap.objs.size + 1 ∨ b = s1.heap.objs.size := by simpa using hb
      have hle : s1.heap.objs.size ≤ b := by
        rcases e' with z | z
        · rw [z]; exact Nat.le_add_right _ _
        · rw [z]; exact Nat.le_refl _
      exact I1.fpOk hle (I1.hok.fresh hle)
    rcases q with ⟨⟨xs, hq⟩, q⟩ | ⟨⟨xs, hq⟩, q⟩
    · obtain ⟨its, rv, p', hz⟩ := I1.list hq
      refine call_enumerate_list p'.isList fun h' he hit hsz hk => wpAny_pyIter_enum he ?_
      have I2 : Inv X pins σ H1 { s1 with heap := h' } := I1.kept (t' := s1.toks) hk
      exact ⟨s1.heap.objs.size + 1, [s1.heap.objs.size + 1, s1.heap.objs.size], _, _, H1, rfl, I2, turn_enum a (s1.heap.objs.size + 1) s1.heap.objs.size, ⟨⟨.none, he⟩, hit, Nat.succ_ne_self _⟩, fpn, q⟩
    · obtain ⟨its, rv, p', hz⟩ := I1.tuple (SqT.of hq)
      have hlt : a < s1.heap.objs.size := by obtain ⟨_, q, _⟩ := p'; exact Heap.lt_size q
      refine PySem.TEnum.call_enumT (show s1.heap.IsTuple a its.toArray from p') fun h' he hit hsz hk => wpAny_pyIter_enum he ?_
      have I2 : Inv X pins σ H1 { s1 with heap := h' } := I1.kept (t' := s1.toks) hk
      exact ⟨s1.heap.objs.size + 1, [s1.heap.objs.size + 1, s1.heap.objs.size], _, _, H1, rfl, I2, turn_enumT a (s1.heap.objs.size + 1) s1.heap.objs.size (Nat.ne_of_lt (Nat.lt_succ_of_lt hlt)) (Nat.ne_of_lt hlt), ⟨⟨.none, he⟩, hit, Nat.succ_ne_self _⟩, fpn, q⟩
end
section
variable {X : Cx} {G : Gx} {S : List Sl} {τ β : Type} {sl : τ → List Sl} {sb : β → List Sl} {a b c e : Expr} {na nb : N D} {pos : Pos} {body : List Stmt}
def numbered (xs : List D) : List (Int × D) := xs.zipIdx.map fun p => ((p.2 : Int), p.1)
theorem numbered_drop (xs : List D) (i : Nat) (d : D) (h : xs[i]? = some d) : (numbered xs).drop i = ((i : Int), d) :: (numbered xs).drop (i + 1) := by
  have h2 : (numbered xs)[i]? = some ((i : Int), d) := by
    unfold numbered
    rw [List.getElem?_map, List.getElem?_zipIdx, h]
    simp
  obtain ⟨hl, he⟩ := List.getElem?_eq_some_iff.mp h2
  rw [List.drop_eq_getElem_cons hl, he]
theorem numbered_end (xs : List D) : (numbered xs).drop xs.length = [] := by
  apply List.drop_eq_nil_of_le
  unfold numbered
  rw [List.length_map, List.length_zipIdx]
  exact Nat.le_refl _
/-- what enumerate takes here: a list, or a tuple that is no constant of the module -/
def enOf (d : D) : N (List D) := match d with
  | .tup xs => .ok xs
  | .lst xs => .ok xs
  | _ => .stuck
theorem ds_forE {i j : Nat} {x y : Str} {px py pt pr pc : Pos} {kk : Nat} (t0 : τ) {bn : Int × D → τ → N (Fl τ τ)} (hp : PassesOwn (model X.prog X.w) X.A X.env X.xe) (hc : X.calm = true) (hK : G.Z.K = X.K) (hm : X.mg "enumerate" = none) (hN : X.N.Nodup) (ha : PE X a (eV G S na)) (h0 : Wk S (sl t0))
    (hb : ∀ k d t, PSs X body (sV G (((sl t).set i (.dat (.int k))).set j (.dat d)) sl sl (bn (k, d) t))) (hg : Gl X "enumerate" := by rfl) (hi : X.N[i]? = some x := by rfl) (hx : Loc X.env.scope x := by first | exact Or.inl rfl | exact Or.inr rfl)
    (hf : X.fn x = true ∨ X.env.scope.names.lookup x = some .local := by first | exact .inl rfl | exact .inr rfl) (hj : X.N[j]? = some y := by rfl) (hy : Loc X.env.scope y := by first | exact Or.inl rfl | exact Or.inr rfl)
    (hfy : X.fn y = true ∨ X.env.scope.names.lookup y = some .local := by first | exact .inl rfl | exact .inr rfl) (hs : ∀ v, foldedSetIterable (.Call (.Name "enumerate" pr) [a] [] pc) X.env v = pure v := by intro _; rfl)
    (he : starEach [a] X.env = [(false, eval a X.env)] := by rfl) (hn : (assignEach [.Name x px, .Name y py] X.env).length = 2 := by rfl) (hst : (assignEach [.Name x px, .Name y py] X.env).findIdx? (·.1) = none := by rfl) :
    PS X (.For (.Tuple [.Name x px, .Name y py] kk pt) (.Call (.Name "enumerate" pr) [a] [] pc) body [] pos) (sV G S sl sb (na.bind fun d => (enOf d).bind fun xs => N.loop bn (numbered xs) t0)) := by
  refine PS.imp (ps_for (g := gTup X.K 2 (gCons (gName i) (gCons (gName j) gNil))) (tb := fun E σ H => ∃ p : (Int × D) × τ, sV G (((sl p.2).set i (.dat (.int p.1.1))).set j (.dat p.1.2)) sl sl (bn p.1 p.2) E σ H) hp hc (pi_en hg hm (da_cons ha da_nil he) he)
    (pg_tup hc (pgs_cons (pg_name (i := i) hN hi hx hf) (pgs_cons (pg_name (i := j) hN hj hy hfy) pgs_nil)) hn hst) (PSs.ex fun p : (Int × D) × τ => hb p.1.1 p.1.2 p.2) hs) fun E σ H ⟨F, A, q⟩ => ?_
  refine ⟨F, A, na.mono (fun d q1 vs F1 H1 e1 r1 => ?_) (fun _ _ z => z) q⟩
  have A1 := A.go e1
  cases r1 with
  | cons r rl =>
    cases rl
    -- one turn, whatever the source
    have turn : ∀ (xs : List D) (vs : List V), RpL G.Z F1 vs xs → ∀ (k : Nat) (v : V) (T : Addr) (σ' : St) (H' : Hp), vs[k]? = some v → H' T = none → LW G F1 sl sb E bn ((numbered xs).drop k) σ' H' →
        gTup X.K 2 (gCons (gName i) (gCons (gName j) gNil)) (.ref T) σ' (upd H' T (.tup [.int (k : Nat), v])) fun σ2 H2 => (∃ p : (Int × D) × τ, sV G (((sl p.2).set i (.dat (.int p.1.1))).set j (.dat p.1.2)) sl sl (bn p.1 p.2) { nx := LW G F1 sl sb E bn ((numbered xs).drop (k + 1)), ct := LW G F1 sl sb E bn ((numbered xs).drop (k + 1)), bk := E.nx, rt := E.rt } σ2 H2) := fun xs vs l k v T σ' H' hv hT ⟨t, F', e', A', q'⟩ => by
      obtain ⟨d, hd, r⟩ := l.getV hv
      rw [numbered_drop xs k d hd] at q'
      have e2 : Ext F' H' (updT F' T (is (.tup [.int (k : Nat), v]))) (upd H' T (.tup [.int (k : Nat), v])) := Ext.new A'.ok hT rfl
      have A2 := A'.go e2
      refine ⟨T, [.int (k : Nat), v], rfl, SqT.of upd_same, rfl, _, _, rfl, _, _, rfl, rfl, (((k : Int), d), t), ?_⟩
      exact loop_turn (e'.trans e2.ex) ((A2.set (.int _)).set (r.ex (e'.trans e2.ex))) q'
    have fin : ∀ (xs : List D) (vs : List V), RpL G.Z F1 vs xs → ∀ σ' H', LW G F1 sl sb E bn ((numbered xs).drop vs.length) σ' H' → E.nx σ' H' := fun xs vs l σ' H' ⟨t, F', e', A', q'⟩ => by
      rw [l.length, numbered_end] at q'
      exact q' F' σ' H' e' A'
    have start : ∀ (xs : List D), (N.loop (β := β) bn (numbered xs) t0).wp (flP G F sl sb E) G.Er → LW G F1 sl sb E bn ((numbered xs).drop 0) σ H1 := fun xs h => ⟨t0, F1, Ex.refl F1, A1.weak h0, (N.loop bn _ t0).mono (fun f z => flP.ex G e1.ex z) (fun _ _ z => z) h⟩
    cases r with
    | tup r l =>
      rename_i a vs xs
      refine ⟨a, rfl, .inr ⟨⟨vs, tup_of A1.ok r⟩, ?_⟩⟩
      refine ⟨fun k m σ H => m = vs.length - k ∧ k ≤ vs.length ∧ LW G F1 sl sb E bn ((numbered xs).drop k) σ H, ⟨vs.length, by simp, Nat.zero_le _, start xs q1⟩, ?_⟩
      rintro k m σ' H' ⟨rfl, hk, w⟩
      have hsq : SqT X.K H' a vs := by
        obtain ⟨t, F', e', A', _⟩ := id w
        exact sqT_of A'.ok (e' _ _ r)
      by_cases hlt : k < vs.length
      · refine .inr ⟨⟨vs, vs[k], hsq, by simp [hlt]⟩, LW G F1 sl sb E bn ((numbered xs).drop (k + 1)), fun σ2 H2 w2 => ⟨vs.length - (k + 1), by omega, rfl, hlt, w2⟩, fun v H2 hy => ?_⟩
        obtain ⟨T, u, rfl, hT, rfl, hu⟩ := hy
        exact turn xs vs l k u T σ' H' (hu vs hsq) hT w
      · have ek : k = vs.length := by omega
        subst ek
        exact .inl ⟨⟨vs, hsq, Nat.le_refl _⟩, fin xs vs l σ' H' w⟩
    | lst r l =>
      rename_i a vs xs
      refine ⟨a, rfl, .inl ⟨⟨vs, by rw [← hK]; exact RL.sq A1.ok r⟩, ?_⟩⟩
      refine ⟨fun k m σ H => m = vs.length - k ∧ k ≤ vs.length ∧ LW G F1 sl sb E bn ((numbered xs).drop k) σ H, ⟨vs.length, by simp, Nat.zero_le _, start xs q1⟩, ?_⟩
      rintro k m σ' H' ⟨rfl, hk, w⟩
      have hsq : SqL X.K H' a vs := by
        obtain ⟨t, F', e', A', _⟩ := id w
        rw [← hK]
        exact RL.sq A'.ok (r.ex e')
      by_cases hlt : k < vs.length
      · refine .inr ⟨⟨vs, vs[k], hsq, by simp [hlt]⟩, LW G F1 sl sb E bn ((numbered xs).drop (k + 1)), fun σ2 H2 w2 => ⟨vs.length - (k + 1), by omega, rfl, hlt, w2⟩, fun v H2 hy => ?_⟩
        obtain ⟨T, u, rfl, hT, rfl, hu⟩ := hy
        exact turn xs vs l k u T σ' H' (hu vs hsq) hT w
      · have ek : k = vs.length := by omega
        subst ek
        exact .inl ⟨⟨vs, hsq, Nat.le_refl _⟩, fin xs vs l σ' H' w⟩
    | _ => exact (show False from q1).elim

/-! ### things that a def changes in place -/
theorem ds_freeze {rest : List Stmt} {sl2 : τ → List Sl} {i : Nat} {ds : List D} {n : N (Fl τ β)} (hi : S[i]? = some (.own (.lst ds)) := by rfl) (h : PSs X rest (sV G (S.set i (.dat (.lst ds))) sl2 sb n)) : PSs X rest (sV G S sl2 sb n) :=
  PSs.imp h fun E σ H ⟨F, A, q⟩ => by
    obtain ⟨F', e, A'⟩ := A.freeze hi
    exact ⟨F', A', n.mono (fun f z => flP.ex G e z) (fun _ _ z => z) q⟩
/-- x = [] , to be filled -/
theorem ds_newL {i : Nat} {x : Str} {pos' pl : Pos} (hN : X.N.Nodup) (hi : X.N[i]? = some x := by rfl) (hx : Loc X.env.scope x := by first | exact Or.inl rfl | exact Or.inr rfl) (hs : swapsWith (.List [] pl) (some (.Name x pos')) pos.line X.env = pure false := by rfl)
    (hf : X.fn x = true ∨ X.env.scope.names.lookup x = some .local := by first | exact .inl rfl | exact .inr rfl) :
    PS X (.Assign [.Name x pos'] (.List [] pl) pos) (sV G S (fun _ : Unit => S.set i (.own (.lst []))) sb (.ok (.nx ()))) :=
  PS.imp (ps_set (i := i) hN hi hx (pe_lst pa_nil) hs hf) fun E σ H ⟨F, A, q⟩ => ⟨Nat.zero_le _, fun p hp => q F _ _ (Ex.refl F) (A.newOwn hp ⟨[], rfl, .nil⟩)⟩
/-- x.append(e) -/
theorem ds_app {i : Nat} {x : Str} {px pa pc : Pos} {ds : List D} (hi : S[i]? = some (.own (.lst ds))) (hN : X.N[i]? = some x) (ha : PE X a (eV G S na)) (hv : Vis X.env.scope x := by first | exact Or.inl rfl | exact Or.inr (Or.inl rfl) | exact Or.inr (Or.inr rfl))
    (hd : (x == ("__debug__" : Str)) = false := by decide) (he : starEach (a :: []) X.env = (false, eval a X.env) :: starEach [] X.env := by rfl) (hw : swapsWith (.Call (.Attribute (.Name x px) "append" pa) [a] [] pc) none pos.line X.env = pure false := by rfl)
    (hb : PE X (.Call (.Attribute (.Name x px) "append" pa) [a] [] pc) (tBM X.K "list" rAppend (tVar i) (tCons (eV G S na) tNil)) := by exact pe_bm PySem.F.plainAttrs_list PySem.F.slot_list_append PySem.F.type_list_append mt_append (pv _) (pa_cons (by assumption) pa_nil)) :
    PS X (.Expr (.Call (.Attribute (.Name x px) "append" pa) [a] [] pc) pos) (sV G S (fun d => S.set i (.own (.lst (ds ++ [d])))) sb (na.bind fun d => (N.asrt (ds.length < sizeLine)).bind fun _ => .ok (.nx d))) :=
  PS.imp (ps_expr hb hw) fun E σ H ⟨F, A, q⟩ => by
    obtain ⟨l, u, e, hu, nF, nB, vs, eu, r⟩ := A.sl i _ hi
    subst eu
    refine ⟨.ref l, e, .inl ⟨rfl, vs, SqL.of hu⟩, F, A, na.mono (fun d q1 v F1 H1 e1 r1 => ?_) (fun _ _ z => z) q⟩
    have A1 := A.go e1
    obtain ⟨hF1, hu1⟩ := ext_lst e1 nF hu
    obtain ⟨hz, q1⟩ := q1
    exact ⟨l, vs, v, rfl, rfl, hu1, by rw [r.length]; exact hz, q1 F1 σ _ e1.ex (A1.put hi e ⟨vs ++ [v], rfl, (r.ex e1.ex).append (.cons r1 .nil)⟩)⟩

/-! dicts with tuples of ints and texts as keys -/
def keyOf : D → Option Key
  | .int i => some (.inl i)
  | .str s => some (.inr s)
  | _ => none
def keysOf : List D → Option (List Key)
  | [] => some []
  | x :: xs => match keyOf x, keysOf xs with
    | some k, some ks => some (k :: ks)
    | _, _ => none
def keyD : Key → D
  | .inl i => .int i
  | .inr s => .str s
theorem keysOf_rp {Z : Zt} {F : Ty} : ∀ {vs : List V} {xs : List D} {ks : List Key}, RpL Z F vs xs → keysOf xs = some ks → vs = ks.map kV
  | _, _, _, .nil, h => by unfold keysOf at h; cases h; rfl
  | _, _, _, .cons (d := d) (ds := ds) r l, h => by
    unfold keysOf at h
    cases h1 : keyOf d with
    | none => rw [h1] at h; simp at h
    | some k =>
      cases h2 : keysOf ds with
      | none => rw [h1, h2] at h; simp at h
      | some ks =>
        rw [h1, h2] at h
        simp at h
        subst h
        rw [List.map_cons, ← keysOf_rp l h2]
        congr 1
        cases r <;> first | (simp [keyOf] at h1; done) | (simp [keyOf] at h1; subst h1; rfl)
theorem keyD_rp {Z : Zt} {F : Ty} : ∀ ks : List Key, RpL Z F (ks.map kV) (ks.map keyD)
  | [] => .nil
  | .inl i :: ks => .cons (.int i) (keyD_rp ks)
  | .inr s :: ks => .cons (.str s) (keyD_rp ks)
def dget {κ : Type} [DecidableEq κ] (kvs : List (κ × D)) (k : κ) : Option D := (kvs.find? fun kv => decide (kv.1 = k)).map (·.2)
def dput {κ : Type} [DecidableEq κ] (kvs : List (κ × D)) (k : κ) (v : D) : List (κ × D) :=
  if (kvs.any fun kv => decide (kv.1 = k)) = true then kvs.map (fun kv => if kv.1 = k then (kv.1, v) else kv) else kvs ++ [(k, v)]
section
variable {κ : Type} [DecidableEq κ] {Z : Zt} {F : Ty}
theorem rpkv_cons {p : κ × V} {q : κ × D} {vs : List (κ × V)} {ds : List (κ × D)} (h : RpKV Z F (p :: vs) (q :: ds)) : p.1 = q.1 ∧ Rp Z F p.2 q.2 ∧ RpKV Z F vs ds := by
  obtain ⟨h1, h2⟩ := h
  rw [List.map_cons, List.map_cons] at h1 h2
  cases h2 with
  | cons r l =>
    injection h1 with e1 e2
    exact ⟨e1, r, e2, l⟩
theorem rpkv_mk {p : κ × V} {q : κ × D} {vs : List (κ × V)} {ds : List (κ × D)} (e : p.1 = q.1) (r : Rp Z F p.2 q.2) (h : RpKV Z F vs ds) : RpKV Z F (p :: vs) (q :: ds) := by
  refine ⟨?_, .cons r h.2⟩
  rw [List.map_cons, List.map_cons, e, h.1]
theorem rpkv_nil : RpKV (κ := κ) Z F [] [] := ⟨rfl, .nil⟩
theorem rpkv_len {vs : List (κ × V)} {ds : List (κ × D)} (h : RpKV Z F vs ds) : vs.length = ds.length := by
  have := congrArg List.length h.1
  rwa [List.length_map, List.length_map] at this
theorem rpkv_get : ∀ {vs : List (κ × V)} {ds : List (κ × D)} (k : κ), RpKV Z F vs ds → (valV vs k = none ∧ dget ds k = none) ∨ ∃ v d, valV vs k = some v ∧ dget ds k = some d ∧ Rp Z F v d
  | [], [], k, _ => .inl ⟨rfl, rfl⟩
  | [], _ :: _, k, h => by have := rpkv_len h; simp at this
  | _ :: _, [], k, h => by have := rpkv_len h; simp at this
  | p :: vs, q :: ds, k, h => by
    obtain ⟨e, r, h'⟩ := rpkv_cons h
    by_cases hk : q.1 = k
    · refine .inr ⟨p.2, q.2, valV_pos (e.trans hk), ?_, r⟩
      unfold dget
      rw [List.find?_cons, decide_eq_true hk]
      rfl
    · have hd : dget (q :: ds) k = dget ds k := by
        unfold dget
        rw [List.find?_cons, decide_eq_false hk]
      rw [valV_neg (by rw [e]; exact hk), hd]
      exact rpkv_get k h'
theorem rpkv_any : ∀ {vs : List (κ × V)} {ds : List (κ × D)} (k : κ), RpKV Z F vs ds → (vs.any fun kv => decide (kv.1 = k)) = ds.any fun kv => decide (kv.1 = k)
  | [], [], k, _ => rfl
  | [], _ :: _, k, h => by have := rpkv_len h; simp at this
  | _ :: _, [], k, h => by have := rpkv_len h; simp at this
  | p :: vs, q :: ds, k, h => by
    obtain ⟨e, r, h'⟩ := rpkv_cons h
    rw [List.any_cons, List.any_cons, e, rpkv_any k h']
theorem rpkv_map {v : V} {d : D} (rv : Rp Z F v d) : ∀ {vs : List (κ × V)} {ds : List (κ × D)} (k : κ), RpKV Z F vs ds → RpKV Z F (vs.map fun kv => if kv.1 = k then (kv.1, v) else kv) (ds.map fun kv => if kv.1 = k then (kv.1, d) else kv)
  | [], [], k, _ => rpkv_nil
  | [], _ :: _, k, h => by have := rpkv_len h; simp at this
  | _ :: _, [], k, h => by have := rpkv_len h; simp at this
  | p :: vs, q :: ds, k, h => by
    obtain ⟨e, r, h'⟩ := rpkv_cons h
    rw [List.map_cons, List.map_cons]
    by_cases hk : q.1 = k
    · rw [if_pos hk, if_pos (e.trans hk)]
      exact rpkv_mk e rv (rpkv_map rv k h')
    · rw [if_neg hk, if_neg (by rw [e]; exact hk)]
      exact rpkv_mk e r (rpkv_map rv k h')
theorem rpkv_snoc {v : V} {d : D} {k : κ} (rv : Rp Z F v d) {vs : List (κ × V)} {ds : List (κ × D)} (h : RpKV Z F vs ds) : RpKV Z F (vs ++ [(k, v)]) (ds ++ [(k, d)]) := by
  refine ⟨?_, ?_⟩
  · rw [List.map_append, List.map_append, h.1]; rfl
  · rw [List.map_append, List.map_append]; exact h.2.append (.cons rv .nil)
theorem rpkv_put {v : V} {d : D} (k : κ) (rv : Rp Z F v d) {vs : List (κ × V)} {ds : List (κ × D)} (h : RpKV Z F vs ds) : RpKV Z F (putK vs k v) (dput ds k d) := by
  unfold putK dput
  rw [rpkv_any k h]
  split
  · exact rpkv_map rv k h
  · exact rpkv_snoc rv h
theorem rpkv_ex {F' : Ty} (e : Ex F F') {vs : List (κ × V)} {ds : List (κ × D)} (h : RpKV Z F vs ds) : RpKV Z F' vs ds := ⟨h.1, h.2.ex e⟩
end
/-- x = {}, its keys to be tuples -/
theorem ds_newT {i : Nat} {x : Str} {pos' pl : Pos} (hN : X.N.Nodup) (hi : X.N[i]? = some x := by rfl) (hx : Loc X.env.scope x := by first | exact Or.inl rfl | exact Or.inr rfl) (hs : swapsWith (.Dict [] [] pl) (some (.Name x pos')) pos.line X.env = pure false := by rfl)
    (hf : X.fn x = true ∨ X.env.scope.names.lookup x = some .local := by first | exact .inl rfl | exact .inr rfl) :
    PS X (.Assign [.Name x pos'] (.Dict [] [] pl) pos) (sV G S (fun _ : Unit => S.set i (.own (.dT []))) sb (.ok (.nx ()))) :=
  PS.imp (ps_set (i := i) hN hi hx pe_dnewT hs hf) fun E σ H ⟨F, A, q⟩ => fun p hp => q F _ _ (Ex.refl F) (A.newOwn hp ⟨[], rfl, rpkv_nil⟩)
/-- a datum as a tuple key -/
def tkey : D → N (List Key)
  | .tup xs => match keysOf xs with
    | some ks => .ok ks
    | none => .stuck
  | _ => .stuck
theorem ext_dT {F F2 : Ty} {H H2 : Hp} {l : Addr} {kvs : List (List Key × V)} (e : Ext F H F2 H2) (hF : F l = none) (hA : H l = some (.dT kvs)) : F2 l = none ∧ H2 l = some (.dT kvs) := by
  obtain ⟨h, n⟩ := e.kp _ _ hA hF
  rcases n with n | ⟨_, xs, z⟩
  · exact ⟨n, h⟩
  · cases z
theorem ext_dK {F F2 : Ty} {H H2 : Hp} {l : Addr} {kvs : List (Key × V)} (e : Ext F H F2 H2) (hF : F l = none) (hA : H l = some (.dK kvs)) : F2 l = none ∧ H2 l = some (.dK kvs) := by
  obtain ⟨h, n⟩ := e.kp _ _ hA hF
  rcases n with n | ⟨_, xs, z⟩
  · exact ⟨n, h⟩
  · cases z
/-- e in d -/
theorem dt_inT {i : Nat} {x : Str} {px : Pos} {kvs : List (List Key × D)} {k : Nat} (hr : Room k X.A) (hi : S[i]? = some (.own (.dT kvs))) (hN : X.N[i]? = some x) (ha : PE X a (eV G S na)) (hv : Vis X.env.scope x := by first | exact Or.inl rfl | exact Or.inr (Or.inl rfl) | exact Or.inr (Or.inr rfl))
    (hd : (x == ("__debug__" : Str)) = false := by decide) (hcd : (x == ("__classdict__" : Str)) = false := by decide) (hm : behindInMarks .In (.Name x px) = false := by rfl) : PT X (.Compare a [.In] [.Name x px] pos) (tV G S (na.bind fun d => (tkey d).bind fun ks => .ok (dget kvs ks).isSome)) :=
  PT.imp (pt_cmp (pc_din (hu_of hr) ha (pe_var (i := i) hN hv hd hcd)) hm) fun σ H Q ⟨F, A, q⟩ => ⟨F, A, na.mono (fun d q1 v F1 H1 e1 r1 => by
    obtain ⟨l, u, e, hu, nF, nB, vs, eu, r⟩ := A.sl i _ hi
    subst eu
    obtain ⟨_, hu1⟩ := ext_dT e1 nF hu
    refine ⟨.ref l, e, ?_⟩
    cases r1 with
    | tup rt lt =>
      rename_i b us xs
      unfold tkey at q1
      cases hk : keysOf xs with
      | none => simp only [hk] at q1; exact (show False from q1).elim
      | some ks =>
        simp only [hk] at q1
        have hb : H1 b = some (.tup (ks.map kV)) := by
          rw [← keysOf_rp lt hk]
          exact tup_of (A.go e1).ok rt
        refine ⟨l, valV vs ks, rfl, DGet.t hu1 hb, _, rfl, ?_⟩
        rcases rpkv_get ks r with ⟨h1, h2⟩ | ⟨v', d', h1, h2, _⟩
        · rw [h1]
          have := q1 F1 H1 e1
          rw [h2] at this
          exact this
        · rw [h1]
          have := q1 F1 H1 e1
          rw [h2] at this
          exact this
    | _ => exact (show False from q1).elim) (fun _ _ z => z) q⟩
/-- d[k] = e -/
theorem ds_putT {i : Nat} {x : Str} {px ps : Pos} {kvs : List (List Key × D)} {k : Nat} (hr : Room k X.A) (hi : S[i]? = some (.own (.dT kvs))) (hN : X.N[i]? = some x) (ha : PE X a (eV G S na)) (hb : PE X b (eV G S nb)) (hv : Vis X.env.scope x := by first | exact Or.inl rfl | exact Or.inr (Or.inl rfl) | exact Or.inr (Or.inr rfl))
    (hd : (x == ("__debug__" : Str)) = false := by decide) (hcd : (x == ("__classdict__" : Str)) = false := by decide) (hs : swapsWith b (some (.Subscript (.Name x px) a ps)) pos.line X.env = pure false := by rfl) :
    PS X (.Assign [.Subscript (.Name x px) a ps] b pos) (sV G S (fun t => S.set i (.own (.dT t))) sb (nb.bind fun v => na.bind fun d => (tkey d).bind fun ks => (N.asrt (kvs.length < sizeLine)).bind fun _ => .ok (.nx (dput kvs ks v)))) :=
  PS.imp (ps_dput (hu_of hr) (pe_var (i := i) hN hv hd hcd) ha hb hs) fun E σ H ⟨F, A, q⟩ => ⟨F, A, nb.mono (fun dv q1 v F1 H1 e1 r1 => by
    obtain ⟨l, u, e, hu, nF, nB, vs, eu, r⟩ := A.sl i _ hi
    subst eu
    have A1 := A.go e1
    refine ⟨.ref l, e, F1, A1, na.mono (fun dk q2 w F2 H2 e2 r2 => ?_) (fun _ _ z => z) q1⟩
    have A2 := A1.go e2
    obtain ⟨_, hu2⟩ := ext_dT (e1.trans e2) nF hu
    cases r2 with
    | tup rt lt =>
      rename_i b us xs
      unfold tkey at q2
      cases hk : keysOf xs with
      | none => simp only [hk] at q2; exact (show False from q2).elim
      | some ks =>
        simp only [hk] at q2
        obtain ⟨hz, q2⟩ := q2
        have hb : H2 b = some (.tup (ks.map kV)) := by
          rw [← keysOf_rp lt hk]
          exact tup_of A2.ok rt
        exact ⟨l, _, rfl, DPut.t hu2 hb (by rw [rpkv_len r]; exact hz), q2 F2 σ _ (e1.ex.trans e2.ex) (A2.put hi e ⟨_, rfl, rpkv_put ks (r1.ex e2.ex) (rpkv_ex (e1.ex.trans e2.ex) r)⟩)⟩
    | _ => exact (show False from q2).elim) (fun _ _ z => z) q⟩
/-- tuples that stand in the heap become known -/
theorem learn {Z : Zt} {H : Hp} : ∀ {kvs : List (List Key × V)} {bs : List Addr} {F : Ty}, Okk F H → IsKeys H kvs bs → ∃ F', Ext F H F' H ∧ RpL Z F' (bs.map V.ref) (kvs.map fun kv => .tup (kv.1.map keyD))
  | _, _, F, ok, .nil => ⟨F, Ext.refl ok, .nil⟩
  | _, _, F, ok, .cons (a := kv) (b := b) h t => by
    obtain ⟨F1, e1, l1⟩ := learn ok t
    cases q : F1 b with
    | some p =>
      obtain ⟨o, ho, po, ht⟩ := e1.ok _ _ q
      rw [h] at ho
      cases ho
      rw [ht ⟨_, rfl⟩] at q
      exact ⟨F1, e1, .cons (.tup q (keyD_rp _)) l1⟩
    | none =>
      have ex' : Ex F1 (updT F1 b (is (.tup (kv.1.map kV)))) := fun c p z => by
        by_cases hb : c = b
        · subst hb; rw [q] at z; cases z
        · rw [updT_ne hb]; exact z
      have e2 : Ext F1 H (updT F1 b (is (.tup (kv.1.map kV)))) H := by
        refine ⟨ex', fun c p z => ?_, fun c u z nb => ?_⟩
        · by_cases hb : c = b
          · subst hb; rw [updT_same] at z; cases z; exact ⟨_, h, rfl, fun _ => rfl⟩
          · rw [updT_ne hb] at z; exact e1.ok c p z
        · by_cases hb : c = b
          · subst hb
            rw [h] at z
            cases z
            exact ⟨h, .inr ⟨updT_same, _, rfl⟩⟩
          · rw [updT_ne hb]; exact ⟨z, .inl nb⟩
      exact ⟨_, e1.trans e2, .cons (.tup updT_same (keyD_rp _)) (l1.ex ex')⟩
/-- list(d) of such a dict -/
theorem de_listT {i : Nat} {x : Str} {px p : Pos} {kvs : List (List Key × D)} (hc : X.calm = true) (hm : X.mg "list" = none) (hi : S[i]? = some (.own (.dT kvs))) (hN : X.N[i]? = some x) (hg : Gl X "list" := by rfl) (hv : Vis X.env.scope x := by first | exact Or.inl rfl | exact Or.inr (Or.inl rfl) | exact Or.inr (Or.inr rfl))
    (hd : (x == ("__debug__" : Str)) = false := by decide) (hcd : (x == ("__classdict__" : Str)) = false := by decide) (he : starEach (.Name x px :: []) X.env = (false, eval (.Name x px) X.env) :: starEach [] X.env := by rfl) (hpl : (backTo pos (starEach [] X.env)).any (·.1) = false := by rfl) :
    PE X (.Call (.Name "list" p) [.Name x px] [] pos) (eV G S (.ok (.lst (kvs.map fun kv => .tup (kv.1.map keyD))))) :=
  PE.imp (pe_callTy (call_list_dT hc) hg hm (by decide +kernel) (pa_cons (pe_var (i := i) hN hv hd hcd) pa_nil he) (by decide) (by decide) he hpl) fun σ H Q ⟨F, A, q⟩ => by
    obtain ⟨l, u, e, hu, nF, nB, vs, eu, r⟩ := A.sl i _ hi
    subst eu
    refine ⟨.ref l, e, l, vs, rfl, .inl hu, fun p bs hp hk => ?_⟩
    obtain ⟨F', e1, l1⟩ := learn (Z := G.Z) A.ok hk
    have e2 : (vs.map fun kv => D.tup (kv.1.map keyD)) = kvs.map fun kv => D.tup (kv.1.map keyD) := by
      have h1 : (vs.map fun kv => D.tup (kv.1.map keyD)) = (vs.map (·.1)).map fun k => D.tup (k.map keyD) := by rw [List.map_map]; rfl
      have h2 : (kvs.map fun kv => D.tup (kv.1.map keyD)) = (kvs.map (·.1)).map fun k => D.tup (k.map keyD) := by rw [List.map_map]; rfl
      rw [h1, h2, r.1]
    rw [e2] at l1
    obtain ⟨e3, r3⟩ := new_lst e1.ok hp l1
    exact q _ _ _ (e1.trans e3) r3
end
end M

set_option Elab.async false
set_option linter.all false
set_option maxRecDepth 100000
set_option maxHeartbeats 2000000
namespace M
open PySem L2
/-! ### calls with defaults and keywords -/
section
variable {X : Cx} {G : Gx} {S : List Sl} {a b c e : Expr} {na nb : N D} {pos : Pos}
/-- a call's way to a def: np positional arguments, keywords ks; gD puts their data in the parameters' order, defaults among them -/
structure CalG (X : Cx) (G : Gx) (x : Str) (np : Nat) (ks : List Str) (gD : List D → List D → List D) (n : Nat) (m : List D → N D) : Prop where
  ex : ∃ (k : Nat) (f : Addr) (fd : FuncData) (ps : List Str) (g : List Value → List Value → List Value) (gV : List V → List V → List V), FnOk X.prog X.w X.K X.mg X.base (L2.CX X.prog X.w) k f fd ps (spN G.Z n m) ∧ Room k X.A ∧ X.mg x = some (.ref f) ∧ PySem.W.keepIn X.K (.ref f) = true ∧
    KBn X.K fd ps np ks g gV ∧ ∀ F vs ds zs es, RpL G.Z F vs ds → RpL G.Z F zs es → vs.length = np → zs.length = ks.length → RpL G.Z F (gV vs zs) (gD ds es)
  ar : Arity n m
theorem runG {np n : Nat} {ks : List Str} {m : List D → N D} {k : Nat} {f : Addr} {fd : FuncData} {ps : List Str} {g : List Value → List Value → List Value} {gV : List V → List V → List V}
    {pins : List (Addr × Obj)} {σ : St} {H : Hp} {s : Shared} {Q : VK} {us ws : List Value} {vs zs : List V} (F : FnOk X.prog X.w X.K X.mg X.base (L2.CX X.prog X.w) k f fd ps (spN G.Z n m)) (hr : Room k X.A) (hb : KBn X.K fd ps np ks g gV) (tk : Takes X G.W)
    (I : Inv X pins σ H s) (r : Vals vs us) (rz : Vals zs ws) (l1 : vs.length = np) (l2 : zs.length = ks.length) (h : spN G.Z n m (gV vs zs) H Q (WE G.W σ)) : wpAny (model X.prog X.w) X.A (call (.ref f) us (ks.zip ws)) (EP X pins σ Q) X.xe s := by
  have r2 := hb.rel r rz
  refine wpAny_call (codeAny_mono (F.run X.A X.stack s H ⟨us, ks.zip ws⟩ (g us ws) (gV vs zs) Q (WE G.W σ) hr I.env0 (hb.to s us ws I.kIn (r.length.symm.trans l1) (rz.length.symm.trans l2)) r2 h) fun r s' hq => ?_)
  cases r with
  | error e => exact passAt tk σ pins H s e s' I hq
  | ok fl =>
    cases fl with
    | ret u => exact I.after hq
    | next => exact False.elim hq
    | brk => exact False.elim hq
    | cont => exact False.elim hq
def N.lens (ds es : List D) (n m : Nat) : N Unit := N.asrt (ds.length = n ∧ es.length = m)
/-- f(e, ..), the rest by defaults -/
theorem de_callDf {x : Str} {np n : Nat} {gD : List D → List D → List D} {m : List D → N D} {p : Pos} {es : List Expr} {na : N (List D)} (C : CalG X G x np [] gD n m) (tk : Takes X G.W) (hw : Wk S G.Se)
    (ha : PA X (e :: es) (aV G S na)) (hg : Gl X x := by rfl) (hdb : (x == ("__debug__" : Str)) = false := by decide) (he : starEach (e :: es) X.env = (false, eval e X.env) :: starEach es X.env := by rfl) (hpl : (backTo pos (starEach es X.env)).any (·.1) = false := by rfl) :
    PE X (.Call (.Name x p) (e :: es) [] pos) (eV G S (na.bind fun ds => (N.asrt (ds.length = np)).bind fun _ => m (gD ds []))) := by
  obtain ⟨k, f, fd, ps, g, gV, Fn, hr, hm, hk, hb, hd⟩ := C.ex
  refine ⟨fun pins s σ H Q I ⟨F, A, q⟩ => ?_⟩
  refine wpAny_Call_Name_kw (ld_glob I hg hm ?_ hdb)
  refine PySem.W.callWith_K (h₀ := X.base) I.ok.mod.kin hk (thn (ha.run pos pins s σ H (fun vs H1 => vs.length = np ∧ spN G.Z n m (gV vs []) H1 Q (WE G.W σ)) I ⟨F, A, na.mono (fun ds q1 vs F1 H1 e1 r1 => ?_) (fun _ _ z => z) q⟩) fun us s1 ⟨vs, H1, I1, r, l1, q1⟩ => ⟨I1.kIn, ?_⟩) he hpl
  · exact ⟨r1.length.trans q1.1, call_post C.ar hw A e1 (hd F1 vs ds [] [] r1 .nil (r1.length.trans q1.1) rfl) q1.2⟩
  · exact runG (ws := []) (zs := []) Fn hr hb tk I1 r .nil l1 rfl q1
/-- f(k = e, ..) -/
theorem de_callKw0 {x : Str} {n : Nat} {ks : List Str} {gD : List D → List D → List D} {m : List D → N D} {p : Pos} {kws : List Keyword} {nk : N (List D)} (C : CalG X G x 0 ks gD n m) (tk : Takes X G.W) (hw : Wk S G.Se)
    (hkw : PK X kws (aV G S nk)) (hg : Gl X x := by rfl) (hdb : (x == ("__debug__" : Str)) = false := by decide) (hall : (backToKw pos (keywordEach kws X.env)).all (·.1.isSome) = true := by rfl) (hks : (backToKw pos (keywordEach kws X.env)).filterMap (·.1) = ks := by rfl)
    (hpl : ((backTo pos (starEach [] X.env)).any (·.1) || (backToKw pos (keywordEach kws X.env)).any (·.1.isNone)) = false := by rfl) :
    PE X (.Call (.Name x p) [] kws pos) (eV G S (nk.bind fun es => (N.asrt (es.length = ks.length)).bind fun _ => m (gD [] es))) := by
  obtain ⟨k, f, fd, ps, g, gV, Fn, hr, hm, hk, hb, hd⟩ := C.ex
  refine ⟨fun pins s σ H Q I ⟨F, A, q⟩ => ?_⟩
  refine wpAny_Call_Name_kw (ld_glob I hg hm ?_ hdb)
  refine PySem.W.callWith_KW0 (h₀ := X.base) I.ok.mod.kin hk hall (thn (hkw.run pos pins s σ H (fun zs H1 => zs.length = ks.length ∧ spN G.Z n m (gV [] zs) H1 Q (WE G.W σ)) I ⟨F, A, nk.mono (fun es q1 vs F1 H1 e1 r1 => ?_) (fun _ _ z => z) q⟩) fun ws s1 ⟨zs, H1, I1, r, l1, q1⟩ => ⟨I1.kIn, ?_⟩) hpl
  · exact ⟨r1.length.trans q1.1, call_post C.ar hw A e1 (hd F1 [] [] vs es .nil r1 rfl (r1.length.trans q1.1)) q1.2⟩
  · rw [hks]
    exact runG (us := []) (vs := []) Fn hr hb tk I1 .nil r rfl l1 q1
end

/-! ### try -/
section
variable {X : Cx} {G : Gx} {S : List Sl} {τ β : Type} {sl : τ → List Sl} {sb : β → List Sl} {na nb : N D} {pos : Pos} {body : List Stmt}
/-- a clause by data: the class's number, the slot of its name, what the suite does with what the error keeps -/
structure Hd (τ β : Type) where
  ci : Nat
  i : Option Nat
  m : D → N (Fl τ β)
/-- which classes' errors a clause of a class takes (by numbers) -/
def handle {τ β : Type} (ex : Nat → Nat → Bool) (nE : Nat) (c : Nat) (x : D) : List (Hd τ β) → N (Fl τ β)
  | [] => (N.asrt (c < nE)).bind fun _ => .err c x
  | h :: hs => (N.asrt (c < nE)).bind fun _ => if ex c h.ci = true then N.ne (h.m x) else handle ex nE c x hs
/-- within a suite -/
def Gx.suite (G : Gx) (n : Nat) : Gx := { G with W := fun _ _ _ _ => False, Se := List.replicate n .un }
def clS (i : Option Nat) (a : Addr) (d : Option Addr) (f : String) (x : D) (S : List Sl) : List Sl := match i with
  | none => S
  | some i => S.set i (.exc a d f x)
theorem At.setExc {Z : Zt} {B : Bs} {F : Ty} {σ : St} {H : Hp} (h : At Z B S F σ H) {i : Nat} {a : Addr} {d : Option Addr} {f : String} {x : D} (he : Keeps Z F f x d) (hi : i < S.length) : At Z B (S.set i (.exc a d f x)) F (σ.set i (some (.ref a))) H := by
  have h1 := h.unset (i := i) (o := some (V.ref a))
  refine ⟨h1.ext, h1.fe, by rw [List.length_set, List.length_set]; exact h.len, fun j s q => ?_, fun j k l c c' q1 q2 => ?_⟩
  · by_cases z : i = j
    · subst z
      rw [List.getElem?_set_self hi] at q
      cases q
      rw [List.getElem?_set_self (by rw [h.len]; exact hi)]
      exact ⟨rfl, he⟩
    · rw [List.getElem?_set_ne z] at q
      exact h1.sl j s (by rw [List.getElem?_set_ne z]; exact q)
  · have nj : i ≠ j := fun z => by subst z; rw [List.getElem?_set_self hi] at q1; cases q1
    have nk : i ≠ k := fun z => by subst z; rw [List.getElem?_set_self hi] at q2; cases q2
    rw [List.getElem?_set_ne nj] at q1
    rw [List.getElem?_set_ne nk] at q2
    exact h1.dis j k l c c' (by rw [List.getElem?_set_ne nj]; exact q1) (by rw [List.getElem?_set_ne nk]; exact q2)
/-- e.f in a suite -/
theorem de_exc {Gs : Gx} {a : Addr} {oe : Obj} {cls : Value} {d : Option Addr} {pn : List (Addr × Obj)} {f : String} {i : Nat} {y x : Str} {p : Pos} {dt : D} (hi : S[i]? = some (.exc a d f dt))
    (hT : ∀ C, cls = .ref C → ∃ nm fI, PySem.TErr.ETxt X.K X.mg nm f C fI) (hc : ∃ C, cls = .ref C) (hz : Zc cls d oe) (hf : ∃ vs, oe.data = .fields vs) (hN : (X.suite a ((a, oe) :: pn)).N[i]? = some y) (hx : x = PySem.Str.ofString f := by rfl)
    (hv : Vis (X.suite a ((a, oe) :: pn)).env.scope y := by first | exact Or.inl rfl | exact Or.inr (Or.inl rfl) | exact Or.inr (Or.inr rfl)) (hd : (y == ("__debug__" : Str)) = false := by decide) (hcd : (y == ("__classdict__" : Str)) = false := by decide)
    (hb : attributeBase (.Name y p) x X.env (eval (.Name y p) X.env) = eval (.Name y p) X.env := by rfl) : PE (X.suite a ((a, oe) :: pn)) (.Attribute (.Name y p) x pos) (eV Gs S (.ok dt)) :=
  PE.imp (pe_getE hT hz hf (pe_var (i := i) hN hv hd hcd) hx hb) fun σ H Q ⟨F, A, q⟩ => by
    obtain ⟨e, kp⟩ := A.sl i _ hi
    obtain ⟨C, hC⟩ := hc
    obtain ⟨nm, fI, T⟩ := hT C hC
    obtain ⟨dd, v, h1, h2, r⟩ : ∃ dd v, d = some dd ∧ F dd = some (is (.xd [(PySem.Str.ofString f, v)])) ∧ Rp Gs.Z F v dt := by
      rcases kp with ⟨z, _⟩ | ⟨_, z⟩
      · exact (fld_ne T.fld z).elim
      · exact z
    exact ⟨.ref a, e, rfl, C, dd, v, hC, h1, tup_of A.ok h2, q v F H (Ext.refl A.ok) r⟩
/-- the suites of a try's clauses -/
inductive Cls (X : Cx) (G : Gx) (ex : Nat → Nat → Bool) (nE : Nat) (Sh : List Sl) (sl : τ → List Sl) (sb : β → List Sl) : List ExceptHandler → List (Hd τ β) → List Cl → Prop
  | nil : Cls X G ex nE Sh sl sb [] [] []
  | cons {x : Str} {n : Option Str} {h : Hd τ β} {b₀ : Stmt} {suite : List Stmt} {np pos' : Pos} {hds : List ExceptHandler} {hs : List (Hd τ β)} {cs : List Cl} (hc : Names X x (.ref (G.Z.cs h.ci))) (hn : ClName X n h.i) (hi : ∀ i, h.i = some i → i < Sh.length)
      (hx : ∀ c, c < nE → PySem.W.exmOne X.K (.ref (G.Z.cs c)) (.ref (G.Z.cs h.ci)) = some (ex c h.ci))
      (hsu : ∀ (a : Addr) (oe : Obj) (c : Nat) (d : Option Addr) (pn : List (Addr × Obj)) (dt : D), c < nE → ex c h.ci = true → Zc (.ref (G.Z.cs c)) d oe → (∃ vs, oe.data = .fields vs) → PSs (X.suite a ((a, oe) :: pn)) (b₀ :: suite) (sV (G.suite Sh.length) (clS h.i a d (G.Z.fs c) dt Sh) sl sb (h.m dt)))
      (hw : ∀ i t, h.i = some i → (sl t).set i .un = sl t) (hwb : ∀ i t, h.i = some i → (sb t).set i .un = sb t)
      (r : Cls X G ex nE Sh sl sb hds hs cs) :
      Cls X G ex nE Sh sl sb (.ExceptHandler (some (.Name x np)) n (b₀ :: suite) pos' :: hds) (h :: hs)
        ({ c := .ref (G.Z.cs h.ci), i := h.i, ts := fun a cls d E σ H => ∃ (c : Nat) (dt : D), c < nE ∧ ex c h.ci = true ∧ cls = .ref (G.Z.cs c) ∧ sV (G.suite Sh.length) (clS h.i a d (G.Z.fs c) dt Sh) sl sb (h.m dt) E σ H } :: cs)
theorem Cls.ok {ex : Nat → Nat → Bool} {nE : Nat} {Sh : List Sl} {hds : List ExceptHandler} {hs : List (Hd τ β)} {cs : List Cl} (h : Cls X G ex nE Sh sl sb hds hs cs) : ClsOk X hds cs := by
  induction h with
  | nil => exact .nil
  | cons hc hn hi hx hsu hw hwb r ih =>
    refine .cons hc hn (fun a oe cls d pn hz hf => ?_) ih
    refine ⟨fun pins s σ H E I ⟨c, dt, hc1, hc2, hcls, q⟩ => ?_⟩
    subst hcls
    exact (hsu a oe c d pn dt hc1 hc2 hz hf).run pins s σ H E I q
/-- the wish of the body's errors, from what the clauses do by data -/
theorem Cls.wish {ex : Nat → Nat → Bool} {nE : Nat} {Sh : List Sl} {hds : List ExceptHandler} {hs : List (Hd τ β)} {cs : List Cl} (h : Cls X G ex nE Sh sl sb hds hs cs) (hK : G.Z.K = X.K) (hsw : Wk Sh G.Se) {F0 : Ty} {E : Ends} {c : Nat} {dt : D} {cls : Value} {dd : Option Addr} {F : Ty} {σ : St} {H : Hp}
    (e0 : Ex F0 F) (A : At G.Z G.B Sh F σ H) (er : ErrIs G.Z F c dt cls dd) (q : (handle ex nE c dt hs).wp (flP G F0 sl sb E) G.Er) : wCl X.K G.W E cs cls dd σ H := by
  induction h with
  | nil => exact q.2 cls dd F σ H (A.weak hsw) er
  | @cons x n h b₀ suite np pos' hds hs cs hc hn hi hx hsu hw hwb r ih =>
    obtain ⟨hlt, q⟩ := q
    obtain ⟨hcls, kp⟩ := er
    subst hcls
    refine ⟨ex c h.ci, hx c hlt, fun hy a ha => ?_, fun hno => ?_⟩
    · rw [if_pos hy] at q
      refine ⟨c, dt, hlt, hy, rfl, F, ?_, ?_⟩
      · cases hi' : h.i with
        | none => exact A
        | some i =>
          show At G.Z G.B (Sh.set i (.exc a dd (G.Z.fs c) dt)) F (σ.set i (some (.ref a))) H
          exact A.setExc kp (hi i hi')
      · refine (h.m dt).mono (fun f z => ?_) (fun c' x' z => ?_) q
        · have z := flP.ex G e0 z
          cases hi' : h.i with
          | none => exact z
          | some i =>
            cases f with
            | nx t => exact fun F' σ' H' e' A' => z F' _ H' e' (by have := A'.unset (i := i) (o := none); rw [hw i t hi'] at this; exact this)
            | bk t => exact fun F' σ' H' e' A' => z F' _ H' e' (by have := A'.unset (i := i) (o := none); rw [hwb i t hi'] at this; exact this)
            | ct t => exact fun F' σ' H' e' A' => z F' _ H' e' (by have := A'.unset (i := i) (o := none); rw [hwb i t hi'] at this; exact this)
            | rt d => exact z
        · exact z.elim
    · rw [if_neg (by rw [hno]; decide)] at q
      exact ih q
theorem At.base {Z : Zt} {B : Bs} {F F0 : Ty} {σ : St} {H : Hp} (h : At Z B S F σ H) (e : Ex F0 F) : At Z { B with Fe := F0 } S F σ H := ⟨h.ext, e, h.len, h.sl, h.dis⟩
theorem At.unbase {Z : Zt} {B : Bs} {F F0 : Ty} {σ : St} {H : Hp} (h : At Z { B with Fe := F0 } S F σ H) (e : Ex B.Fe F0) : At Z B S F σ H := ⟨h.ext, e.trans h.fe, h.len, h.sl, h.dis⟩
/-- within a try's body: what is wished of errors is W's, the slots then are Sh -/
def Gx.tr (G : Gx) (W : WX) (Sh : List Sl) (F0 : Ty) : Gx := { G with W := W, Se := Sh, B := { G.B with Fe := F0 } }
theorem ds_try {ex : Nat → Nat → Bool} {nE : Nat} {Sh : List Sl} {h₀ : ExceptHandler} {hds : List ExceptHandler} {hs : List (Hd τ β)} {cs : List Cl} {n : N (Fl τ β)} (hst : X.stack = X.env :: X.outer) (hf : X.env.frame = some X.env.locals) (hN : X.N.Nodup) (tk : Takes X G.W) (hK : G.Z.K = X.K)
    (hsw : Wk Sh G.Se) (hh : Cls X G ex nE Sh sl sb (h₀ :: hds) hs cs)
    (hb : ∀ (F0 : Ty) (W : WX) (pn : List (Addr × Obj)) (xe : Value → Shared → Prop), Takes (X.tr pn xe) W → PassesOwn (model X.prog X.w) X.A X.env xe → PSs (X.tr pn xe) body (sV (G.tr W Sh F0) S sl sb n)) :
    PS X (.Try body (h₀ :: hds) [] [] pos) (sV G S sl sb (n.tryC fun c x => handle ex nE c x hs)) := by
  refine PS.imp (ps_try_cls (tb := fun W E σ H => ∃ F0, sV (G.tr W Sh F0) S sl sb n E σ H) hst hf hN tk (fun W pn xe t p => PSs.ex fun F0 => hb F0 W pn xe t p) hh.ok) fun E σ H ⟨F, A, q⟩ => ?_
  refine ⟨F, F, A.base (Ex.refl F), n.mono (fun f z => ?_) (fun c x z => ?_) q⟩
  · cases f with
    | nx t => exact fun F' σ' H' e A' => z F' σ' H' e (A'.unbase A.fe)
    | bk t => exact fun F' σ' H' e A' => z F' σ' H' e (A'.unbase A.fe)
    | ct t => exact fun F' σ' H' e A' => z F' σ' H' e (A'.unbase A.fe)
    | rt d => exact z
  · intro cls dd F' σ' H' A' er
    exact hh.wish hK hsw A'.fe (A'.unbase A.fe) er z
end
end M

set_option Elab.async false
set_option linter.all false
set_option maxRecDepth 100000
set_option maxHeartbeats 2000000
namespace M
open PySem L2
section
variable {X : Cx} {G : Gx} {S : List Sl} {τ β : Type} {sl : τ → List Sl} {sb : β → List Sl} {a b c e : Expr} {na nb nc : N D} {pos : Pos}
def dNeg : D → N D
  | .int i => .ok (.int (-i))
  | _ => .stuck
theorem dNeg_tot (x : D) : Tot (dNeg x) := by
  unfold dNeg
  split <;> first | exact Tot.ok _ | exact Tot.stuck
theorem de_neg (ha : PE X a (eV G S na)) : PE X (.UnaryOp .USub a pos) (eV G S (na.bind dNeg)) := de_un un_neg (fun F H x v Q ok r q => by
  cases x with
  | int i => exact ⟨i, rp_int r, q _ F H (Ext.refl ok) (.int _)⟩
  | _ => exact (show False from q).elim) dNeg_tot ha
/-- x in t, at any depth -/
def pIn (x y : D) : N Bool := match toPy x, items y with
  | some p, some ys => match toPys ys with
    | some ps => (N.asrt (SeqAt.shaped p = true ∧ SeqAt.shaped (.list ps) = true)).bind fun _ => .ok (ps.any fun z => PyData.eqv z p)
    | none => .stuck
  | _, _ => .stuck
theorem pIn_tot (x y : D) : Tot (pIn x y) := by
  unfold pIn
  split
  · split
    · exact (Tot.asrt _).bind fun _ => Tot.ok _
    · exact Tot.stuck
  · exact Tot.stuck
def dInD (x y : D) : N D := (pIn x y).bind fun b => .ok (.bl b)
def dNotInD (x y : D) : N D := (pIn x y).bind fun b => .ok (.bl (!b))
theorem dInD_tot (x y : D) : Tot (dInD x y) := (pIn_tot x y).bind fun _ => Tot.ok _
theorem dNotInD_tot (x y : D) : Tot (dNotInD x y) := (pIn_tot x y).bind fun _ => Tot.ok _
def rInDD (K : PySem.W.Frag) (neg : Bool) : R2 := fun x y H Q => ∃ d ds, Dp K H x d ∧ (Dp K H y (.list ds) ∨ Dp K H y (.tuple ds)) ∧ SeqAt.shaped d = true ∧ SeqAt.shaped (.list ds) = true ∧ Q (.bl (if neg then !ds.any fun z => PyData.eqv z d else ds.any fun z => PyData.eqv z d)) H
theorem shaped_tuple {ds : List PyData} (h : SeqAt.shaped (.list ds) = true) : PyData.canLayAll0 ds = true := SeqAt.canLay_of_shaped h
theorem op_inDD {k : Nat} (hr : Room k X.A) (hu : X.A.units + 65 < cLine) : OpR X (compareOp .In) (rInDD X.K false) := by
  intro pins s σ H x y v u Q I rx ry h
  obtain ⟨d, ds, hd, he, sd, se, q⟩ := h
  obtain ⟨as, r1⟩ := Dp.reads I d x v hd rx
  rcases he with he | he
  · obtain ⟨bs, r2⟩ := Dp.reads I (.list ds) y u he ry
    exact SeqAt.in_list_reads r2 r1 (SeqAt.canLay_of_shaped se) (SeqAt.canLay_of_shaped sd) (PyProof.Rows.room_in_shaped sd hu) ⟨.bl _, H, I, rfl, q⟩
  · obtain ⟨bs, r2⟩ := Dp.reads I (.tuple ds) y u he ry
    exact SeqAt.in_tuple_reads r2 r1 (shaped_tuple se) (SeqAt.canLay_of_shaped sd) (PyProof.Rows.room_in_shaped sd hu) ⟨.bl _, H, I, rfl, q⟩
theorem op_notInDD {k : Nat} (hr : Room k X.A) (hu : X.A.units + 65 < cLine) : OpR X (compareOp .NotIn) (rInDD X.K true) := by
  intro pins s σ H x y v u Q I rx ry h
  obtain ⟨d, ds, hd, he, sd, se, q⟩ := h
  obtain ⟨as, r1⟩ := Dp.reads I d x v hd rx
  rcases he with he | he
  · obtain ⟨bs, r2⟩ := Dp.reads I (.list ds) y u he ry
    exact SeqAt.notIn_list_reads r2 r1 (SeqAt.canLay_of_shaped se) (SeqAt.canLay_of_shaped sd) (PyProof.Rows.room_in_shaped sd hu) ⟨.bl _, H, I, rfl, q⟩
  · obtain ⟨bs, r2⟩ := Dp.reads I (.tuple ds) y u he ry
    exact SeqAt.notIn_tuple_reads r2 r1 (shaped_tuple se) (SeqAt.canLay_of_shaped sd) (PyProof.Rows.room_in_shaped sd hu) ⟨.bl _, H, I, rfl, q⟩
theorem in_data {F : Ty} {H : Hp} {v u : V} {x y : D} {Q : VK} {neg : Bool} (ok : Okk F H) (rx : Rp G.Z F v x) (ry : Rp G.Z F u y) (q : (pIn x y).wp (fun b => Q (.bl (if neg then !b else b)) H) (fun _ _ => False)) : rInDD G.Z.K neg v u H Q := by
  unfold pIn at q
  cases hx : toPy x with
  | none => simp only [hx] at q; exact q.elim
  | some p =>
    cases ry with
    | tup r l =>
      rename_i a vs ys
      cases hy : toPys ys with
      | none => simp only [hx, items, hy] at q; exact q.elim
      | some ps =>
        simp only [hx, items, hy] at q
        exact ⟨p, ps, dp_of ok rx hx, .inr (.tup (sqT_of ok r) (dps_of ok l hy)), q.1.1, q.1.2, by cases neg <;> exact q.2⟩
    | ktup r l =>
      rename_i a vs ys
      cases hy : toPys ys with
      | none => simp only [hx, items, hy] at q; exact q.elim
      | some ps =>
        simp only [hx, items, hy] at q
        exact ⟨p, ps, dp_of ok rx hx, .inr (.tup (.inr r) (dps_of ok l hy)), q.1.1, q.1.2, by cases neg <;> exact q.2⟩
    | lst r l =>
      rename_i a vs ys
      cases hy : toPys ys with
      | none => simp only [hx, items, hy] at q; exact q.elim
      | some ps =>
        simp only [hx, items, hy] at q
        exact ⟨p, ps, dp_of ok rx hx, .inl (.lst (RL.sq ok r) (dps_of ok l hy)), q.1.1, q.1.2, by cases neg <;> exact q.2⟩
    | _ => simp only [hx, items] at q; exact q.elim
theorem r2_InD : R2D G (rInDD G.Z.K false) dInD := fun F H x y v u Q ok rx ry q => in_data ok rx ry ((pIn x y).mono (fun b z => z _ F H (Ext.refl ok) (.bl _)) (fun _ _ z => z) q)
theorem r2_NotInD : R2D G (rInDD G.Z.K true) dNotInD := fun F H x y v u Q ok rx ry q => in_data ok rx ry ((pIn x y).mono (fun b z => z _ F H (Ext.refl ok) (.bl _)) (fun _ _ z => z) q)
theorem room65 {k : Nat} {A : Around} (h : Room k A) : A.units + 65 < cLine := by
  have := h.un
  omega
theorem de_inD {k : Nat} (hr : Room k X.A) (hK : G.Z.K = X.K) (ha : PE X a (eV G S na)) (hb : PE X b (eV G S nb)) (hm : behindInMarks .In b = false := by rfl) : PE X (.Compare a [.In] [b] pos) (eV G S (na.bind fun x => nb.bind fun y => dInD x y)) :=
  de_cmp (op_inDD hr (room65 hr)) (by rw [← hK]; exact r2_InD) dInD_tot ha hb hm
theorem de_notInD {k : Nat} (hr : Room k X.A) (hK : G.Z.K = X.K) (ha : PE X a (eV G S na)) (hb : PE X b (eV G S nb)) (hm : behindInMarks .NotIn b = false := by rfl) : PE X (.Compare a [.NotIn] [b] pos) (eV G S (na.bind fun x => nb.bind fun y => dNotInD x y)) :=
  de_cmp (op_notInDD hr (room65 hr)) (by rw [← hK]; exact r2_NotInD) dNotInD_tot ha hb hm

/-! a list that is still changed, read -/
theorem own_at {i : Nat} {ds : List D} {F : Ty} {σ : St} {H : Hp} (hi : S[i]? = some (.own (.lst ds))) (A : At G.Z G.B S F σ H) : ∃ l vs, σ[i]? = some (some (.ref l)) ∧ H l = some (.lst vs) ∧ F l = none ∧ RpL G.Z F vs ds := by
  obtain ⟨l, u, e, hu, nF, nB, vs, eu, r⟩ := A.sl i _ hi
  subst eu
  exact ⟨l, vs, e, hu, nF, r⟩
/-- e not in x -/
theorem de_notInO {i : Nat} {x : Str} {px : Pos} {ds : List D} {k : Nat} (hr : Room k X.A) (hK : G.Z.K = X.K) (hi : S[i]? = some (.own (.lst ds))) (hN : X.N[i]? = some x) (ha : PE X a (eV G S na)) (hv : Vis X.env.scope x := by first | exact Or.inl rfl | exact Or.inr (Or.inl rfl) | exact Or.inr (Or.inr rfl))
    (hd : (x == ("__debug__" : Str)) = false := by decide) (hcd : (x == ("__classdict__" : Str)) = false := by decide) (hm : behindInMarks .NotIn (.Name x px) = false := by rfl) : PE X (.Compare a [.NotIn] [.Name x px] pos) (eV G S (na.bind fun d => dNotInD d (.lst ds))) :=
  PE.imp (pe_cmpR (op_notInDD hr (room65 hr)) ha (pe_var (i := i) hN hv hd hcd) hm) fun σ H Q ⟨F, A, q⟩ => ⟨F, A, na.mono (fun d q1 v F1 H1 e1 r1 => by
    obtain ⟨l, vs, e, hu, nF, r⟩ := own_at hi A
    obtain ⟨hF1, hu1⟩ := ext_lst e1 nF hu
    refine ⟨.ref l, e, ?_⟩
    have q1 : (pIn d (.lst ds)).wp (fun b => ∀ v F' H', Ext F H F' H' → Rp G.Z F' v (.bl (!b)) → Q v H') G.Er := q1
    rw [← hK]
    unfold pIn at q1
    cases hx : toPy d with
    | none => simp only [hx] at q1; exact q1.elim
    | some p =>
      cases hy : toPys ds with
      | none => simp only [hx, items, hy] at q1; exact q1.elim
      | some ps =>
        simp only [hx, items, hy] at q1
        exact ⟨p, ps, dp_of (A.go e1).ok r1 hx, .inl (.lst (SqL.of hu1) (dps_of (A.go e1).ok (r.ex e1.ex) hy)), q1.1.1, q1.1.2, q1.2 _ F1 H1 e1 (.bl _)⟩) (fun _ _ z => z) q⟩
/-- tuple(x) -/
theorem de_tupleO {i : Nat} {x : Str} {px p : Pos} {ds : List D} (hm : X.mg "tuple" = none) (hi : S[i]? = some (.own (.lst ds))) (hN : X.N[i]? = some x) (hg : Gl X "tuple" := by rfl) (hv : Vis X.env.scope x := by first | exact Or.inl rfl | exact Or.inr (Or.inl rfl) | exact Or.inr (Or.inr rfl))
    (hd : (x == ("__debug__" : Str)) = false := by decide) (hcd : (x == ("__classdict__" : Str)) = false := by decide) (he : starEach (.Name x px :: []) X.env = (false, eval (.Name x px) X.env) :: starEach [] X.env := by rfl) (hpl : (backTo pos (starEach [] X.env)).any (·.1) = false := by rfl) :
    PE X (.Call (.Name "tuple" p) [.Name x px] [] pos) (eV G S (.ok (.tup ds))) :=
  PE.imp (pe_callTy call_tuple_of hg hm (by decide +kernel) (pa_cons (pe_var (i := i) hN hv hd hcd) pa_nil he) (by decide) (by decide) he hpl) fun σ H Q ⟨F, A, q⟩ => by
    obtain ⟨l, vs, e, hu, nF, r⟩ := own_at hi A
    refine ⟨.ref l, e, l, vs, rfl, .inl ⟨SqL.of hu, fun p hp => ?_⟩⟩
    obtain ⟨e2, r2⟩ := new_tup A.ok hp r
    exact q _ _ _ e2 r2
/-- x[e] -/
theorem de_ixO {i : Nat} {x : Str} {px : Pos} {ds : List D} (hi : S[i]? = some (.own (.lst ds))) (hN : X.N[i]? = some x) (hb : PE X b (eV G S nb)) (hs : PlainIx b := by exact fun _ _ => rfl) (hv : Vis X.env.scope x := by first | exact Or.inl rfl | exact Or.inr (Or.inl rfl) | exact Or.inr (Or.inr rfl))
    (hd : (x == ("__debug__" : Str)) = false := by decide) (hcd : (x == ("__classdict__" : Str)) = false := by decide) : PE X (.Subscript (.Name x px) b pos) (eV G S (nb.bind fun y => dIx (.lst ds) y)) :=
  PE.imp (pe_ix ix_list (pe_var (i := i) hN hv hd hcd) hb hs) fun σ H Q ⟨F, A, q⟩ => by
    obtain ⟨l, vs, e, hu, nF, r⟩ := own_at hi A
    refine ⟨.ref l, e, F, A, nb.mono (fun y q1 u F1 H1 e1 r1 => ?_) (fun _ _ z => z) q⟩
    obtain ⟨hF1, hu1⟩ := ext_lst e1 nF hu
    cases y with
    | int j =>
      have eu := rp_int r1
      subst eu
      unfold dIx at q1
      simp only [items] at q1
      cases hd : L2.atI ds j with
      | none => simp only [hd] at q1; exact (show False from q1).elim
      | some d =>
        simp only [hd] at q1
        obtain ⟨w, hw, rw'⟩ := (r.ex e1.ex).atI hd
        exact ⟨l, vs, j, w, rfl, rfl, SqL.of hu1, hw, q1 w F1 H1 e1 rw'⟩
    | _ => exact (show False from q1).elim

/-! several names at once -/
/-- a, b = e, [] : the second one a list to be filled -/
theorem ds_parL {i j : Nat} {x y : Str} {px py pt pl : Pos} {kt k2 pt2} (hc : X.calm = true) (hN : X.N.Nodup) (ha : PE X a (eV G S na)) (hi : X.N[i]? = some x) (hj : X.N[j]? = some y) (hij : i ≠ j)
    (hx : X.env.scope.names.lookup x = some .local) (hy : X.env.scope.names.lookup y = some .local) (hw : swappedStores [.Tuple [.Name x px, .Name y py] kt pt] (.Tuple [a, .List [] pl] k2 pt2) X.env = pure (some [x, y]))
    (hs : swapsWithSole [.Tuple [.Name x px, .Name y py] kt pt] (.Tuple [a, .List [] pl] k2 pt2) pos.line X.env = pure false := by rfl) (he : starEach (a :: .List [] pl :: []) X.env = (false, eval a X.env) :: starEach [.List [] pl] X.env := by rfl)
    (he2 : starEach (.List [] pl :: []) X.env = (false, eval (.List [] pl) X.env) :: starEach [] X.env := by rfl) :
    PS X (.Assign [.Tuple [.Name x px, .Name y py] kt pt] (.Tuple [a, .List [] pl] k2 pt2) pos) (sV G S (fun d => (S.set i (.dat d)).set j (.own (.lst []))) sb (na.bind fun d => .ok (.nx d))) :=
  PS.imp (ps_par hc hN hi hj hij hx hy (pa_cons ha (pa_cons (pe_lst pa_nil) pa_nil he2) he) hw hs) fun E σ H ⟨F, A, q⟩ => ⟨F, A, na.mono (fun d q1 v F1 H1 e1 r1 => ⟨Nat.zero_le _, fun p hp => ⟨v, .ref p, rfl, by
    have A1 := ((A.go e1).set (i := i) r1).newOwn (i := j) (c := .lst []) hp ⟨[], rfl, .nil⟩
    exact q1 F1 _ _ e1.ex A1⟩⟩) (fun _ _ z => z) q⟩
/-- a, b, c = e, e a tuple of three -/
def three (d : D) : N (D × D × D) := match d with
  | .tup [x, y, z] => .ok (x, y, z)
  | _ => .stuck
theorem ds_unp3 {i j l : Nat} {x y z : Str} {px py pz pt : Pos} {kt} (hc : X.calm = true) (hK : G.Z.K = X.K) (hN : X.N.Nodup) (ha : PE X a (eV G S na)) (hi : X.N[i]? = some x) (hj : X.N[j]? = some y) (hl : X.N[l]? = some z)
    (hx : Loc X.env.scope x) (hy : Loc X.env.scope y) (hz : Loc X.env.scope z) (hfx : X.fn x = true ∨ X.env.scope.names.lookup x = some .local := by first | exact .inl rfl | exact .inr rfl) (hfy : X.fn y = true ∨ X.env.scope.names.lookup y = some .local := by first | exact .inl rfl | exact .inr rfl) (hfz : X.fn z = true ∨ X.env.scope.names.lookup z = some .local := by first | exact .inl rfl | exact .inr rfl)
    (hs : swapsWithSole [.Tuple [.Name x px, .Name y py, .Name z pz] kt pt] a pos.line X.env = pure false := by rfl) (hw : swappedStores [.Tuple [.Name x px, .Name y py, .Name z pz] kt pt] a X.env = pure none := by rfl)
    (hn : (assignEach [.Name x px, .Name y py, .Name z pz] X.env).length = 3 := by rfl) (hst : (assignEach [.Name x px, .Name y py, .Name z pz] X.env).findIdx? (·.1) = none := by rfl) :
    PS X (.Assign [.Tuple [.Name x px, .Name y py, .Name z pz] kt pt] a pos) (sV G S (fun t : D × D × D => ((S.set i (.dat t.1)).set j (.dat t.2.1)).set l (.dat t.2.2)) sb (na.bind fun d => (three d).bind fun t => .ok (.nx t))) :=
  PS.imp (ps_asg ha (pg_tup (n := 3) hc (pgs_cons (pg_name (i := i) hN hi hx hfx) (pgs_cons (pg_name (i := j) hN hj hy hfy) (pgs_cons (pg_name (i := l) hN hl hz hfz) pgs_nil))) hn hst) hs hw) fun E σ H ⟨F, A, q⟩ => ⟨F, A, na.mono (fun d q1 v F1 H1 e1 r1 => by
    have q1 : (three d).wp (fun t => flP G F (fun t : D × D × D => ((S.set i (.dat t.1)).set j (.dat t.2.1)).set l (.dat t.2.2)) sb E (.nx t)) G.Er := q1
    unfold three at q1
    split at q1
    · rename_i d1 d2 d3
      cases r1 with
      | tup r l =>
        rename_i a vs
        have A1 := A.go e1
        cases l with
        | cons r1 l =>
          cases l with
          | cons r2 l =>
            cases l with
            | cons r3 l =>
              cases l
              exact ⟨a, _, rfl, by rw [← hK]; exact sqT_of A1.ok r, rfl, _, _, rfl, _, _, rfl, _, _, rfl, rfl, (show ∀ F' σ' H', Ex F F' → _ → _ from q1) F1 _ H1 e1.ex (((A1.set r1).set r2).set r3)⟩
    · exact (show False from q1).elim) (fun _ _ z => z) q⟩

/-! [e for x in range(a, b) if ..] -/
def N.span (d e : D) : N (List Int) := match d, e with
  | .int a, .int b => (N.asrt ((-(2 ^ 62) ≤ a ∧ a < 2 ^ 62 ∧ -(2 ^ 62) ≤ b ∧ b < 2 ^ 62) ∧ (b - a).toNat ≤ sizeLine)).bind fun _ => .ok ((List.range (b - a).toNat).map fun i => a + ((i : Nat) : Int))
  | _, _ => .stuck
def TT2 (G : Gx) (n : Nat) (S : List Sl) (j : Nat) (tn : Int → N Bool) : TT := fun σ H Q => ∃ y : Int, tV (G.in n) ((S.set j .un).set j (.dat (.int y))) (tn y) σ H Q
def TE2 (G : Gx) (n : Nat) (S : List Sl) (j : Nat) (fn : Int → N D) : TE := fun σ H Q => ∃ y : Int, eV (G.in n) ((S.set j .un).set j (.dat (.int y))) (fn y) σ H Q
section
variable {elt : Expr} {ifs : List Expr} {scope : Scope}
theorem lcR_run {j : Nat} {tn : Int → N Bool} {fn : Int → N D} {n : Nat} {σ : St} {H : Hp} {Q : VK} (q : eV G S (na.bind fun d => nb.bind fun e => (N.span d e).bind fun xs => (N.comp tn fn xs).bind fun ys => .ok (.lst ys)) σ H Q) :
    tLc (iRng2 (aV G S (na.bind fun d => nb.bind fun e => .ok [d, e]))) (gName j) (TT2 G n S j tn) (TE2 G n S j fn) [j] σ H Q := by
  obtain ⟨F, A, q⟩ := q
  refine ⟨F, A, na.mono (fun d q1 => nb.mono (fun e q2 vs F1 H1 e1 r1 => ?_) (fun _ _ z => z) q1) (fun _ _ z => z) q⟩
  have A1 := A.go e1
  replace q2 : (N.span d e).wp (fun xs => (N.comp tn fn xs).wp (KQ G F H Q) G.Er) G.Er := q2
  clear q1 q
  unfold N.span at q2
  split at q2
  · rename_i lo hi
    obtain ⟨⟨hb, hz⟩, q2⟩ := q2
    cases r1 with
    | cons ra l =>
      cases l with
      | cons rb l =>
        cases l
        rw [rp_int ra, rp_int rb]
        refine ⟨lo, hi, rfl, hb, fun Dl hD => ?_⟩
        have hlen : ((List.range (hi - lo).toNat).map fun i => lo + ((i : Nat) : Int)).length = (hi - lo).toNat := by rw [List.length_map, List.length_range]
        refine lc_range (lo := lo) (n := (hi - lo).toNat) (g := gName j) (tt := TT2 G n S j tn) (te := TE2 G n S j fn) (fun i => CW G F1 H1 Dl tn fn (KQ G F H Q) G.Er (hi - lo).toNat i (((List.range (hi - lo).toNat).map fun i => lo + ((i : Nat) : Int)).drop i)) ⟨F1, [], [], Ext.own A1.ok hD, A1.ok.none hD, upd_same, .nil, Nat.zero_le _, q2⟩ ?_ ?_
        · rintro i H' hlt ⟨F', av, ad, e', hF', hA', r', hl', q'⟩
          have hdr : ((List.range (hi - lo).toNat).map fun i => lo + ((i : Nat) : Int)).drop i = (lo + (i : Int)) :: ((List.range (hi - lo).toNat).map fun i => lo + ((i : Nat) : Int)).drop (i + 1) := by
            rw [List.drop_eq_getElem_cons (by rw [hlen]; exact hlt)]
            simp
          rw [hdr] at q'
          refine ⟨wipe1 σ j _, ?_⟩
          exact comp_turn (n := n) (K := KQ G F H Q) (tt := TT2 G n S j tn) (te := TE2 G n S j fn) (S' := (S.set j .un).set j (.dat (.int (lo + (i : Int))))) hD e' hF' hA' r' hl' hlt hz (((A1.go e').wipe [j]).set (.int _)) q' (fun H Q z => ⟨_, z⟩) (fun H Q z => ⟨_, z⟩)
        · intro H' h
          have hdr : ((List.range (hi - lo).toNat).map fun i => lo + ((i : Nat) : Int)).drop (hi - lo).toNat = [] := by
            apply List.drop_eq_nil_of_le
            rw [hlen]
            exact Nat.le_refl _
          rw [hdr] at h
          exact comp_end e1 hD h
  · exact (show False from q2).elim
/-- y = [elt for x in range(a, b) if ..] -/
theorem ds_lcR {i j : Nat} {x y : Str} {px py pr pc pos' : Pos} {tn : Int → N Bool} {fn : Int → N D} {n : Nat} (hc : X.calm = true) (hN : X.N.Nodup) (hm : X.mg "range" = none) (ha : PE X a (eV G S na)) (hb : PE X b (eV G S nb)) (hy : X.N[i]? = some y) (hyl : X.env.scope.names.lookup y = some .local) (hkind : X.env.scope.kind = .function) (hl : (py.line == pos'.line) = true)
    (hany : (scope.names.any fun (n, k) => n == y && (k == .local || k == .cell)) = false) (ok : BlkOk X.N X.env.scope scope [(x, j)])
    (hg : ∀ (s : Shared) (H : Hp) (C : Addr) (cl : List (Str × Addr)) (fp : List Addr), PG (X.blk s H scope (compEnvC scope cl C X.env) fp) (.Name x px) (gName j))
    (ht : ∀ (s : Shared) (H : Hp) (C : Addr) (cl : List (Str × Addr)) (fp : List Addr) (v : Int), PTs (X.blk s H scope (compEnvC scope cl C X.env) fp) ifs (tV (G.in n) ((S.set j .un).set j (.dat (.int v))) (tn v)))
    (he : ∀ (s : Shared) (H : Hp) (C : Addr) (cl : List (Str × Addr)) (fp : List Addr) (v : Int), PE (X.blk s H scope (compEnvC scope cl C X.env) fp) elt (eV (G.in n) ((S.set j .un).set j (.dat (.int v))) (fn v)))
    (hgr : Gl X "range" := by rfl) (hs : ∀ v, foldedSetIterable (.Call (.Name "range" pr) [a, b] [] pc) X.env v = pure v := by intro _; rfl) (h1 : starEach [a, b] X.env = [(false, eval a X.env), (false, eval b X.env)] := by rfl) (h2 : starEach [b] X.env = [(false, eval b X.env)] := by rfl) :
    PS X (.Assign [.Name y py] (.ListComp elt [⟨.Name x px, .Call (.Name "range" pr) [a, b] [] pc, ifs, 0⟩] scope pos') pos) (sV G S (fun d => S.set i (.dat d)) sb ((na.bind fun d => nb.bind fun e => (N.span d e).bind fun xs => (N.comp tn fn xs).bind fun ys => .ok (.lst ys)).bind fun d => .ok (.nx d))) :=
  PS.imp (ps_setLc (own := [(x, j)]) (g := gName j) (tt := TT2 G n S j tn) (te := TE2 G n S j fn) hc hN hy hyl (sw_true hkind hyl hl hany)
    (pi_range2 hgr hm (da_cons ha (da_cons hb da_nil h2) (by rw [h1, h2])) h1 h2) ok hg (fun s H C cl fp => PTs.ex fun v : Int => ht s H C cl fp v) (fun s H C cl fp => PE.ex fun v : Int => he s H C cl fp v) hs) fun E σ H ⟨F, A, q⟩ =>
      lcR_run (na := na) (nb := nb) (Q := fun v H' => E.nx (σ.set i (some v)) H') ⟨F, A, N.mono (na.bind fun d => nb.bind fun e => (N.span d e).bind fun xs => (N.comp tn fn xs).bind fun ys => .ok (D.lst ys))
        (k := fun d => flP G F (fun d => S.set i (.dat d)) sb E (.nx d)) (fun d z v F' H' e' r' => z F' _ H' e'.ex ((A.go e').set r')) (fun _ _ z => z) q⟩
end
end
end M

set_option Elab.async false
set_option linter.all false
set_option maxRecDepth 100000
set_option maxHeartbeats 2000000
namespace M
open PySem L2
section
variable {X : Cx} {G : Gx} {S : List Sl} {τ β : Type} {sl : τ → List Sl} {sb : β → List Sl} {a b c e : Expr} {na nb nc : N D} {pos : Pos}
def dAbs : D → N D
  | .int i => .ok (.int (if i < 0 then -i else i))
  | _ => .stuck
def dInt : D → N D
  | .int i => .ok (.int i)
  | .bl k => .ok (.int (if k then 1 else 0))
  | _ => .stuck
theorem dAbs_tot (x : D) : Tot (dAbs x) := by
  unfold dAbs
  split <;> first | exact Tot.ok _ | exact Tot.stuck
theorem dInt_tot (x : D) : Tot (dInt x) := by
  unfold dInt
  split <;> first | exact Tot.ok _ | exact Tot.stuck
theorem one_of {F : Ty} {vs : List V} {xs : List D} {o : D → N D} {Q : D → Prop} (l : RpL G.Z F vs xs) (q : (app1 o xs).wp Q (fun _ _ => False)) : ∃ v d, vs = [v] ∧ xs = [d] ∧ Rp G.Z F v d ∧ (o d).wp Q (fun _ _ => False) := by
  cases l with
  | nil => exact q.elim
  | cons r l2 =>
    cases l2 with
    | cons _ _ => exact q.elim
    | nil => exact ⟨_, _, rfl, rfl, r, q⟩
theorem de_abs {p : Pos} (hm : X.mg "abs" = none) (ha : PE X a (eV G S na)) (hg : Gl X "abs" := by rfl) (he : starEach (a :: []) X.env = (false, eval a X.env) :: starEach [] X.env := by rfl) (hpl : (backTo pos (starEach [] X.env)).any (·.1) = false := by rfl) :
    PE X (.Call (.Name "abs" p) [a] [] pos) (eV G S (na.bind dAbs)) := de_b1 call_abs (fun F H xs vs Q ok l q => by
  obtain ⟨v, d, rfl, rfl, r, q⟩ := one_of l q
  cases d with
  | int i => exact ⟨i, by rw [rp_int r], q _ F H (Ext.refl ok) (.int _)⟩
  | _ => exact (show False from q).elim) dAbs_tot hm (by decide +kernel) ha hg (by decide) (by decide) he hpl
theorem de_intC {p : Pos} (hm : X.mg "int" = none) (ha : PE X a (eV G S na)) (hg : Gl X "int" := by rfl) (he : starEach (a :: []) X.env = (false, eval a X.env) :: starEach [] X.env := by rfl) (hpl : (backTo pos (starEach [] X.env)).any (·.1) = false := by rfl) :
    PE X (.Call (.Name "int" p) [a] [] pos) (eV G S (na.bind dInt)) := de_t1 call_int1 (fun F H xs vs Q ok l q => by
  obtain ⟨v, d, rfl, rfl, r, q⟩ := one_of l q
  cases d with
  | int i => exact .inl ⟨i, by rw [rp_int r], q _ F H (Ext.refl ok) (.int _)⟩
  | bl i => exact .inr ⟨i, by rw [rp_bl r], q _ F H (Ext.refl ok) (.int _)⟩
  | _ => exact (show False from q).elim) dInt_tot hm (by decide +kernel) ha hg (by decide) (by decide) he hpl
/-- xs[lo:hi] of a list -/
def dSlL (d : D) (lo hi : Option Int) : N D := match d with
  | .lst xs => .ok (.lst (cutD xs lo hi))
  | _ => .stuck
theorem de_slL (hK : G.Z.K = X.K) {lo hi : Option Expr} {nl nh : N (Option Int)} {p2 : Pos} (ha : PE X a (eV G S na)) (hl : PO X lo (oV (G := G) (S := S) nl)) (hh : PO X hi (oV (G := G) (S := S) nh)) :
    PE X (.Subscript a (.Slice lo hi none p2) pos) (eV G S (na.bind fun d => nl.bind fun l => nh.bind fun h => dSlL d l h)) :=
  PE.imp (pe_slice sl_list ha hl hh) fun σ H Q ⟨F, A, q⟩ => ⟨F, A, na.mono (fun d q1 v F1 H1 e1 r1 => ⟨F1, A.go e1, nl.mono (fun lo q2 F2 H2 e2 => ⟨F2, (A.go e1).go e2, nh.mono (fun hi q3 F3 H3 e3 => by
    unfold dSlL at q3
    have ok3 := (((A.go e1).go e2).go e3).ok
    cases r1 with
    | lst r l =>
      rename_i a vs xs
      have l3 := l.ex (e2.ex.trans e3.ex)
      refine ⟨_, _, rfl, by rw [← hK]; exact RL.sq ok3 (r.ex (e2.ex.trans e3.ex)), fun p hp => ?_⟩
      have hcut : RpL G.Z F3 (cutV vs lo hi) (cutD xs lo hi) := by
        unfold cutV cutD
        rw [← l3.length]
        exact (l3.drop _).take _
      obtain ⟨e4, r4⟩ := new_lst ok3 hp hcut
      exact q3 _ _ _ (((e1.trans e2).trans e3).trans e4) r4
    | _ => exact (show False from q3).elim) (fun _ _ z => z) q2⟩) (fun _ _ z => z) q1⟩) (fun _ _ z => z) q⟩
theorem dt_chain {op op' : CmpOp} {r r' : R2} {o o' : D → D → N D} (ho : OpR X (compareOp op) r) (ho' : OpR X (compareOp op') r') (hr : R2D G r o) (ht : ∀ x y, Tot (o x y)) (hr' : R2D G r' o') (ht' : ∀ x y, Tot (o' x y))
    (ha : PE X a (eV G S na)) (hb : PE X b (eV G S nb)) (hc : PE X c (eV G S nc)) (h1 : lastMarks [op, op'] [b, c] = false := by rfl) :
    PT X (.Compare a [op, op'] [b, c] pos) (tV G S ((dChain o o' na nb nc).bind N.tst)) :=
  PT.imp (pt_chain ho ho' ha hb hc h1) fun σ H Q h => by
    have h := tst_run (na := dChain o o' na nb nc) h
    obtain ⟨F, A, q⟩ := h
    refine ⟨F, A, na.mono (fun x q1 v F1 H1 e1 r1 => ⟨F1, A.go e1, nb.mono (fun y q2 u F2 H2 e2 r2 => ?_) (fun _ _ z => z) q1⟩) (fun _ _ z => z) q⟩
    refine hr F2 H2 x y v u _ ((A.go e1).go e2).ok (r1.ex e2.ex) r2 ((o x y).mono (fun z q3 w F3 H3 e3 r3 => ?_) (fun _ _ z => z) (ht x y _ _ q2))
    cases z with
    | bl k =>
      refine ⟨k, rp_bl r3, ?_⟩
      cases k with
      | true =>
        refine ⟨F3, ((A.go e1).go e2).go e3, nc.mono (fun w q4 u2 F4 H4 e4 r4 => ?_) (fun _ _ z => z) q3⟩
        exact hr' F4 H4 y w u u2 _ ((((A.go e1).go e2).go e3).go e4).ok (r2.ex (e3.ex.trans e4.ex)) r4 ((o' y w).mono (fun d q5 w5 F5 H5 e5 r5 => q5 w5 F5 H5 ((((e1.trans e2).trans e3).trans e4).trans e5) r5) (fun _ _ z => z) (ht' y w _ _ q4))
      | false => exact q3 _ F3 H3 ((e1.trans e2).trans e3) (.bl false)
    | _ => exact (show False from q3).elim
/-- y = [elt for x in e if ..] -/
theorem ds_lcS {elt : Expr} {ifs : List Expr} {scope : Scope} {i j : Nat} {x y : Str} {px py pos' : Pos} {tn : D → N Bool} {fn : D → N D} {n : Nat} (hc : X.calm = true) (hK : G.Z.K = X.K) (hN : X.N.Nodup) (ha : PE X a (eV G S na)) (hy : X.N[i]? = some y) (hyl : X.env.scope.names.lookup y = some .local) (hkind : X.env.scope.kind = .function) (hl : (py.line == pos'.line) = true)
    (hany : (scope.names.any fun (n, k) => n == y && (k == .local || k == .cell)) = false) (ok : BlkOk X.N X.env.scope scope [(x, j)])
    (hg : ∀ (s : Shared) (H : Hp) (C : Addr) (cl : List (Str × Addr)) (fp : List Addr), PG (X.blk s H scope (compEnvC scope cl C X.env) fp) (.Name x px) (gName j))
    (ht : ∀ (s : Shared) (H : Hp) (C : Addr) (cl : List (Str × Addr)) (fp : List Addr) (v : D), PTs (X.blk s H scope (compEnvC scope cl C X.env) fp) ifs (tV (G.in n) ((S.set j .un).set j (.dat v)) (tn v)))
    (he : ∀ (s : Shared) (H : Hp) (C : Addr) (cl : List (Str × Addr)) (fp : List Addr) (v : D), PE (X.blk s H scope (compEnvC scope cl C X.env) fp) elt (eV (G.in n) ((S.set j .un).set j (.dat v)) (fn v)))
    (hs : ∀ v, foldedSetIterable a X.env v = pure v := by intro _; rfl) :
    PS X (.Assign [.Name y py] (.ListComp elt [⟨.Name x px, a, ifs, 0⟩] scope pos') pos) (sV G S (fun d => S.set i (.dat d)) sb ((na.bind fun d => (seqOf d).bind fun xs => (N.fits xs).bind fun _ => (N.comp tn fn xs).bind fun ys => .ok (.lst ys)).bind fun d => .ok (.nx d))) := by
  exact PS.imp (ps_setLc (own := [(x, j)]) (g := gName j) (tt := TT1 G n S j tn) (te := TE1 G n S j fn) hc hN hy hyl (sw_true hkind hyl hl hany) (pi_seq ha) ok hg (fun s H C cl fp => PTs.ex fun v : D => ht s H C cl fp v) (fun s H C cl fp => PE.ex fun v : D => he s H C cl fp v) hs) fun E σ H ⟨F, A, q⟩ =>
    lc_run (na := na) hK (Q := fun v H' => E.nx (σ.set i (some v)) H') ⟨F, A, N.mono (na.bind fun d => (seqOf d).bind fun xs => (N.fits xs).bind fun _ => (N.comp tn fn xs).bind fun ys => .ok (D.lst ys))
      (k := fun d => flP G F (fun d => S.set i (.dat d)) sb E (.nx d)) (fun d z v F' H' e' r' => z F' _ H' e'.ex ((A.go e').set r')) (fun _ _ z => z) q⟩
end
end M

set_option Elab.async false
set_option linter.all false
set_option maxRecDepth 100000
set_option maxHeartbeats 2000000
namespace M
open PySem L2
open PyProof.Rows (envOfC)
/-- a def in reach: it stands at some place, keeps its mirror's promise -/
structure Df (P : Program) (w : World) (Z : Zt) (mg : Str → Option Value) (base : Heap) (x : Str) (k n : Nat) (m : List D → N D) : Prop where
  ex : ∃ (f : Addr) (fd : FuncData) (ps : List Str), FnOk P w Z.K mg base (L2.CX P w) k f fd ps (spN Z n m) ∧ mg x = some (.ref f) ∧ PySem.W.keepIn Z.K (.ref f) = true ∧ Binds Z.K fd ps []
  ar : Arity n m
theorem Df.cal {X : Cx} {G : Gx} {P : Program} {w : World} {Z : Zt} {mg : Str → Option Value} {base : Heap} {x : Str} {k n : Nat} {m : List D → N D} (d : Df P w Z mg base x k n m) (hr : Room k X.A)
    (h1 : X.prog = P := by rfl) (h2 : X.w = w := by rfl) (h3 : X.K = Z.K := by rfl) (h4 : X.mg = mg := by rfl) (h5 : X.base = base := by rfl) (h6 : G.Z = Z := by rfl) : Cal X G x n m := by
  subst h1 h2 h4 h5 h6
  obtain ⟨f, fd, ps, h, hm, hk, hb⟩ := d.ex
  exact ⟨⟨k, f, fd, ps, by rw [h3]; exact h, hr, hm, by rw [h3]; exact hk, by rw [h3]; exact hb⟩, d.ar⟩
/-- the same, called with keywords or by defaults -/
structure DfG (P : Program) (w : World) (Z : Zt) (mg : Str → Option Value) (base : Heap) (x : Str) (k np : Nat) (ks : List Str) (gD : List D → List D → List D) (n : Nat) (m : List D → N D) : Prop where
  ex : ∃ (f : Addr) (fd : FuncData) (ps : List Str) (g : List Value → List Value → List Value) (gV : List V → List V → List V), FnOk P w Z.K mg base (L2.CX P w) k f fd ps (spN Z n m) ∧ mg x = some (.ref f) ∧ PySem.W.keepIn Z.K (.ref f) = true ∧
    KBn Z.K fd ps np ks g gV ∧ ∀ F vs ds zs es, RpL Z F vs ds → RpL Z F zs es → vs.length = np → zs.length = ks.length → RpL Z F (gV vs zs) (gD ds es)
  ar : Arity n m
theorem DfG.cal {X : Cx} {G : Gx} {P : Program} {w : World} {Z : Zt} {mg : Str → Option Value} {base : Heap} {x : Str} {k np n : Nat} {ks : List Str} {gD : List D → List D → List D} {m : List D → N D} (d : DfG P w Z mg base x k np ks gD n m) (hr : Room k X.A)
    (h1 : X.prog = P := by rfl) (h2 : X.w = w := by rfl) (h3 : X.K = Z.K := by rfl) (h4 : X.mg = mg := by rfl) (h5 : X.base = base := by rfl) (h6 : G.Z = Z := by rfl) : CalG X G x np ks gD n m := by
  subst h1 h2 h4 h5 h6
  obtain ⟨f, fd, ps, g, gV, h, hm, hk, hb, hd⟩ := d.ex
  exact ⟨⟨k, f, fd, ps, g, gV, by rw [h3]; exact h, hr, hm, by rw [h3]; exact hk, by rw [h3]; exact hb, hd⟩, d.ar⟩
section
variable {P : Program} {w : World} {mg : Str → Option Value} {base : Heap}
/-- a def by its body's derivation; its defaults are dvs -/
theorem fn_okD {Z : Zt} {x qual : Str} {st : Stmt} {f : Addr} {fd : FuncData} {Nn ps : List Str} {k : Nat} {m : List D → N D} {dvs : List V} (F : FunD Z.K x qual (defArgs st) (defBody st) (defScope st) dvs [] f fd) (S : FnScope Nn ps (defScope st)) (ar : Arity ps.length m)
    (hbody : ∀ (cdv : Value) (A : Around) (outer : List Env) (s : Shared) (H : Hp) (E : XK) (F0 : Ty) (ds : List D), Room k (A.deeper (envOfC qual (defScope st) s.heap.objs.size f cdv)) → Takes (cxOf (L2.CX P w) P w Z.K mg base Nn qual (defScope st) f cdv A outer s H E) (fun cls d _ H => E cls d H) → ds.length = ps.length →
      ∃ (τ β : Type) (sl : τ → List Sl) (sb : β → List Sl) (nn : N (Fl τ β)), PSs (cxOf (L2.CX P w) P w Z.K mg base Nn qual (defScope st) f cdv A outer s H E) (defBody st) (sV ⟨Z, ⟨F0, H, F0⟩, fun cls d _ H => E cls d H, List.replicate Nn.length .un⟩ (sls ds (Nn.length - ps.length)) sl sb nn) ∧ ∀ k e, (m ds).wp k e → nn.fin.wp k e) :
    FnOk P w Z.K mg base (L2.CX P w) (k + 1) f fd ps (spN Z ps.length m) := by
  refine F.ok S (fun vs H Q E h => h.1) (fun cdv A outer s H vs Q E hr h => ?_)
  obtain ⟨hl, F0, ds, ok0, r0, q0⟩ := h
  have hd : ds.length = ps.length := ar ds _ _ q0
  obtain ⟨τ, β, sl, sb, nn, hps, hq⟩ := hbody cdv A outer s H E F0 ds hr (takes_of rfl rfl rfl rfl) hd
  refine ⟨_, hps, ⟨F0, ?_, ?_⟩⟩
  · have := at_start (Z := Z) (Nn := Nn) ok0 r0
    rw [hl] at this
    exact this
  · have q1 := hq _ _ q0
    refine nn.mono (fun f q2 => ?_) (fun c x q2 => ?_) q1
    · cases f with
      | nx t => exact fun F σ H1 _ A => q2 .non F H1 A.ext .non
      | rt d => exact fun v F H1 e1 r1 => q2 v F H1 e1 r1
      | bk t => exact (show False from q2).elim
      | ct t => exact (show False from q2).elim
    · intro cls dd F σ H1 A er
      exact q2 cls dd F H1 A.ext er
/-- an exception leaves only where it is taken: bodies of defs pass what they own -/
theorem po_cx {K : PySem.W.Frag} {Nn : List Str} {qual : Str} {scope : Scope} {f : Addr} {cdv : Value} {A : Around} {outer : List Env} {s : Shared} {H : Hp} {E : XK} :
    PassesOwn (model P w) (cxOf (L2.CX P w) P w K mg base Nn qual scope f cdv A outer s H E).A (cxOf (L2.CX P w) P w K mg base Nn qual scope f cdv A outer s H E).env (cxOf (L2.CX P w) P w K mg base Nn qual scope f cdv A outer s H E).xe := PassesOwn.leaving
end
/-- a def without defaults, as it stands -/
theorem fund_mk {K : PySem.W.Frag} {x qual : Str} {st : Stmt} {f : Addr} {oc : Value} {od an : Option Addr} {osl : Array (Option Value)} {kV doc pm cdv ct : Value} (l : K.lookup f = some ⟨oc, od, .func (PySem.W.fnOf x qual (defArgs st) (defBody st) (defScope st) .none kV doc pm an cdv ct), osl⟩)
    (c : PySem.W.codeIn K cdv qual = true) (k : PySem.W.keepIn K (.ref f) = true) : FunD K x qual (defArgs st) (defBody st) (defScope st) [] [] f (PySem.W.fnOf x qual (defArgs st) (defBody st) (defScope st) .none kV doc pm an cdv ct) :=
  ⟨⟨oc, od, .none, kV, doc, pm, an, cdv, ct, osl, rfl, l, c, .inl ⟨rfl, rfl⟩, .inl rfl⟩, k⟩
/-- with one default -/
theorem fund_mk1 {K : PySem.W.Frag} {x qual : Str} {st : Stmt} {f T : Addr} {oc : Value} {od an : Option Addr} {osl : Array (Option Value)} {kV doc pm cdv ct u : Value} {o : Obj} {n : Nat} {d : V} (l : K.lookup f = some ⟨oc, od, .func (PySem.W.fnOf x qual (defArgs st) (defBody st) (defScope st) (.ref T) kV doc pm an cdv ct), osl⟩)
    (c : PySem.W.codeIn K cdv qual = true) (k : PySem.W.keepIn K (.ref f) = true) (lT : K.lookup T = some o) (hT : o.data = .seq #[u] n) (r : RelV d u) : FunD K x qual (defArgs st) (defBody st) (defScope st) [d] [] f (PySem.W.fnOf x qual (defArgs st) (defBody st) (defScope st) (.ref T) kV doc pm an cdv ct) :=
  ⟨⟨oc, od, .ref T, kV, doc, pm, an, cdv, ct, osl, rfl, l, c, .inr ⟨by simp, T, o, [u], n, rfl, lT, by rw [hT], .cons r .nil⟩, .inl rfl⟩, k⟩
theorem Wk.un' {S : List Sl} {n : Nat} (h : S.length = n) : Wk S (List.replicate n .un) := by subst h; exact wk_un S
end M

set_option Elab.async false
set_option linter.all false
set_option maxRecDepth 100000
set_option maxHeartbeats 2000000
namespace M
open PySem L2
/-! ### the box that is drawn from: cells, a number -/
def pCel (o : HO) : Prop := ∃ ks : List Int, o = .lst (ks.map V.int) ∧ ks.length ≤ sizeLine
def pBox (c : Addr) (o : HO) : Prop := ∃ x : Int, o = .lst [.ref c, .int x]
def pBox3 (o : HO) : Prop := ∃ x y z : Int, o = .lst [.int x, .int y, .int z]
def DL (k : Nat) (F : Ty) (a : Addr) : Prop := match k with
  | 0 => ∃ c, c ≠ a ∧ F a = some (pBox c) ∧ F c = some pCel
  | 1 => F a = some pCel
  | 2 => F a = some pBox3
  | _ => False
theorem DLm (k : Nat) (F F' : Ty) (a : Addr) (e : Ex F F') (h : DL k F a) : DL k F' a := by
  unfold DL at h ⊢
  match k, h with
  | 0, ⟨c, n, h1, h2⟩ => exact ⟨c, n, e _ _ h1, e _ _ h2⟩
  | 1, h => exact e _ _ h
  | 2, h => exact e _ _ h
section
variable {X : Cx} {G : Gx} {S : List Sl} {a b c e : Expr} {na nb nc : N D} {pos : Pos}
def intsD : List D → Option (List Int)
  | [] => some []
  | .int i :: xs => (intsD xs).map (i :: ·)
  | _ :: _ => none
theorem intsD_rp {Z : Zt} {F : Ty} : ∀ {vs : List V} {xs : List D} {ks : List Int}, RpL Z F vs xs → intsD xs = some ks → vs = ks.map V.int
  | _, _, _, .nil, h => by unfold intsD at h; cases h; rfl
  | _, _, _, .cons (d := d) (ds := ds) r l, h => by
    cases d with
    | int i =>
      unfold intsD at h
      cases q : intsD ds with
      | none => rw [q] at h; cases h
      | some ks =>
        rw [q] at h
        cases h
        rw [rp_int r, intsD_rp l q]
        rfl
    | _ => unfold intsD at h; cases h
def mkCells : D → N D
  | .lst xs => (N.asrt (xs.length ≤ sizeLine ∧ ∃ ks, intsD xs = some ks)).bind fun _ => .ok (.dl 1)
  | _ => .stuck
def mkDeal : D → D → N D
  | .dl 1, .int _ => .ok (.dl 0)
  | _, _ => .stuck
theorem de_cells {k : Nat} {p1 p2 p3 : Pos} (hz : G.Z.dl = DL) (hK : G.Z.K = X.K) (ha : PE X a (eV G S na)) : PE X (.Subscript a (.Slice none none (some (.UnaryOp .USub (.Constant (.int 1) k p1) p2)) p3) pos) (eV G S (na.bind mkCells)) :=
  PE.imp (pe_revL ha) fun σ H Q ⟨F, A, q⟩ => ⟨F, A, na.mono (fun d q1 v F1 H1 e1 r1 => by
    cases r1 with
    | lst r l =>
      rename_i a vs xs
      obtain ⟨⟨hl, ks, hk⟩, q1⟩ := q1
      have ok1 := (A.go e1).ok
      refine ⟨a, vs, rfl, by rw [← hK]; exact RL.sq ok1 r, fun p hp => ?_⟩
      have hv := intsD_rp l hk
      have e2 : Ext F1 H1 (updT F1 p pCel) (upd H1 p (.lst vs.reverse)) := Ext.new ok1 hp ⟨ks.reverse, by rw [hv, List.map_reverse], by
        rw [List.length_reverse]
        have := l.length
        rw [hv, List.length_map] at this
        omega⟩ (fun ⟨_, z⟩ => by cases z)
      refine q1 _ _ _ (e1.trans e2) (.dl ?_)
      rw [hz]
      exact updT_same
    | _ => exact (show False from q1).elim) (fun _ _ z => z) q⟩
theorem de_deal (hz : G.Z.dl = DL) (ha : PE X a (eV G S na)) (hb : PE X b (eV G S nb)) (h1 : starEach [a, b] X.env = (false, eval a X.env) :: starEach [b] X.env := by rfl) (h2 : starEach [b] X.env = (false, eval b X.env) :: starEach [] X.env := by rfl) :
    PE X (.List [a, b] pos) (eV G S (na.bind fun x => nb.bind fun y => mkDeal x y)) :=
  PE.imp (pe_lst (pa_cons ha (pa_cons hb pa_nil h2) h1)) fun σ H Q ⟨F, A, q⟩ => ⟨F, A, na.mono (fun x q1 v F1 H1 e1 r1 => ⟨F1, A.go e1, nb.mono (fun y q2 u F2 H2 e2 r2 => by
    have r1 := r1.ex e2.ex
    have ok2 := ((A.go e1).go e2).ok
    cases r1 with
    | dl hd =>
      rename_i c k
      match k, y, q2 with
      | 1, .int z, q2 =>
        cases r2
        rw [hz] at hd
        have hd : F2 c = some pCel := hd
        refine ⟨by show 2 ≤ sizeLine; decide, fun p hp => ?_⟩
        have e3 : Ext F2 H2 (updT F2 p (pBox c)) (upd H2 p (.lst [.ref c, .int z])) := Ext.new ok2 hp ⟨z, rfl⟩ (fun ⟨_, z⟩ => by cases z)
        refine q2 _ _ _ ((e1.trans e2).trans e3) (.dl ?_)
        rw [hz]
        have hn : c ≠ p := fun z => by
          rw [z, ok2.none hp] at hd
          cases hd
        exact ⟨c, hn, updT_same, e3.ex _ _ hd⟩
    | _ => exact (show False from q2).elim) (fun _ _ z => z) q1⟩) (fun _ _ z => z) q⟩
def mkBox : D → D → D → N D
  | .int _, .int _, .int _ => .ok (.dl 2)
  | _, _, _ => .stuck
theorem de_box (hz : G.Z.dl = DL) (ha : PE X a (eV G S na)) (hb : PE X b (eV G S nb)) (hc : PE X c (eV G S nc)) (h1 : starEach [a, b, c] X.env = (false, eval a X.env) :: starEach [b, c] X.env := by rfl) (h2 : starEach [b, c] X.env = (false, eval b X.env) :: starEach [c] X.env := by rfl) (h3 : starEach [c] X.env = (false, eval c X.env) :: starEach [] X.env := by rfl) :
    PE X (.List [a, b, c] pos) (eV G S (na.bind fun x => nb.bind fun y => nc.bind fun z => mkBox x y z)) :=
  PE.imp (pe_lst (pa_cons ha (pa_cons hb (pa_cons hc pa_nil h3) h2) h1)) fun σ H Q ⟨F, A, q⟩ => ⟨F, A, na.mono (fun x q1 v F1 H1 e1 r1 => ⟨F1, A.go e1, nb.mono (fun y q2 u F2 H2 e2 r2 => ⟨F2, (A.go e1).go e2, nc.mono (fun z q3 t F3 H3 e3 r3 => by
    have r1 := r1.ex (e2.ex.trans e3.ex)
    have r2 := r2.ex e3.ex
    have ok3 := (((A.go e1).go e2).go e3).ok
    match x, y, z, q3 with
    | .int i, .int j, .int l, q3 =>
      cases r1
      cases r2
      cases r3
      refine ⟨by show 3 ≤ sizeLine; decide, fun p hp => ?_⟩
      have e4 : Ext F3 H3 (updT F3 p pBox3) (upd H3 p (.lst [.int i, .int j, .int l])) := Ext.new ok3 hp ⟨i, j, l, rfl⟩ (fun ⟨_, z⟩ => by cases z)
      refine q3 _ _ _ (((e1.trans e2).trans e3).trans e4) (.dl ?_)
      rw [hz]
      exact updT_same) (fun _ _ z => z) q2⟩) (fun _ _ z => z) q1⟩) (fun _ _ z => z) q⟩
end
/-- a number that is drawn from a box -/
def m_law_take (d : D) (b : D) : N D := match d, b with
  | .dl 2, .int n => (N.asrt (0 < n ∧ n < 1073741824)).bind fun _ => (N.any fun r : Int => 0 ≤ r ∧ r < n).bind fun r => .ok (.int r)
  | _, _ => .stuck
/-- where the box stands behind what was done -/
structure BoxAt3 (F : Ty) (H : Hp) (a : Addr) (n : Int) (L : Nat) (σ : St) (H' : Hp) : Prop where
  ext : Ext F H F H'
  s0 : σ[0]? = some (some (.ref a))
  s1 : σ[1]? = some (some (.int n))
  len : σ.length = L
  bx : ∃ x y z, H' a = some (.lst [.int x, .int y, .int z])
theorem BoxAt3.of {F : Ty} {H H' : Hp} {a : Addr} {n : Int} {L : Nat} {σ : St} (e : Ext F H F H') (hA : F a = some pBox3) (s0 : σ[0]? = some (some (.ref a))) (s1 : σ[1]? = some (some (.int n))) (h2 : σ.length = L) : BoxAt3 F H a n L σ H' := by
  refine ⟨e, s0, s1, h2, ?_⟩
  obtain ⟨o, h, ⟨x, y, z, rfl⟩, _⟩ := e.ok _ _ hA
  exact ⟨x, y, z, h⟩
/-- a number that is drawn -/
def m_law_any (d : D) (b : D) : N D := match d, b with
  | .dl 0, .int n => (N.asrt (0 < n ∧ n < 1073741824)).bind fun _ => (N.any fun r : Int => 0 ≤ r ∧ r < n).bind fun r => .ok (.int r)
  | _, _ => .stuck
theorem Ext.put {F : Ty} {H H' : Hp} (h : Ext F H F H') {a : Addr} {p : HO → Prop} {o : HO} (hF : F a = some p) (hp : p o) (ht : (∃ xs, o = .tup xs) → p = is o) : Ext F H F (upd H' a o) := by
  refine ⟨Ex.refl F, fun b q e => ?_, fun b u e nb => ?_⟩
  · by_cases z : b = a
    · subst z; rw [hF] at e; cases e; exact ⟨o, upd_same, hp, ht⟩
    · rw [upd_ne z]; exact h.ok b q e
  · have z : b ≠ a := fun z => by subst z; rw [hF] at nb; cases nb
    rw [upd_ne z]; exact h.kp b u e nb
theorem dp_ints {K : PySem.W.Frag} {H : Hp} : ∀ ks : List Int, DpAll K H (ks.map V.int) (ks.map PyData.int)
  | [] => .nil
  | k :: ks => .cons (.int k) (dp_ints ks)
end M

set_option Elab.async false
set_option linter.all false
set_option maxRecDepth 100000
set_option maxHeartbeats 2000000
namespace M
open PySem L2
section
variable {X : Cx} {G : Gx} {S : List Sl} {a b c e : Expr} {na nb nc : N D} {pos : Pos}
theorem notInO_run {i : Nat} {ds : List D} (hK : G.Z.K = X.K) (hi : S[i]? = some (.own (.lst ds))) {σ : St} {H : Hp} {Q : VK} (h : eV G S (na.bind fun d => dNotInD d (.lst ds)) σ H Q) : tOp (rInDD X.K true) (eV G S na) (tVar i) σ H Q := by
  obtain ⟨F, A, q⟩ := h
  refine ⟨F, A, na.mono (fun d q1 v F1 H1 e1 r1 => ?_) (fun _ _ z => z) q⟩
  obtain ⟨l, vs, e, hu, nF, r⟩ := own_at hi A
  obtain ⟨hF1, hu1⟩ := ext_lst e1 nF hu
  refine ⟨.ref l, e, ?_⟩
  have q1 : (pIn d (.lst ds)).wp (fun b => ∀ v F' H', Ext F H F' H' → Rp G.Z F' v (.bl (!b)) → Q v H') G.Er := q1
  rw [← hK]
  unfold pIn at q1
  cases hx : toPy d with
  | none => simp only [hx] at q1; exact q1.elim
  | some p =>
    cases hy : toPys ds with
    | none => simp only [hx, items, hy] at q1; exact q1.elim
    | some ps =>
      simp only [hx, items, hy] at q1
      exact ⟨p, ps, dp_of (A.go e1).ok r1 hx, .inl (.lst (SqL.of hu1) (dps_of (A.go e1).ok (r.ex e1.ex) hy)), q1.1.1, q1.1.2, q1.2 _ F1 H1 e1 (.bl _)⟩
/-- e not in x, as a test -/
theorem dt_notInO {i : Nat} {x : Str} {px : Pos} {ds : List D} {k : Nat} (hr : Room k X.A) (hK : G.Z.K = X.K) (hi : S[i]? = some (.own (.lst ds))) (hN : X.N[i]? = some x) (ha : PE X a (eV G S na)) (hv : Vis X.env.scope x := by first | exact Or.inl rfl | exact Or.inr (Or.inl rfl) | exact Or.inr (Or.inr rfl))
    (hd : (x == ("__debug__" : Str)) = false := by decide) (hcd : (x == ("__classdict__" : Str)) = false := by decide) (hm : behindInMarks .NotIn (.Name x px) = false := by rfl) : PT X (.Compare a [.NotIn] [.Name x px] pos) (tV G S ((na.bind fun d => dNotInD d (.lst ds)).bind N.tst)) :=
  PT.imp (pt_cmpR (op_notInDD hr (room65 hr)) ha (pe_var (i := i) hN hv hd hcd) hm) fun σ H Q h => notInO_run hK hi (tst_run (na := na.bind fun d => dNotInD d (.lst ds)) h)
variable {τ β : Type} {sl : τ → List Sl} {sb : β → List Sl}
/-- x.append(e) -/
theorem ds_appX {i : Nat} {x : Str} {px pa pc : Pos} {ds : List D} (hi : S[i]? = some (.own (.lst ds))) (hN : X.N[i]? = some x) (ha : PE X a (eV G S na))
    (hw : swapsWith (.Call (.Attribute (.Name x px) "append" pa) [a] [] pc) none pos.line X.env = pure false := by rfl)
    (hb : ∀ t : TE, PE X a t → PE X (.Call (.Attribute (.Name x px) "append" pa) [a] [] pc) (tBM X.K "list" rAppend (tVar i) (tCons t tNil)) := by exact fun t h => pe_bm PySem.F.plainAttrs_list PySem.F.slot_list_append PySem.F.type_list_append mt_append (pv _) (pa_cons h pa_nil)) :
    PS X (.Expr (.Call (.Attribute (.Name x px) "append" pa) [a] [] pc) pos) (sV G S (fun d => S.set i (.own (.lst (ds ++ [d])))) sb (na.bind fun d => (N.asrt (ds.length < sizeLine)).bind fun _ => .ok (.nx d))) :=
  PS.imp (ps_expr (hb _ ha) hw) fun E σ H ⟨F, A, q⟩ => by
    obtain ⟨l, u, e, hu, nF, nB, vs, eu, r⟩ := A.sl i _ hi
    subst eu
    refine ⟨.ref l, e, .inl ⟨rfl, vs, SqL.of hu⟩, F, A, na.mono (fun d q1 v F1 H1 e1 r1 => ?_) (fun _ _ z => z) q⟩
    have A1 := A.go e1
    obtain ⟨hF1, hu1⟩ := ext_lst e1 nF hu
    obtain ⟨hz, q1⟩ := q1
    exact ⟨l, vs, v, rfl, rfl, hu1, by rw [r.length]; exact hz, q1 F1 σ _ e1.ex (A1.put hi e ⟨vs ++ [v], rfl, (r.ex e1.ex).append (.cons r1 .nil)⟩)⟩
end
end M

set_option Elab.async false
set_option linter.all false
set_option maxRecDepth 100000
set_option maxHeartbeats 2000000
namespace M
open PySem L2
section
variable {K : PySem.W.Frag} {x qual : Str} {params : Arguments} {body : List Stmt} {scope : Scope} {dvs : List V} {f : Addr} {fd : FuncData} {ps : List Str}
theorem bind_all (F : FunD K x qual params body scope [] [] f fd)
    (h : ∀ (kV doc pm : Value) (an : Option Addr) (cdv ct : Value) (us : List Value), us.length = ps.length → bindArgs (PySem.W.fnOf x qual params body scope .none kV doc pm an cdv ct) ⟨us, []⟩ = pure (ps.zip us)) : Binds K fd ps [] := F.bindsN h
/-- all is written though there are defaults -/
theorem bind_allD (F : FunD K x qual params body scope dvs [] f fd) (hd : dvs ≠ [])
    (h : ∀ (T : Addr) (kV doc pm : Value) (an : Option Addr) (cdv ct : Value) (us its : List Value), us.length = ps.length → its.length = dvs.length →
      ∃ k, bindArgs (PySem.W.fnOf x qual params body scope (.ref T) kV doc pm an cdv ct) ⟨us, []⟩ = seqItems? (.ref T) >>= k ∧ k (some its.toArray) = pure (ps.zip us)) : Binds K fd ps [] := by
  obtain ⟨ds, r, b⟩ := F.binds1 (ps := ps) ps.length dvs.length hd (by omega) (fun T kV doc pm an cdv ct us its h1 h2 => by
    obtain ⟨k, e1, e2⟩ := h T kV doc pm an cdv ct us its h1 h2
    refine ⟨k, e1, ?_⟩
    rw [e2, ← h2, List.drop_length, List.append_nil])
  rw [List.drop_length] at r
  cases r
  exact b
theorem kb_all (F : FunD K x qual params body scope [] [] f fd) (n : Nat) (ks : List Str)
    (h : ∀ (kV doc pm : Value) (an : Option Addr) (cdv ct : Value) (us ws : List Value), us.length = n → ws.length = ks.length → bindArgs (PySem.W.fnOf x qual params body scope .none kV doc pm an cdv ct) ⟨us, ks.zip ws⟩ = pure (ps.zip (us ++ ws))) :
    KBn K fd ps n ks (fun us ws => us ++ ws) (fun vs zs => vs ++ zs) := by
  obtain ⟨oc, od, dV, kV, doc, pm, an, cdv, ct, osl, rfl, lk, hcd, hD, hK⟩ := F.ex
  rcases hD with ⟨_, rfl⟩ | ⟨e, _⟩
  · exact ⟨fun s us ws _ l1 l2 => .of_eq (h kV doc pm an cdv ct us ws l1 l2), fun r1 r2 => r1.append r2⟩
  · exact absurd rfl e
/-- the defaults behind the first j fill up -/
theorem kb_def (F : FunD K x qual params body scope dvs [] f fd) (hd : dvs ≠ []) (n j : Nat) (ks : List Str)
    (h : ∀ (T : Addr) (kV doc pm : Value) (an : Option Addr) (cdv ct : Value) (us its ws : List Value), us.length = n → its.length = dvs.length → ws.length = ks.length →
      ∃ k, bindArgs (PySem.W.fnOf x qual params body scope (.ref T) kV doc pm an cdv ct) ⟨us, ks.zip ws⟩ = seqItems? (.ref T) >>= k ∧ k (some its.toArray) = pure (ps.zip (us ++ ws ++ its.drop j))) :
    ∃ its : List Value, KBn K fd ps n ks (fun us ws => us ++ ws ++ its.drop j) (fun vs zs => vs ++ zs ++ dvs.drop j) := by
  obtain ⟨oc, od, dV, kV, doc, pm, an, cdv, ct, osl, rfl, lk, hcd, hD, hK⟩ := F.ex
  rcases hD with ⟨e, _⟩ | ⟨_, T, o, its, m, rfl, lT, oT, rT⟩
  · exact absurd e hd
  · refine ⟨its, ⟨fun s us ws X l1 l2 => ?_, fun r1 r2 => (r1.append r2).append (rT.drop j)⟩⟩
    obtain ⟨k, e1, e2⟩ := h T kV doc pm an cdv ct us its ws l1 rT.length.symm l2
    refine BindsTo.of_looks fun M => ?_
    rw [e1]
    exact looks_items X lT oT (.of_pure e2)
theorem fund_mkN {st : Stmt} {oc : Value} {od an : Option Addr} {osl : Array (Option Value)} {kV doc pm cdv ct : Value} (l : K.lookup f = some ⟨oc, od, .func (PySem.W.fnOf x qual (defArgs st) (defBody st) (defScope st) .none kV doc pm an cdv ct), osl⟩)
    (c : PySem.W.codeIn K cdv qual = true) (k : PySem.W.keepIn K (.ref f) = true) : FunD K x qual (defArgs st) (defBody st) (defScope st) [] [] f (PySem.W.fnOf x qual (defArgs st) (defBody st) (defScope st) .none kV doc pm an cdv ct) := fund_mk l c k
theorem fund_mkR {st : Stmt} {T : Addr} {oc : Value} {od an : Option Addr} {osl : Array (Option Value)} {kV doc pm cdv ct u : Value} {o : Obj} {n : Nat} {d : V} (l : K.lookup f = some ⟨oc, od, .func (PySem.W.fnOf x qual (defArgs st) (defBody st) (defScope st) (.ref T) kV doc pm an cdv ct), osl⟩)
    (c : PySem.W.codeIn K cdv qual = true) (k : PySem.W.keepIn K (.ref f) = true) (lT : K.lookup T = some o) (hT : o.data = .seq #[u] n) (r : RelV d u) : FunD K x qual (defArgs st) (defBody st) (defScope st) [d] [] f (PySem.W.fnOf x qual (defArgs st) (defBody st) (defScope st) (.ref T) kV doc pm an cdv ct) := fund_mk1 l c k lT hT r
end
end M

set_option Elab.async false
set_option linter.all false
set_option maxRecDepth 100000
set_option maxHeartbeats 2000000
namespace M
open PySem L2
section
variable {X : Cx} {G : Gx} {S : List Sl} {τ β : Type} {sl : τ → List Sl} {sb : β → List Sl} {a b c e : Expr} {na nb nc : N D} {pos : Pos} {body : List Stmt}
/-! x is None -/
def isNonD : D → Bool
  | .non => true
  | _ => false
theorem isNon_rp {Z : Zt} {F : Ty} {v : V} {d : D} (r : Rp Z F v d) : decide (v = V.non) = isNonD d := by
  cases r <;> first | rfl | exact decide_eq_false (fun z => by cases z)
def dIsN (x y : D) : N D := match y with
  | .non => .ok (.bl (isNonD x))
  | _ => .stuck
def dNotN (x y : D) : N D := match y with
  | .non => .ok (.bl (!isNonD x))
  | _ => .stuck
theorem dIsN_tot (x y : D) : Tot (dIsN x y) := by
  unfold dIsN
  split <;> first | exact Tot.ok _ | exact Tot.stuck
theorem dNotN_tot (x y : D) : Tot (dNotN x y) := by
  unfold dNotN
  split <;> first | exact Tot.ok _ | exact Tot.stuck
theorem r2_IsN : R2D G (fun x y H Q => y = .non ∧ Q (.bl (decide (x = .non))) H) dIsN := by
  intro F H x y v u Q ok rx ry q
  unfold dIsN at q
  split at q
  · refine ⟨rp_non ry, ?_⟩
    rw [isNon_rp rx]
    exact q _ F H (Ext.refl ok) (.bl _)
  · exact q.elim
theorem r2_NotN : R2D G (fun x y H Q => y = .non ∧ Q (.bl (!decide (x = .non))) H) dNotN := by
  intro F H x y v u Q ok rx ry q
  unfold dNotN at q
  split at q
  · refine ⟨rp_non ry, ?_⟩
    rw [isNon_rp rx]
    exact q _ F H (Ext.refl ok) (.bl _)
  · exact q.elim
/-! x[k] = e, x a list of our own -/
def setAt (ds : List D) (k v : D) : N (List D) := match k with
  | .int k => match ixN ds.length k with
    | some j => .ok (ds.set j v)
    | none => .stuck
  | _ => .stuck
theorem ds_setO {i : Nat} {x : Str} {px ps : Pos} {ds : List D} (hi : S[i]? = some (.own (.lst ds))) (hN : X.N[i]? = some x) (ha : PE X a (eV G S na)) (hb : PE X b (eV G S nb)) (hv : Vis X.env.scope x := by first | exact Or.inl rfl | exact Or.inr (Or.inl rfl) | exact Or.inr (Or.inr rfl))
    (hd : (x == ("__debug__" : Str)) = false := by decide) (hcd : (x == ("__classdict__" : Str)) = false := by decide)
    (hx : ∀ v, assign (.Subscript (.Name x px) a ps) X.env v = (do
      let ov ← holding [v] (eval (.Name x px) X.env)
      let iv ← holding [v, ov] (eval a X.env)
      standAt ps
      holding [v, ov, iv] (setItem ov iv v)
      release [v, ov, iv] []) := by intro _; rfl)
    (hs : swapsWithSole [.Subscript (.Name x px) a ps] b pos.line X.env = pure false := by rfl) (hw : swappedStores [.Subscript (.Name x px) a ps] b X.env = pure none := by rfl)
    (h1 : (assignEach [.Subscript (.Name x px) a ps] X.env).map (·.2) = [assign (.Subscript (.Name x px) a ps) X.env] := by rfl) :
    PS X (.Assign [.Subscript (.Name x px) a ps] b pos) (sV G S (fun ds' : List D => S.set i (.own (.lst ds'))) sb (nb.bind fun v => na.bind fun k => (setAt ds k v).bind fun ds' => .ok (.nx ds'))) :=
  PS.imp (ps_asg hb (pg_sub (pe_var (i := i) hN hv hd hcd) ha set_list hx) hs hw h1) fun E σ H ⟨F, A, q⟩ => by
    obtain ⟨l, u, e, hu, nF, nB, vs, eu, r⟩ := A.sl i _ hi
    subst eu
    refine ⟨F, A, nb.mono (fun d q1 v F1 H1 e1 r1 => ?_) (fun _ _ z => z) q⟩
    have A1 := A.go e1
    obtain ⟨hF1, hu1⟩ := ext_lst e1 nF hu
    refine ⟨.ref l, e, F1, A1, na.mono (fun k q2 w F2 H2 e2 r2 => ?_) (fun _ _ z => z) q1⟩
    obtain ⟨hF2, hu2⟩ := ext_lst e2 hF1 hu1
    have A2 := A1.go e2
    have q2 : (setAt ds k d).wp (fun ds' => flP G F (fun ds' : List D => S.set i (.own (.lst ds'))) sb E (.nx ds')) G.Er := q2
    unfold setAt at q2
    split at q2
    · rename_i kk
      split at q2
      · rename_i j hj
        refine ⟨l, vs, _, j, rfl, rp_int r2, hu2, by rw [r.length]; exact hj, ?_⟩
        have q3 : ∀ F' σ' H', Ex F F' → At G.Z G.B (S.set i (.own (.lst (ds.set j d)))) F' σ' H' → E.nx σ' H' := q2
        exact q3 F2 σ _ (e1.ex.trans e2.ex) (A2.put hi e ⟨_, rfl, ((r.ex e1.ex).ex e2.ex).set j (r1.ex e2.ex)⟩)
      · exact (show False from q2).elim
    · exact (show False from q2).elim
/-! while -/
def N.while {τ β : Type} (t : τ → N Bool) (body : τ → N (Fl τ τ)) : Nat → τ → N (Fl τ β)
  | 0, _ => .stuck
  | n + 1, s => (t s).bind fun b => if b = true then (body s).bind fun f => match f with
      | .nx s' => N.while t body n s'
      | .ct s' => N.while t body n s'
      | .bk s' => .ok (.nx s')
      | .rt d => .ok (.rt d)
    else .ok (.nx s)
theorem PT.ex {X : Cx} {e : Expr} {ι : Type} {u : ι → TT} (h : ∀ t, PT X e (u t)) : PT X e (fun σ H Q => ∃ t, u t σ H Q) := ⟨fun pins s σ H Q I ⟨t, q⟩ => (h t).run pins s σ H Q I q⟩
theorem ds_while {tn : τ → N Bool} {bn : τ → N (Fl τ τ)} (n : Nat) (t0 : τ) (hp : PassesOwn (model X.prog X.w) X.A X.env X.xe) (h0 : Wk S (sl t0)) (hc : ∀ t, PT X c (tV G (sl t) (tn t))) (hb : ∀ t, PSs X body (sV G (sl t) sl sl (bn t))) :
    PS X (.While c body [] pos) (sV G S sl sb (N.while tn bn n t0)) := by
  refine PS.imp (ps_while hp (PT.ex hc) (PSs.ex hb)) fun E σ H ⟨F, A, q⟩ => ?_
  refine ⟨fun m σ H => ∃ t F1, Ex F F1 ∧ At G.Z G.B (sl t) F1 σ H ∧ (N.while (β := β) tn bn m t).wp (flP G F sl sb E) G.Er, ⟨n, t0, F, Ex.refl F, A.weak h0, q⟩, ?_⟩
  rintro m σ H ⟨t, F1, e1, A1, q1⟩
  match m, q1 with
  | m + 1, q1 =>
    refine ⟨t, F1, A1, (tn t).mono (fun b q2 F2 H2 e2 => ?_) (fun _ _ z => z) q1⟩
    cases b with
    | true =>
      rw [if_pos rfl]
      have q2 : ((bn t).bind fun f => match f with
          | .nx s' => N.while (β := β) tn bn m s'
          | .ct s' => N.while tn bn m s'
          | .bk s' => .ok (.nx s')
          | .rt d => .ok (.rt d)).wp (flP G F sl sb E) G.Er := q2
      refine ⟨fun σ' H' => ∃ t F3, Ex F F3 ∧ At G.Z G.B (sl t) F3 σ' H' ∧ (N.while (β := β) tn bn m t).wp (flP G F sl sb E) G.Er, fun σ' H' h => ⟨m, Nat.lt_succ_self m, h⟩, t, F2, A1.go e2, (bn t).mono (fun f q3 => ?_) (fun _ _ z => z) q2⟩
      cases f with
      | nx t' => exact fun F3 σ3 H3 e3 A3 => ⟨t', F3, (e1.trans e2.ex).trans e3, A3, q3⟩
      | ct t' => exact fun F3 σ3 H3 e3 A3 => ⟨t', F3, (e1.trans e2.ex).trans e3, A3, q3⟩
      | bk t' => exact fun F3 σ3 H3 e3 A3 => q3 F3 σ3 H3 ((e1.trans e2.ex).trans e3) A3
      | rt d => exact q3
    | false =>
      have q2 : ∀ F' σ' H', Ex F F' → At G.Z G.B (sl t) F' σ' H' → E.nx σ' H' := q2
      exact q2 F2 σ H2 (e1.trans e2.ex) (A1.go e2)
/-! a, b = e1, e2 and a, b = e -/
def two (d : D) : N (D × D) := match d with
  | .tup [x, y] => .ok (x, y)
  | _ => .stuck
theorem ds_unp2 {i j : Nat} {x y : Str} {px py pt : Pos} {kt} (hc : X.calm = true) (hK : G.Z.K = X.K) (hN : X.N.Nodup) (ha : PE X a (eV G S na)) (hi : X.N[i]? = some x) (hj : X.N[j]? = some y)
    (hx : Loc X.env.scope x) (hy : Loc X.env.scope y) (hfx : X.fn x = true ∨ X.env.scope.names.lookup x = some .local := by first | exact .inl rfl | exact .inr rfl) (hfy : X.fn y = true ∨ X.env.scope.names.lookup y = some .local := by first | exact .inl rfl | exact .inr rfl)
    (hs : swapsWithSole [.Tuple [.Name x px, .Name y py] kt pt] a pos.line X.env = pure false := by rfl) (hw : swappedStores [.Tuple [.Name x px, .Name y py] kt pt] a X.env = pure none := by rfl)
    (hn : (assignEach [.Name x px, .Name y py] X.env).length = 2 := by rfl) (hst : (assignEach [.Name x px, .Name y py] X.env).findIdx? (·.1) = none := by rfl) :
    PS X (.Assign [.Tuple [.Name x px, .Name y py] kt pt] a pos) (sV G S (fun t : D × D => (S.set i (.dat t.1)).set j (.dat t.2)) sb (na.bind fun d => (two d).bind fun t => .ok (.nx t))) :=
  PS.imp (ps_asg ha (pg_tup (n := 2) hc (pgs_cons (pg_name (i := i) hN hi hx hfx) (pgs_cons (pg_name (i := j) hN hj hy hfy) pgs_nil)) hn hst) hs hw) fun E σ H ⟨F, A, q⟩ => ⟨F, A, na.mono (fun d q1 v F1 H1 e1 r1 => by
    have q1 : (two d).wp (fun t => flP G F (fun t : D × D => (S.set i (.dat t.1)).set j (.dat t.2)) sb E (.nx t)) G.Er := q1
    unfold two at q1
    split at q1
    · rename_i d1 d2
      cases r1 with
      | tup r l =>
        rename_i a vs
        have A1 := A.go e1
        cases l with
        | cons r1 l =>
          cases l with
          | cons r2 l =>
            cases l
            exact ⟨a, _, rfl, by rw [← hK]; exact sqT_of A1.ok r, rfl, _, _, rfl, _, _, rfl, rfl, (show ∀ F' σ' H', Ex F F' → _ → _ from q1) F1 _ H1 e1.ex ((A1.set r1).set r2)⟩
    · exact (show False from q1).elim) (fun _ _ z => z) q⟩
theorem ds_par2 {i j : Nat} {x y : Str} {px py pt : Pos} {kt k2 pt2} (hc : X.calm = true) (hN : X.N.Nodup) (hi : X.N[i]? = some x) (hj : X.N[j]? = some y) (hij : i ≠ j) (hx : X.env.scope.names.lookup x = some .local) (hy : X.env.scope.names.lookup y = some .local)
    (ha : PE X a (eV G S na)) (hb : PE X b (eV G S nb)) (h1 : starEach [a, b] X.env = (false, eval a X.env) :: starEach [b] X.env := by rfl) (h2 : starEach [b] X.env = (false, eval b X.env) :: starEach [] X.env := by rfl)
    (hw : swappedStores [.Tuple [.Name x px, .Name y py] kt pt] (.Tuple [a, b] k2 pt2) X.env = pure (some [x, y]) := by rfl)
    (hs : swapsWithSole [.Tuple [.Name x px, .Name y py] kt pt] (.Tuple [a, b] k2 pt2) pos.line X.env = pure false := by rfl) :
    PS X (.Assign [.Tuple [.Name x px, .Name y py] kt pt] (.Tuple [a, b] k2 pt2) pos) (sV G S (fun t : D × D => (S.set i (.dat t.1)).set j (.dat t.2)) sb (na.bind fun x => nb.bind fun y => .ok (.nx (x, y)))) :=
  PS.imp (ps_par hc hN hi hj hij hx hy (pa_cons ha (pa_cons hb pa_nil h2) h1) hw hs) fun E σ H ⟨F, A, q⟩ => ⟨F, A, na.mono (fun x q1 v F1 H1 e1 r1 => ⟨F1, A.go e1, nb.mono (fun y q2 u F2 H2 e2 r2 => by
    have q3 : ∀ F' σ' H', Ex F F' → At G.Z G.B ((S.set i (.dat x)).set j (.dat y)) F' σ' H' → E.nx σ' H' := q2
    exact ⟨v, u, rfl, q3 F2 _ H2 (e1.ex.trans e2.ex) ((((A.go e1).go e2).set (r1.ex e2.ex)).set r2)⟩) (fun _ _ z => z) q1⟩) (fun _ _ z => z) q⟩
/-! all(..), any(..), sum(..), min(..), max(..), sorted(..) of a list -/
def blsD : List D → Option (List Bool)
  | [] => some []
  | .bl i :: xs => (blsD xs).map (i :: ·)
  | _ :: _ => none
theorem blsD_rp {Z : Zt} {F : Ty} : ∀ {vs : List V} {xs : List D} {ks : List Bool}, RpL Z F vs xs → blsD xs = some ks → vs = ks.map V.bl
  | _, _, _, .nil, h => by unfold blsD at h; cases h; rfl
  | _, _, _, .cons (d := d) (ds := ds) r l, h => by
    cases d with
    | bl i =>
      unfold blsD at h
      cases q : blsD ds with
      | none => rw [q] at h; cases h
      | some ks =>
        rw [q] at h
        cases h
        rw [rp_bl r, blsD_rp l q]
        rfl
    | _ => unfold blsD at h; cases h
def dAll : D → N D
  | .lst xs => match blsD xs with
    | some bs => .ok (.bl (bs.all id))
    | none => .stuck
  | _ => .stuck
def dAny : D → N D
  | .lst xs => match blsD xs with
    | some bs => .ok (.bl (bs.any id))
    | none => .stuck
  | _ => .stuck
def dSum : D → N D
  | .lst xs => match intsD xs with
    | some ns => .ok (.int ns.sum)
    | none => .stuck
  | _ => .stuck
def dMin : D → N D
  | .lst xs => match intsD xs with
    | some ns => (N.asrt (0 < ns.length)).bind fun _ => (N.any fun m : Int => m ∈ ns ∧ ∀ y, y ∈ ns → m ≤ y).bind fun m => .ok (.int m)
    | none => .stuck
  | _ => .stuck
def dMax : D → N D
  | .lst xs => match intsD xs with
    | some ns => (N.asrt (0 < ns.length)).bind fun _ => (N.any fun m : Int => m ∈ ns ∧ ∀ y, y ∈ ns → y ≤ m).bind fun m => .ok (.int m)
    | none => .stuck
  | _ => .stuck
def dSortI : D → N D
  | .lst xs => match intsD xs with
    | some ns => (N.any fun ns' : List Int => ns'.Perm ns ∧ ns'.Pairwise (· ≤ ·)).bind fun ns' => .ok (.lst (ns'.map D.int))
    | none => .stuck
  | _ => .stuck
theorem Tot.any {α : Type} (P : α → Prop) : Tot (N.any P) := fun _ _ h => h
theorem dAll_tot (x : D) : Tot (dAll x) := by
  unfold dAll
  repeat (first | exact Tot.ok _ | exact Tot.stuck | split)
theorem dAny_tot (x : D) : Tot (dAny x) := by
  unfold dAny
  repeat (first | exact Tot.ok _ | exact Tot.stuck | split)
theorem dSum_tot (x : D) : Tot (dSum x) := by
  unfold dSum
  repeat (first | exact Tot.ok _ | exact Tot.stuck | split)
theorem dMin_tot (x : D) : Tot (dMin x) := by
  unfold dMin
  repeat (first | exact (Tot.asrt _).bind fun _ => (Tot.any _).bind fun _ => Tot.ok _ | exact Tot.stuck | split)
theorem dMax_tot (x : D) : Tot (dMax x) := by
  unfold dMax
  repeat (first | exact (Tot.asrt _).bind fun _ => (Tot.any _).bind fun _ => Tot.ok _ | exact Tot.stuck | split)
theorem dSortI_tot (x : D) : Tot (dSortI x) := by
  unfold dSortI
  repeat (first | exact (Tot.any _).bind fun _ => Tot.ok _ | exact Tot.stuck | split)
theorem de_all {p : Pos} (hc : X.calm = true) (hK : G.Z.K = X.K) (hm : X.mg "all" = none) (ha : PE X a (eV G S na)) (hg : Gl X "all" := by rfl) (he : starEach (a :: []) X.env = (false, eval a X.env) :: starEach [] X.env := by rfl) (hpl : (backTo pos (starEach [] X.env)).any (·.1) = false := by rfl) :
    PE X (.Call (.Name "all" p) [a] [] pos) (eV G S (na.bind dAll)) := de_b1 (cr_all hc) (fun F H xs vs Q ok l q => by
  obtain ⟨v, d, rfl, rfl, r, q⟩ := one_of l q
  unfold dAll at q
  split at q
  · split at q
    · rename_i bs hb
      cases r with
      | lst r l => exact ⟨_, bs, rfl, by rw [← blsD_rp l hb, ← hK]; exact RL.sq ok r, q _ F H (Ext.refl ok) (.bl _)⟩
    · exact (show False from q).elim
  · exact (show False from q).elim) dAll_tot hm (by decide +kernel) ha hg (by decide) (by decide) he hpl
theorem de_any {p : Pos} (hc : X.calm = true) (hK : G.Z.K = X.K) (hm : X.mg "any" = none) (ha : PE X a (eV G S na)) (hg : Gl X "any" := by rfl) (he : starEach (a :: []) X.env = (false, eval a X.env) :: starEach [] X.env := by rfl) (hpl : (backTo pos (starEach [] X.env)).any (·.1) = false := by rfl) :
    PE X (.Call (.Name "any" p) [a] [] pos) (eV G S (na.bind dAny)) := de_b1 (cr_any hc) (fun F H xs vs Q ok l q => by
  obtain ⟨v, d, rfl, rfl, r, q⟩ := one_of l q
  unfold dAny at q
  split at q
  · split at q
    · rename_i bs hb
      cases r with
      | lst r l => exact ⟨_, bs, rfl, by rw [← blsD_rp l hb, ← hK]; exact RL.sq ok r, q _ F H (Ext.refl ok) (.bl _)⟩
    · exact (show False from q).elim
  · exact (show False from q).elim) dAny_tot hm (by decide +kernel) ha hg (by decide) (by decide) he hpl
theorem de_sum {p : Pos} (hc : X.calm = true) (hK : G.Z.K = X.K) (hm : X.mg "sum" = none) (ha : PE X a (eV G S na)) (hg : Gl X "sum" := by rfl) (he : starEach (a :: []) X.env = (false, eval a X.env) :: starEach [] X.env := by rfl) (hpl : (backTo pos (starEach [] X.env)).any (·.1) = false := by rfl) :
    PE X (.Call (.Name "sum" p) [a] [] pos) (eV G S (na.bind dSum)) := de_b1 (cr_sum hc) (fun F H xs vs Q ok l q => by
  obtain ⟨v, d, rfl, rfl, r, q⟩ := one_of l q
  unfold dSum at q
  split at q
  · split at q
    · rename_i ns hb
      cases r with
      | lst r l => exact ⟨_, ns, rfl, by rw [← intsD_rp l hb, ← hK]; exact RL.sq ok r, q _ F H (Ext.refl ok) (.int _)⟩
    · exact (show False from q).elim
  · exact (show False from q).elim) dSum_tot hm (by decide +kernel) ha hg (by decide) (by decide) he hpl
theorem de_min {p : Pos} (hc : X.calm = true) (hK : G.Z.K = X.K) (hm : X.mg "min" = none) (ha : PE X a (eV G S na)) (hg : Gl X "min" := by rfl) (he : starEach (a :: []) X.env = (false, eval a X.env) :: starEach [] X.env := by rfl) (hpl : (backTo pos (starEach [] X.env)).any (·.1) = false := by rfl) :
    PE X (.Call (.Name "min" p) [a] [] pos) (eV G S (na.bind dMin)) := de_b1 (cr_min hc) (fun F H xs vs Q ok l q => by
  obtain ⟨v, d, rfl, rfl, r, q⟩ := one_of l q
  unfold dMin at q
  split at q
  · split at q
    · rename_i ns hb
      cases r with
      | lst r l =>
        obtain ⟨h0, q⟩ := q
        exact ⟨_, ns, rfl, by rw [← intsD_rp l hb, ← hK]; exact RL.sq ok r, h0, fun m h1 h2 => q m ⟨h1, h2⟩ _ F H (Ext.refl ok) (.int _)⟩
    · exact (show False from q).elim
  · exact (show False from q).elim) dMin_tot hm (by decide +kernel) ha hg (by decide) (by decide) he hpl
theorem de_max {p : Pos} (hc : X.calm = true) (hK : G.Z.K = X.K) (hm : X.mg "max" = none) (ha : PE X a (eV G S na)) (hg : Gl X "max" := by rfl) (he : starEach (a :: []) X.env = (false, eval a X.env) :: starEach [] X.env := by rfl) (hpl : (backTo pos (starEach [] X.env)).any (·.1) = false := by rfl) :
    PE X (.Call (.Name "max" p) [a] [] pos) (eV G S (na.bind dMax)) := de_b1 (cr_max hc) (fun F H xs vs Q ok l q => by
  obtain ⟨v, d, rfl, rfl, r, q⟩ := one_of l q
  unfold dMax at q
  split at q
  · split at q
    · rename_i ns hb
      cases r with
      | lst r l =>
        obtain ⟨h0, q⟩ := q
        exact ⟨_, ns, rfl, by rw [← intsD_rp l hb, ← hK]; exact RL.sq ok r, h0, fun m h1 h2 => q m ⟨h1, h2⟩ _ F H (Ext.refl ok) (.int _)⟩
    · exact (show False from q).elim
  · exact (show False from q).elim) dMax_tot hm (by decide +kernel) ha hg (by decide) (by decide) he hpl
theorem rpl_int {Z : Zt} {F : Ty} : ∀ ns : List Int, RpL Z F (ns.map V.int) (ns.map D.int)
  | [] => .nil
  | n :: ns => .cons (.int n) (rpl_int ns)
theorem de_sortI {p : Pos} (hK : G.Z.K = X.K) (hm : X.mg "sorted" = none) (ha : PE X a (eV G S na)) (hc : CallR X (.builtin "sorted") (rSortedI X.K)) (hg : Gl X "sorted" := by rfl) (he : starEach (a :: []) X.env = (false, eval a X.env) :: starEach [] X.env := by rfl) (hpl : (backTo pos (starEach [] X.env)).any (·.1) = false := by rfl) :
    PE X (.Call (.Name "sorted" p) [a] [] pos) (eV G S (na.bind dSortI)) := de_b1 hc (fun F H xs vs Q ok l q => by
  obtain ⟨v, d, rfl, rfl, r, q⟩ := one_of l q
  unfold dSortI at q
  split at q
  · split at q
    · rename_i ns hb
      cases r with
      | lst r l =>
        refine ⟨_, ns, rfl, by rw [← intsD_rp l hb, ← hK]; exact RL.sq ok r, fun ns' p h1 h2 hp => ?_⟩
        have hq : ∀ v F' H', Ext F H F' H' → Rp G.Z F' v (.lst (ns'.map D.int)) → Q v H' := q ns' ⟨h1, h2⟩
        obtain ⟨e4, r4⟩ := new_lst ok hp (rpl_int (Z := G.Z) (F := F) ns')
        exact hq _ _ _ e4 r4
    · exact (show False from q).elim
  · exact (show False from q).elim) dSortI_tot hm (by decide +kernel) ha hg (by decide) (by decide) he hpl
end
end M

set_option Elab.async false
set_option linter.all false
set_option maxRecDepth 100000
set_option maxHeartbeats 4000000
namespace M
open PySem L2
open PyProof.Rows (envOfC)
def fsT (c : Nat) : String := (["at", "at", "at", "at", "at", "at", "at", "at", "at", "at", "at", "at", "at", "at", "at", "at", "at", "at", "at", "at", "at", "at", "at", "at", "at", "at", "at", "at", "at", "at", "at", "at", "at", "word", "robot", "", ""] : List String).getD c ""
structure Txt (Z : Zt) (mg : Str → Option Value) (cK fI : Nat → Addr) : Prop where
  b_int : mg "int" = none
  b_abs : mg "abs" = none
  b_len : mg "len" = none
  b_range : mg "range" = none
  e_InvalidText : PySem.TErr.ETxt Z.K mg "InvalidText" (Z.fs 0) (Z.cs 0) (fI 0)
  n_InvalidText : ("at" : Str) = PySem.Str.ofString (Z.fs 0)
  hx_InvalidText_at : ∀ c, exT c 0 = true → ("at" : Str) = PySem.Str.ofString (Z.fs c)
  eT_InvalidText : ∀ c, exT c 0 = true → ∃ nm fI, PySem.TErr.ETxt Z.K mg nm (Z.fs c) (Z.cs c) fI
  e_InvalidHall : PySem.TErr.ETxt Z.K mg "InvalidHall" (Z.fs 1) (Z.cs 1) (fI 1)
  n_InvalidHall : ("at" : Str) = PySem.Str.ofString (Z.fs 1)
  hx_InvalidHall_at : ∀ c, exT c 1 = true → ("at" : Str) = PySem.Str.ofString (Z.fs c)
  eT_InvalidHall : ∀ c, exT c 1 = true → ∃ nm fI, PySem.TErr.ETxt Z.K mg nm (Z.fs c) (Z.cs c) fI
  e_InvalidCell : PySem.TErr.ETxt Z.K mg "InvalidCell" (Z.fs 2) (Z.cs 2) (fI 2)
  n_InvalidCell : ("at" : Str) = PySem.Str.ofString (Z.fs 2)
  hx_InvalidCell_at : ∀ c, exT c 2 = true → ("at" : Str) = PySem.Str.ofString (Z.fs c)
  eT_InvalidCell : ∀ c, exT c 2 = true → ∃ nm fI, PySem.TErr.ETxt Z.K mg nm (Z.fs c) (Z.cs c) fI
  e_InvalidLot : PySem.TErr.ETxt Z.K mg "InvalidLot" (Z.fs 3) (Z.cs 3) (fI 3)
  n_InvalidLot : ("at" : Str) = PySem.Str.ofString (Z.fs 3)
  hx_InvalidLot_at : ∀ c, exT c 3 = true → ("at" : Str) = PySem.Str.ofString (Z.fs c)
  eT_InvalidLot : ∀ c, exT c 3 = true → ∃ nm fI, PySem.TErr.ETxt Z.K mg nm (Z.fs c) (Z.cs c) fI
  e_InvalidWays : PySem.TErr.ETxt Z.K mg "InvalidWays" (Z.fs 4) (Z.cs 4) (fI 4)
  n_InvalidWays : ("at" : Str) = PySem.Str.ofString (Z.fs 4)
  hx_InvalidWays_at : ∀ c, exT c 4 = true → ("at" : Str) = PySem.Str.ofString (Z.fs c)
  eT_InvalidWays : ∀ c, exT c 4 = true → ∃ nm fI, PySem.TErr.ETxt Z.K mg nm (Z.fs c) (Z.cs c) fI
  e_InvalidWay : PySem.TErr.ETxt Z.K mg "InvalidWay" (Z.fs 5) (Z.cs 5) (fI 5)
  n_InvalidWay : ("at" : Str) = PySem.Str.ofString (Z.fs 5)
  hx_InvalidWay_at : ∀ c, exT c 5 = true → ("at" : Str) = PySem.Str.ofString (Z.fs c)
  eT_InvalidWay : ∀ c, exT c 5 = true → ∃ nm fI, PySem.TErr.ETxt Z.K mg nm (Z.fs c) (Z.cs c) fI
  e_InvalidTies : PySem.TErr.ETxt Z.K mg "InvalidTies" (Z.fs 6) (Z.cs 6) (fI 6)
  n_InvalidTies : ("at" : Str) = PySem.Str.ofString (Z.fs 6)
  hx_InvalidTies_at : ∀ c, exT c 6 = true → ("at" : Str) = PySem.Str.ofString (Z.fs c)
  eT_InvalidTies : ∀ c, exT c 6 = true → ∃ nm fI, PySem.TErr.ETxt Z.K mg nm (Z.fs c) (Z.cs c) fI
  e_InvalidBlocks : PySem.TErr.ETxt Z.K mg "InvalidBlocks" (Z.fs 7) (Z.cs 7) (fI 7)
  n_InvalidBlocks : ("at" : Str) = PySem.Str.ofString (Z.fs 7)
  hx_InvalidBlocks_at : ∀ c, exT c 7 = true → ("at" : Str) = PySem.Str.ofString (Z.fs c)
  eT_InvalidBlocks : ∀ c, exT c 7 = true → ∃ nm fI, PySem.TErr.ETxt Z.K mg nm (Z.fs c) (Z.cs c) fI
  e_InvalidRobots : PySem.TErr.ETxt Z.K mg "InvalidRobots" (Z.fs 8) (Z.cs 8) (fI 8)
  n_InvalidRobots : ("at" : Str) = PySem.Str.ofString (Z.fs 8)
  hx_InvalidRobots_at : ∀ c, exT c 8 = true → ("at" : Str) = PySem.Str.ofString (Z.fs c)
  eT_InvalidRobots : ∀ c, exT c 8 = true → ∃ nm fI, PySem.TErr.ETxt Z.K mg nm (Z.fs c) (Z.cs c) fI
  e_InvalidPlan : PySem.TErr.ETxt Z.K mg "InvalidPlan" (Z.fs 9) (Z.cs 9) (fI 9)
  n_InvalidPlan : ("at" : Str) = PySem.Str.ofString (Z.fs 9)
  hx_InvalidPlan_at : ∀ c, exT c 9 = true → ("at" : Str) = PySem.Str.ofString (Z.fs c)
  eT_InvalidPlan : ∀ c, exT c 9 = true → ∃ nm fI, PySem.TErr.ETxt Z.K mg nm (Z.fs c) (Z.cs c) fI
  e_InvalidTask : PySem.TErr.ETxt Z.K mg "InvalidTask" (Z.fs 10) (Z.cs 10) (fI 10)
  n_InvalidTask : ("at" : Str) = PySem.Str.ofString (Z.fs 10)
  hx_InvalidTask_at : ∀ c, exT c 10 = true → ("at" : Str) = PySem.Str.ofString (Z.fs c)
  eT_InvalidTask : ∀ c, exT c 10 = true → ∃ nm fI, PySem.TErr.ETxt Z.K mg nm (Z.fs c) (Z.cs c) fI
  e_InvalidOrders : PySem.TErr.ETxt Z.K mg "InvalidOrders" (Z.fs 11) (Z.cs 11) (fI 11)
  n_InvalidOrders : ("at" : Str) = PySem.Str.ofString (Z.fs 11)
  hx_InvalidOrders_at : ∀ c, exT c 11 = true → ("at" : Str) = PySem.Str.ofString (Z.fs c)
  eT_InvalidOrders : ∀ c, exT c 11 = true → ∃ nm fI, PySem.TErr.ETxt Z.K mg nm (Z.fs c) (Z.cs c) fI
  e_InvalidStanding : PySem.TErr.ETxt Z.K mg "InvalidStanding" (Z.fs 12) (Z.cs 12) (fI 12)
  n_InvalidStanding : ("at" : Str) = PySem.Str.ofString (Z.fs 12)
  hx_InvalidStanding_at : ∀ c, exT c 12 = true → ("at" : Str) = PySem.Str.ofString (Z.fs c)
  eT_InvalidStanding : ∀ c, exT c 12 = true → ∃ nm fI, PySem.TErr.ETxt Z.K mg nm (Z.fs c) (Z.cs c) fI
  e_InvalidHolds : PySem.TErr.ETxt Z.K mg "InvalidHolds" (Z.fs 13) (Z.cs 13) (fI 13)
  n_InvalidHolds : ("at" : Str) = PySem.Str.ofString (Z.fs 13)
  hx_InvalidHolds_at : ∀ c, exT c 13 = true → ("at" : Str) = PySem.Str.ofString (Z.fs c)
  eT_InvalidHolds : ∀ c, exT c 13 = true → ∃ nm fI, PySem.TErr.ETxt Z.K mg nm (Z.fs c) (Z.cs c) fI
  e_InvalidLetter : PySem.TErr.ETxt Z.K mg "InvalidLetter" (Z.fs 14) (Z.cs 14) (fI 14)
  n_InvalidLetter : ("at" : Str) = PySem.Str.ofString (Z.fs 14)
  hx_InvalidLetter_at : ∀ c, exT c 14 = true → ("at" : Str) = PySem.Str.ofString (Z.fs c)
  eT_InvalidLetter : ∀ c, exT c 14 = true → ∃ nm fI, PySem.TErr.ETxt Z.K mg nm (Z.fs c) (Z.cs c) fI
  e_InvalidBook : PySem.TErr.ETxt Z.K mg "InvalidBook" (Z.fs 15) (Z.cs 15) (fI 15)
  n_InvalidBook : ("at" : Str) = PySem.Str.ofString (Z.fs 15)
  hx_InvalidBook_at : ∀ c, exT c 15 = true → ("at" : Str) = PySem.Str.ofString (Z.fs c)
  eT_InvalidBook : ∀ c, exT c 15 = true → ∃ nm fI, PySem.TErr.ETxt Z.K mg nm (Z.fs c) (Z.cs c) fI
  e_InvalidScript : PySem.TErr.ETxt Z.K mg "InvalidScript" (Z.fs 16) (Z.cs 16) (fI 16)
  n_InvalidScript : ("at" : Str) = PySem.Str.ofString (Z.fs 16)
  hx_InvalidScript_at : ∀ c, exT c 16 = true → ("at" : Str) = PySem.Str.ofString (Z.fs c)
  eT_InvalidScript : ∀ c, exT c 16 = true → ∃ nm fI, PySem.TErr.ETxt Z.K mg nm (Z.fs c) (Z.cs c) fI
  e_InvalidStretches : PySem.TErr.ETxt Z.K mg "InvalidStretches" (Z.fs 17) (Z.cs 17) (fI 17)
  n_InvalidStretches : ("at" : Str) = PySem.Str.ofString (Z.fs 17)
  hx_InvalidStretches_at : ∀ c, exT c 17 = true → ("at" : Str) = PySem.Str.ofString (Z.fs c)
  eT_InvalidStretches : ∀ c, exT c 17 = true → ∃ nm fI, PySem.TErr.ETxt Z.K mg nm (Z.fs c) (Z.cs c) fI
  e_InvalidTable : PySem.TErr.ETxt Z.K mg "InvalidTable" (Z.fs 18) (Z.cs 18) (fI 18)
  n_InvalidTable : ("at" : Str) = PySem.Str.ofString (Z.fs 18)
  hx_InvalidTable_at : ∀ c, exT c 18 = true → ("at" : Str) = PySem.Str.ofString (Z.fs c)
  eT_InvalidTable : ∀ c, exT c 18 = true → ∃ nm fI, PySem.TErr.ETxt Z.K mg nm (Z.fs c) (Z.cs c) fI
  e_InvalidGoods : PySem.TErr.ETxt Z.K mg "InvalidGoods" (Z.fs 19) (Z.cs 19) (fI 19)
  n_InvalidGoods : ("at" : Str) = PySem.Str.ofString (Z.fs 19)
  hx_InvalidGoods_at : ∀ c, exT c 19 = true → ("at" : Str) = PySem.Str.ofString (Z.fs c)
  eT_InvalidGoods : ∀ c, exT c 19 = true → ∃ nm fI, PySem.TErr.ETxt Z.K mg nm (Z.fs c) (Z.cs c) fI
  e_InvalidStock : PySem.TErr.ETxt Z.K mg "InvalidStock" (Z.fs 20) (Z.cs 20) (fI 20)
  n_InvalidStock : ("at" : Str) = PySem.Str.ofString (Z.fs 20)
  hx_InvalidStock_at : ∀ c, exT c 20 = true → ("at" : Str) = PySem.Str.ofString (Z.fs c)
  eT_InvalidStock : ∀ c, exT c 20 = true → ∃ nm fI, PySem.TErr.ETxt Z.K mg nm (Z.fs c) (Z.cs c) fI
  e_InvalidDeeds : PySem.TErr.ETxt Z.K mg "InvalidDeeds" (Z.fs 21) (Z.cs 21) (fI 21)
  n_InvalidDeeds : ("at" : Str) = PySem.Str.ofString (Z.fs 21)
  hx_InvalidDeeds_at : ∀ c, exT c 21 = true → ("at" : Str) = PySem.Str.ofString (Z.fs c)
  eT_InvalidDeeds : ∀ c, exT c 21 = true → ∃ nm fI, PySem.TErr.ETxt Z.K mg nm (Z.fs c) (Z.cs c) fI
  e_InvalidWants : PySem.TErr.ETxt Z.K mg "InvalidWants" (Z.fs 22) (Z.cs 22) (fI 22)
  n_InvalidWants : ("at" : Str) = PySem.Str.ofString (Z.fs 22)
  hx_InvalidWants_at : ∀ c, exT c 22 = true → ("at" : Str) = PySem.Str.ofString (Z.fs c)
  eT_InvalidWants : ∀ c, exT c 22 = true → ∃ nm fI, PySem.TErr.ETxt Z.K mg nm (Z.fs c) (Z.cs c) fI
  e_InvalidComings : PySem.TErr.ETxt Z.K mg "InvalidComings" (Z.fs 23) (Z.cs 23) (fI 23)
  n_InvalidComings : ("at" : Str) = PySem.Str.ofString (Z.fs 23)
  hx_InvalidComings_at : ∀ c, exT c 23 = true → ("at" : Str) = PySem.Str.ofString (Z.fs c)
  eT_InvalidComings : ∀ c, exT c 23 = true → ∃ nm fI, PySem.TErr.ETxt Z.K mg nm (Z.fs c) (Z.cs c) fI
  e_InvalidLots : PySem.TErr.ETxt Z.K mg "InvalidLots" (Z.fs 24) (Z.cs 24) (fI 24)
  n_InvalidLots : ("at" : Str) = PySem.Str.ofString (Z.fs 24)
  hx_InvalidLots_at : ∀ c, exT c 24 = true → ("at" : Str) = PySem.Str.ofString (Z.fs c)
  eT_InvalidLots : ∀ c, exT c 24 = true → ∃ nm fI, PySem.TErr.ETxt Z.K mg nm (Z.fs c) (Z.cs c) fI
  e_InvalidLines : PySem.TErr.ETxt Z.K mg "InvalidLines" (Z.fs 25) (Z.cs 25) (fI 25)
  n_InvalidLines : ("at" : Str) = PySem.Str.ofString (Z.fs 25)
  hx_InvalidLines_at : ∀ c, exT c 25 = true → ("at" : Str) = PySem.Str.ofString (Z.fs c)
  eT_InvalidLines : ∀ c, exT c 25 = true → ∃ nm fI, PySem.TErr.ETxt Z.K mg nm (Z.fs c) (Z.cs c) fI
  e_InvalidHomes : PySem.TErr.ETxt Z.K mg "InvalidHomes" (Z.fs 26) (Z.cs 26) (fI 26)
  n_InvalidHomes : ("at" : Str) = PySem.Str.ofString (Z.fs 26)
  hx_InvalidHomes_at : ∀ c, exT c 26 = true → ("at" : Str) = PySem.Str.ofString (Z.fs c)
  eT_InvalidHomes : ∀ c, exT c 26 = true → ∃ nm fI, PySem.TErr.ETxt Z.K mg nm (Z.fs c) (Z.cs c) fI
  e_InvalidLanes : PySem.TErr.ETxt Z.K mg "InvalidLanes" (Z.fs 27) (Z.cs 27) (fI 27)
  n_InvalidLanes : ("at" : Str) = PySem.Str.ofString (Z.fs 27)
  hx_InvalidLanes_at : ∀ c, exT c 27 = true → ("at" : Str) = PySem.Str.ofString (Z.fs c)
  eT_InvalidLanes : ∀ c, exT c 27 = true → ∃ nm fI, PySem.TErr.ETxt Z.K mg nm (Z.fs c) (Z.cs c) fI
  e_InvalidPrices : PySem.TErr.ETxt Z.K mg "InvalidPrices" (Z.fs 28) (Z.cs 28) (fI 28)
  n_InvalidPrices : ("at" : Str) = PySem.Str.ofString (Z.fs 28)
  hx_InvalidPrices_at : ∀ c, exT c 28 = true → ("at" : Str) = PySem.Str.ofString (Z.fs c)
  eT_InvalidPrices : ∀ c, exT c 28 = true → ∃ nm fI, PySem.TErr.ETxt Z.K mg nm (Z.fs c) (Z.cs c) fI
  e_InvalidRoutes : PySem.TErr.ETxt Z.K mg "InvalidRoutes" (Z.fs 29) (Z.cs 29) (fI 29)
  n_InvalidRoutes : ("at" : Str) = PySem.Str.ofString (Z.fs 29)
  hx_InvalidRoutes_at : ∀ c, exT c 29 = true → ("at" : Str) = PySem.Str.ofString (Z.fs c)
  eT_InvalidRoutes : ∀ c, exT c 29 = true → ∃ nm fI, PySem.TErr.ETxt Z.K mg nm (Z.fs c) (Z.cs c) fI
  e_InvalidPicture : PySem.TErr.ETxt Z.K mg "InvalidPicture" (Z.fs 30) (Z.cs 30) (fI 30)
  n_InvalidPicture : ("at" : Str) = PySem.Str.ofString (Z.fs 30)
  hx_InvalidPicture_at : ∀ c, exT c 30 = true → ("at" : Str) = PySem.Str.ofString (Z.fs c)
  eT_InvalidPicture : ∀ c, exT c 30 = true → ∃ nm fI, PySem.TErr.ETxt Z.K mg nm (Z.fs c) (Z.cs c) fI
  e_InvalidIndex : PySem.TErr.ETxt Z.K mg "InvalidIndex" (Z.fs 31) (Z.cs 31) (fI 31)
  n_InvalidIndex : ("at" : Str) = PySem.Str.ofString (Z.fs 31)
  hx_InvalidIndex_at : ∀ c, exT c 31 = true → ("at" : Str) = PySem.Str.ofString (Z.fs c)
  eT_InvalidIndex : ∀ c, exT c 31 = true → ∃ nm fI, PySem.TErr.ETxt Z.K mg nm (Z.fs c) (Z.cs c) fI
  e_Refused : PySem.TErr.ETxt Z.K mg "Refused" (Z.fs 32) (Z.cs 32) (fI 32)
  n_Refused : ("at" : Str) = PySem.Str.ofString (Z.fs 32)
  hx_Refused_at : ∀ c, exT c 32 = true → ("at" : Str) = PySem.Str.ofString (Z.fs c)
  eT_Refused : ∀ c, exT c 32 = true → ∃ nm fI, PySem.TErr.ETxt Z.K mg nm (Z.fs c) (Z.cs c) fI
  e_InvalidSize : PySem.TErr.ETxt Z.K mg "InvalidSize" (Z.fs 33) (Z.cs 33) (fI 33)
  n_InvalidSize : ("word" : Str) = PySem.Str.ofString (Z.fs 33)
  hx_InvalidSize_word : ∀ c, exT c 33 = true → ("word" : Str) = PySem.Str.ofString (Z.fs c)
  eT_InvalidSize : ∀ c, exT c 33 = true → ∃ nm fI, PySem.TErr.ETxt Z.K mg nm (Z.fs c) (Z.cs c) fI
  e_NoRobot : PySem.TErr.ETxt Z.K mg "NoRobot" (Z.fs 34) (Z.cs 34) (fI 34)
  n_NoRobot : ("robot" : Str) = PySem.Str.ofString (Z.fs 34)
  hx_NoRobot_robot : ∀ c, exT c 34 = true → ("robot" : Str) = PySem.Str.ofString (Z.fs c)
  eT_NoRobot : ∀ c, exT c 34 = true → ∃ nm fI, PySem.TErr.ETxt Z.K mg nm (Z.fs c) (Z.cs c) fI
  g_InvalidCommand : mg "InvalidCommand" = some (.ref (Z.cs 35))
  f_InvalidCommand : Z.fs 35 = ""
  q_InvalidCommand : PySem.W.excIn Z.K (Z.cs 35) PySem.TErr.endE "Exception.__new__" = true
  k_InvalidCommand : PySem.W.keepIn Z.K (.ref (Z.cs 35)) = true
  x_InvalidCommand : PySem.W.subIn Z.K (.ref (Z.cs 35)) (.type "BaseException") = some true
  t_InvalidCommand : PySem.W.typeIn Z.K (.ref (Z.cs 35)) = some (.type "type")
  g_HallError : mg "HallError" = some (.ref (Z.cs 36))
  ex : ∀ c d, c < 36 → d < 37 → PySem.W.exmOne Z.K (.ref (Z.cs c)) (.ref (Z.cs d)) = some (exT c d)
  dl : Z.dl = DL
section
variable {P : Program} {w : World} {Z : Zt} {mg : Str → Option Value} {base : Heap} {cK fI : Nat → Addr}
abbrev N_law_box : List Str := ["_law_script", "_law_k", "_law_cell"]
theorem sc_law_box : FnScope N_law_box ["_law_script", "_law_k"] (defScope s_law_box) := ⟨rfl, rfl, rfl, by decide +kernel, rfl, by decide +kernel, by decide +kernel⟩
def m_law_box (a_law_script : D) (a_law_k : D) : N D := (N.seq ((((.ok (.int 2311) : N D).bind fun x => (.ok a_law_k : N D).bind fun y => dMul x y : N D).bind fun x => (.ok (.int 97) : N D).bind fun y => dAdd x y : N D).bind fun d => .ok (.nx d)) fun (cell_1 : D) => N.seq ((((.ok a_law_k : N D).bind fun x => ((.ok a_law_script : N D).bind dLen : N D).bind fun y => dLt x y : N D).bind N.tst : N Bool).bind fun x => if x = true then (N.seq ((((.ok a_law_script : N D).bind fun x => (.ok a_law_k : N D).bind fun y => dIx x y : N D).bind dAbs : N D).bind fun d => .ok (.nx d)) fun (cell_3 : D) => .ok (.nx (cell_3))) else (N.seq (((((.ok a_law_script : N D).bind dLen : N D).bind fun x => (.ok (.int 0) : N D).bind fun y => dGt x y : N D).bind N.tst : N Bool).bind fun x => if x = true then (N.seq (((.ok cell_1 : N D).bind fun x => ((((((.ok a_law_script : N D).bind fun x => (((.ok a_law_k : N D).bind dInt : N D).bind fun x => ((.ok a_law_script : N D).bind dLen : N D).bind fun y => dMod x y : N D).bind fun y => dIx x y : N D).bind dAbs : N D).bind dInt : N D).bind fun x => (.ok (.int 2147483629) : N D).bind fun y => dMod x y : N D).bind fun x => (.ok (.int 60013) : N D).bind fun y => dMul x y : N D).bind fun y => dAdd x y : N D).bind fun d => .ok (.nx d)) fun (cell_5 : D) => .ok (.nx (cell_5))) else (.ok (.nx (cell_1)))) fun (j4 : D) => .ok (.nx (j4)))) fun (j2 : D) => (((((.ok (.int 0) : N D).bind fun x => ((.ok j2 : N D).bind fun x => (.ok [] : N (List D)).bind fun xs => .ok (x :: xs) : N (List D)).bind fun xs => .ok (x :: xs) : N (List D)).bind fun xs => (N.le1 xs).bind fun _ => .ok (.lst xs) : N D).bind fun x => (((.ok j2 : N D).bind fun x => ((.ok (.int 10) : N D).bind fun x => (.ok (.int 18) : N D).bind fun y => dPow x y : N D).bind fun y => dGe x y : N D).bind dInt : N D).bind fun y => dIx x y : N D).bind fun x => ((((((((.ok j2 : N D).bind dInt : N D).bind fun x => (.ok (.int 2147483629) : N D).bind fun y => dMod x y : N D).bind fun x => (.ok (.int 38377) : N D).bind fun y => dMul x y : N D).bind fun x => ((.ok (.int 71129) : N D).bind fun x => (.ok a_law_k : N D).bind fun y => dMul x y : N D).bind fun y => dAdd x y : N D).bind dInt : N D).bind fun x => (.ok (.int 2147483629) : N D).bind fun y => dMod x y : N D).bind fun x => (.ok (.int 1) : N D).bind fun y => dAdd x y : N D).bind fun y => (.ok (.int 0) : N D).bind fun z => mkBox x y z : N D).bind fun d => .ok (.rt d) : N (Fl Unit Unit)).fin
theorem ok_law_box {f : Addr} {fd : FuncData} (F : FunD Z.K "_law_box" "_law_box" (defArgs s_law_box) (defBody s_law_box) (defScope s_law_box) [] [] f fd) (T : Txt Z mg cK fI) : FnOk P w Z.K mg base (L2.CX P w) 1 f fd ["_law_script", "_law_k"] (spN Z 2 (app2 m_law_box)) := by
  refine fn_okD (ps := ["_law_script", "_law_k"]) F sc_law_box (ar2 _) (fun cdv A outer s H E F0 ds hr tk hl => ?_)
  match ds, hl with
  | [a_law_script, a_law_k], _ =>
    refine ⟨Unit, Unit, fun _ => [.dat (a_law_script), .dat (a_law_k), .un], fun _ => [.dat (a_law_script), .dat (a_law_k), .un], _, ?_, fun _ _ h => h⟩
    exact ((ds_cons (ds_set (i := 2) sc_law_box.nd (de_add (de_mul de_int (de_var (i := 1) (d := a_law_k))) de_int)) (fun (cell_1 : D) => (ds_cons (ds_if (sl := fun (j2 : D) => [.dat (a_law_script), .dat (a_law_k), .dat (j2)]) (dt_cmp op_lt (r2_I0 fun _ _ _ => .bl _) (iOp_tot _) (de_var (i := 1) (d := a_law_k)) (de_len rfl T.b_len (de_var (i := 0) (d := a_law_script))) (nomark _)) (ds_cons (ds_set (i := 2) sc_law_box.nd (de_abs T.b_abs (de_ixD rfl (de_var (i := 0) (d := a_law_script)) (de_var (i := 1) (d := a_law_k))))) (fun (cell_3 : D) => (ds_nil (cell_3)))) (ds_cons (ds_if (sl := fun (j4 : D) => [.dat (a_law_script), .dat (a_law_k), .dat (j4)]) (dt_cmp op_gt (r2_I0 fun _ _ _ => .bl _) (iOp_tot _) (de_len rfl T.b_len (de_var (i := 0) (d := a_law_script))) de_int (nomark _)) (ds_cons (ds_set (i := 2) sc_law_box.nd (de_add (de_var (i := 2) (d := cell_1)) (de_mul (de_mod (de_intC T.b_int (de_abs T.b_abs (de_ixD rfl (de_var (i := 0) (d := a_law_script)) (de_mod (de_intC T.b_int (de_var (i := 1) (d := a_law_k))) (de_len rfl T.b_len (de_var (i := 0) (d := a_law_script))))))) de_int) de_int))) (fun (cell_5 : D) => (ds_nil (cell_5)))) (ds_nil (cell_1))) (fun (j4 : D) => (ds_nil (j4))))) (fun (j2 : D) => (ds_one (ds_ret (de_box T.dl (de_ixD rfl (de_lst (da_cons de_int (da_cons (de_var (i := 2) (d := j2)) da_nil))) (de_intC T.b_int (de_cmp op_ge (r2_I0 fun _ _ _ => .bl _) (iOp_tot _) (de_var (i := 2) (d := j2)) (de_pow de_int de_int) (nomark _)))) (de_add (de_mod (de_intC T.b_int (de_add (de_mul (de_mod (de_intC T.b_int (de_var (i := 2) (d := j2))) de_int) de_int) (de_mul de_int (de_var (i := 1) (d := a_law_k))))) de_int) de_int) de_int))))))))

abbrev N_law_take : List Str := ["_law_box_here", "_law_many", "_law_raw", "_law_digit"]
theorem sc_law_take : FnScope N_law_take ["_law_box_here", "_law_many"] (defScope s_law_take) := ⟨rfl, rfl, rfl, by decide +kernel, rfl, by decide +kernel, by decide +kernel⟩
theorem ok_law_take {f : Addr} {fd : FuncData} (F : FunD Z.K "_law_take" "_law_take" (defArgs s_law_take) (defBody s_law_take) (defScope s_law_take) [] [] f fd) (hz : Z.dl = DL) (b_int : mg "int" = none) : FnOk P w Z.K mg base (L2.CX P w) 1 f fd ["_law_box_here", "_law_many"] (spN Z 2 (app2 m_law_take)) := by
  refine F.ok sc_law_take (fun vs H Q E h => h.1) (fun cdv A outer s H vs Q E hr h => ?_)
  obtain ⟨hl, F0, ds, ok0, r0, q0⟩ := h
  have hd : ds.length = 2 := ar2 _ _ _ _ q0
  match ds, hd with
  | [d, b], _ =>
  cases r0 with
  | cons r1 r0 =>
  cases r0 with
  | cons r2 r0 =>
  cases r0
  have q1 : (m_law_take d b).wp (fun d => ∀ v F' H', Ext F0 H F' H' → Rp Z F' v d → Q v H') (fun c x => ∀ cls dd F' H', Ext F0 H F' H' → ErrIs Z F' c x cls dd → E cls dd H') := q0
  match d, b with
  | .dl 2, .int n =>
  obtain ⟨⟨hn0, hn1⟩, q⟩ := q1
  have q : ∀ r : Int, 0 ≤ r ∧ r < n → ∀ v F' H', Ext F0 H F' H' → Rp Z F' v (.int r) → Q v H' := q
  cases r2
  cases r1 with
  | dl hb =>
  rename_i a
  rw [hz] at hb
  have hA : F0 a = some pBox3 := hb
  have hb : ∀ {σ : St} {H' : Hp}, Ext F0 H F0 H' → σ[0]? = some (some (.ref a)) → σ[1]? = some (some (.int n)) → σ.length = 4 → BoxAt3 F0 H a n 4 σ H' := fun e s0 s1 h2 => .of e hA s0 s1 h2
  have k : ∀ r : Int, 0 ≤ r ∧ r < n → ∀ H'', Ext F0 H F0 H'' → Q (.int r) H'' := fun r hr H'' e => q r hr _ F0 H'' e (.int r)
  refine ⟨_, pss_cons (ps_if (pt_cmpR op_gt (pe_ix ix_seq (pv 0) pe_int fun _ _ => rfl) pe_int (nomark _))
      (pss_cons (ps_set (i := 3) sc_law_take.nd rfl (.inl rfl) (pe_op op_mod (pe_callTy call_int1 rfl b_int (by decide +kernel) (pa_cons (pe_ix ix_seq (pv 0) pe_int fun _ _ => rfl) pa_nil)) (pv 1)))
        (pss_cons (ps_asg (pe_op op_fdiv (pe_ix ix_seq (pv 0) pe_int fun _ _ => rfl) (pv 1)) (pg_sub (pv 0) pe_int set_list))
          (pss_one (ps_ret (pv 3)))))
      pss_nil)
    (PSs.imp (t' := fun D σ H' => BoxAt3 F0 H a n 4 σ H' ∧ ∀ r : Int, 0 ≤ r ∧ r < n → ∀ H'', Ext F0 H F0 H'' → D.rt (.int r) H'') (pss_cons (ps_asg (pe_op op_add (pe_ix ix_seq (pv 0) pe_int fun _ _ => rfl) pe_int) (pg_sub (pv 0) pe_int set_list))
    (pss_cons (ps_set (i := 2) sc_law_take.nd rfl (.inl rfl) (pe_op op_mod (pe_callTy call_int1 rfl b_int (by decide +kernel) (pa_cons (pe_op op_add (pe_op op_mul (pe_op op_add (pe_ix ix_seq (pv 0) pe_int fun _ _ => rfl) (pe_op op_mul pe_int (pe_ix ix_seq (pv 0) pe_int fun _ _ => rfl))) pe_int) pe_int) pa_nil)) pe_int))
    (pss_cons (ps_asg (pe_op op_add (pe_op op_mod (pe_callTy call_int1 rfl b_int (by decide +kernel) (pa_cons (pe_op op_add (pe_op op_mul (pv 2) pe_int) pe_int) pa_nil)) pe_int) pe_int) (pg_sub (pv 0) pe_int set_list))
      (pss_one (ps_ret (pe_op op_mod (pe_callTy call_int1 rfl b_int (by decide +kernel) (pa_cons (pe_op op_fdiv (pe_op op_add (pe_op op_mul (pv 2) pe_int) (pe_ix ix_seq (pv 0) pe_int fun _ _ => rfl)) pe_int) pa_nil)) (pv 1))))))) ?_), ?_⟩
  · rintro D σ H1 ⟨B, k⟩
    obtain ⟨x, y, z, hx⟩ := B.bx
    have s0 := B.s0
    have s1 := B.s1
    refine ⟨_, s0, .inl ⟨a, _, 2, .int z, rfl, rfl, SqL.of hx, rfl, ⟨_, _, rfl, rfl, ?_⟩⟩⟩
    refine ⟨_, s0, ⟨a, _, 2, 2, rfl, rfl, hx, rfl, ?_⟩⟩
    have e2 : Ext F0 H F0 (upd H1 a (.lst ([V.int x, V.int y, V.int z].set 2 (V.int (z + 1))))) := B.ext.put hA ⟨x, y, _, rfl⟩ (fun ⟨_, z⟩ => by cases z)
    refine ⟨_, s0, .inl ⟨a, _, 1, .int y, rfl, rfl, SqL.of upd_same, rfl, ⟨_, s0, .inl ⟨a, _, 2, .int (z + 1), rfl, rfl, SqL.of upd_same, rfl, ⟨_, _, rfl, rfl, .inl ⟨by decide, by decide⟩, ⟨_, _, rfl, rfl, ⟨_, _, rfl, rfl, .inr ⟨by decide, by decide⟩, ⟨_, _, rfl, rfl, .inl ⟨_, rfl, ⟨_, _, rfl, rfl, (by show (0 : Int) < _; decide), ?_⟩⟩⟩⟩⟩⟩⟩⟩⟩⟩
    have h3lt : 2 < σ.length := by rw [B.len]; decide
    have t0 : ∀ v : V, (σ.set 2 (some v))[0]? = some (some (.ref a)) := fun v => by rw [List.getElem?_set_ne (by decide)]; exact s0
    have t1 : ∀ v : V, (σ.set 2 (some v))[1]? = some (some (.int n)) := fun v => by rw [List.getElem?_set_ne (by decide)]; exact s1
    have t3 : ∀ v : V, (σ.set 2 (some v))[2]? = some (some v) := fun v => List.getElem?_set_self h3lt
    refine ⟨_, t3 _, ⟨_, _, rfl, rfl, .inr ⟨by decide, by decide⟩, ⟨_, _, rfl, rfl, .inl ⟨_, rfl, ⟨_, _, rfl, rfl, (by show (0 : Int) < _; decide), ⟨_, _, rfl, rfl, ?_⟩⟩⟩⟩⟩⟩
    refine ⟨_, t0 _, ⟨a, _, 1, 1, rfl, rfl, upd_same, rfl, ?_⟩⟩
    refine ⟨_, t3 _, ⟨_, _, rfl, rfl, .inr ⟨by decide, by decide⟩, ⟨_, t0 _, .inl ⟨a, _, 1, _, rfl, rfl, SqL.of upd_same, rfl, ⟨_, _, rfl, rfl, ⟨_, _, rfl, rfl, ⟨by decide, by decide⟩, .inl ⟨_, rfl, ⟨_, t1 _, ⟨_, n, rfl, rfl, hn0, ?_⟩⟩⟩⟩⟩⟩⟩⟩⟩
    exact k _ ⟨Int.emod_nonneg _ (by omega), Int.emod_lt_of_pos _ hn0⟩ _ (e2.put hA ⟨x, _, z + 1, rfl⟩ (fun ⟨_, z⟩ => by cases z))
  · have B : BoxAt3 F0 H a n 4 _ H := hb (σ := L2.start N_law_take [V.ref a, V.int n]) (Ext.refl ok0) rfl rfl rfl
    obtain ⟨x, y, z, hx⟩ := B.bx
    have s0 := B.s0
    have s1 := B.s1
    refine ⟨_, s0, .inl ⟨a, _, 0, .int x, rfl, rfl, SqL.of hx, rfl, ⟨_, _, rfl, rfl, ⟨_, rfl, ?_⟩⟩⟩⟩
    by_cases hp : (0 : Int) < x
    · show if decide (0 < x) = true then _ else _
      rw [if_pos (decide_eq_true hp)]
      refine ⟨_, s0, .inl ⟨a, _, 0, .int x, rfl, rfl, SqL.of hx, rfl, .inl ⟨_, rfl, ⟨_, s1, ⟨_, n, rfl, rfl, hn0, ?_⟩⟩⟩⟩⟩
      have h2lt : 3 < (L2.start N_law_take [V.ref a, V.int n]).length := by rw [B.len]; decide
      have t0 : ((L2.start N_law_take [V.ref a, V.int n]).set 3 (some (V.int (x % n))))[0]? = some (some (.ref a)) := rfl
      have t1 : ((L2.start N_law_take [V.ref a, V.int n]).set 3 (some (V.int (x % n))))[1]? = some (some (.int n)) := rfl
      have t2 : ((L2.start N_law_take [V.ref a, V.int n]).set 3 (some (V.int (x % n))))[3]? = some (some (.int (x % n))) := rfl
      refine ⟨_, t0, .inl ⟨a, _, 0, _, rfl, rfl, SqL.of hx, rfl, ⟨_, t1, ⟨_, n, rfl, rfl, ⟨hn0, hn1⟩, ⟨_, t0, ⟨a, _, 0, 0, rfl, rfl, hx, rfl, ?_⟩⟩⟩⟩⟩⟩
      have e2 : Ext F0 H F0 (upd H a (.lst ([V.int x, V.int y, V.int z].set 0 (V.int (x / n))))) := B.ext.put hA ⟨_, y, z, rfl⟩ (fun ⟨_, z⟩ => by cases z)
      exact ⟨_, t2, k _ ⟨Int.emod_nonneg _ (by omega), Int.emod_lt_of_pos _ hn0⟩ _ e2⟩
    · show if decide (0 < x) = true then _ else _
      rw [if_neg (by rw [decide_eq_false hp]; exact Bool.false_ne_true)]
      exact ⟨B, k⟩

abbrev N_law_pick : List Str := ["_law_box_here", "_law_some"]
theorem sc_law_pick : FnScope N_law_pick ["_law_box_here", "_law_some"] (defScope s_law_pick) := ⟨rfl, rfl, rfl, by decide +kernel, rfl, by decide +kernel, by decide +kernel⟩
def m_law_pick (a_law_box_here : D) (a_law_some : D) : N D := (((.ok a_law_some : N D).bind fun x => ((.ok a_law_box_here : N D).bind fun x => ((.ok a_law_some : N D).bind dLen : N D).bind fun y => m_law_take x y : N D).bind fun y => dIx x y : N D).bind fun d => .ok (.rt d) : N (Fl Unit Unit)).fin
theorem ok_law_pick {f : Addr} {fd : FuncData} (F : FunD Z.K "_law_pick" "_law_pick" (defArgs s_law_pick) (defBody s_law_pick) (defScope s_law_pick) [] [] f fd) (T : Txt Z mg cK fI) (C_law_take : Df P w Z mg base "_law_take" 1 2 (app2 m_law_take)) : FnOk P w Z.K mg base (L2.CX P w) 2 f fd ["_law_box_here", "_law_some"] (spN Z 2 (app2 m_law_pick)) := by
  refine fn_okD (ps := ["_law_box_here", "_law_some"]) F sc_law_pick (ar2 _) (fun cdv A outer s H E F0 ds hr tk hl => ?_)
  match ds, hl with
  | [a_law_box_here, a_law_some], _ =>
    refine ⟨Unit, Unit, fun _ => [.dat (a_law_box_here), .dat (a_law_some)], fun _ => [.dat (a_law_box_here), .dat (a_law_some)], _, ?_, fun _ _ h => h⟩
    exact ((ds_one (ds_ret (de_ixD rfl (de_var (i := 1) (d := a_law_some)) (de_call2 (Df.cal C_law_take (hr.mono (by decide))) tk (Wk.un' rfl) (de_var (i := 0) (d := a_law_box_here)) (de_len rfl T.b_len (de_var (i := 1) (d := a_law_some))))))))

abbrev N_law_raise_a : List Str := ["_law_number", "_law_thing"]
theorem sc_law_raise_a : FnScope N_law_raise_a ["_law_number", "_law_thing"] (defScope s_law_raise_a) := ⟨rfl, rfl, rfl, by decide +kernel, rfl, by decide +kernel, by decide +kernel⟩
def m_law_raise_a (a_law_number : D) (a_law_thing : D) : N D := (N.seq ((((.ok a_law_number : N D).bind fun x => (.ok (.int 0) : N D).bind fun y => dEqS x y : N D).bind N.tst : N Bool).bind fun x => if x = true then ((.ok a_law_thing : N D).bind fun d => .err 0 d) else (N.seq ((((.ok a_law_number : N D).bind fun x => (.ok (.int 1) : N D).bind fun y => dEqS x y : N D).bind N.tst : N Bool).bind fun x => if x = true then ((.ok a_law_thing : N D).bind fun d => .err 1 d) else (N.seq ((((.ok a_law_number : N D).bind fun x => (.ok (.int 2) : N D).bind fun y => dEqS x y : N D).bind N.tst : N Bool).bind fun x => if x = true then ((.ok a_law_thing : N D).bind fun d => .err 2 d) else (N.seq ((((.ok a_law_number : N D).bind fun x => (.ok (.int 3) : N D).bind fun y => dEqS x y : N D).bind N.tst : N Bool).bind fun x => if x = true then ((.ok a_law_thing : N D).bind fun d => .err 3 d) else (N.seq ((((.ok a_law_number : N D).bind fun x => (.ok (.int 4) : N D).bind fun y => dEqS x y : N D).bind N.tst : N Bool).bind fun x => if x = true then ((.ok a_law_thing : N D).bind fun d => .err 4 d) else (N.seq ((((.ok a_law_number : N D).bind fun x => (.ok (.int 5) : N D).bind fun y => dEqS x y : N D).bind N.tst : N Bool).bind fun x => if x = true then ((.ok a_law_thing : N D).bind fun d => .err 5 d) else (N.seq ((((.ok a_law_number : N D).bind fun x => (.ok (.int 6) : N D).bind fun y => dEqS x y : N D).bind N.tst : N Bool).bind fun x => if x = true then ((.ok a_law_thing : N D).bind fun d => .err 6 d) else (N.seq ((((.ok a_law_number : N D).bind fun x => (.ok (.int 7) : N D).bind fun y => dEqS x y : N D).bind N.tst : N Bool).bind fun x => if x = true then ((.ok a_law_thing : N D).bind fun d => .err 7 d) else (N.seq ((((.ok a_law_number : N D).bind fun x => (.ok (.int 8) : N D).bind fun y => dEqS x y : N D).bind N.tst : N Bool).bind fun x => if x = true then ((.ok a_law_thing : N D).bind fun d => .err 8 d) else (N.seq ((((.ok a_law_number : N D).bind fun x => (.ok (.int 9) : N D).bind fun y => dEqS x y : N D).bind N.tst : N Bool).bind fun x => if x = true then ((.ok a_law_thing : N D).bind fun d => .err 9 d) else (N.seq ((((.ok a_law_number : N D).bind fun x => (.ok (.int 10) : N D).bind fun y => dEqS x y : N D).bind N.tst : N Bool).bind fun x => if x = true then ((.ok a_law_thing : N D).bind fun d => .err 10 d) else (N.seq ((((.ok a_law_number : N D).bind fun x => (.ok (.int 11) : N D).bind fun y => dEqS x y : N D).bind N.tst : N Bool).bind fun x => if x = true then ((.ok a_law_thing : N D).bind fun d => .err 11 d) else (N.seq ((((.ok a_law_number : N D).bind fun x => (.ok (.int 12) : N D).bind fun y => dEqS x y : N D).bind N.tst : N Bool).bind fun x => if x = true then ((.ok a_law_thing : N D).bind fun d => .err 12 d) else (N.seq ((((.ok a_law_number : N D).bind fun x => (.ok (.int 13) : N D).bind fun y => dEqS x y : N D).bind N.tst : N Bool).bind fun x => if x = true then ((.ok a_law_thing : N D).bind fun d => .err 13 d) else (N.seq ((((.ok a_law_number : N D).bind fun x => (.ok (.int 14) : N D).bind fun y => dEqS x y : N D).bind N.tst : N Bool).bind fun x => if x = true then ((.ok a_law_thing : N D).bind fun d => .err 14 d) else (.ok (.nx ()))) fun (_ : Unit) => .ok (.nx ()))) fun (_ : Unit) => .ok (.nx ()))) fun (_ : Unit) => .ok (.nx ()))) fun (_ : Unit) => .ok (.nx ()))) fun (_ : Unit) => .ok (.nx ()))) fun (_ : Unit) => .ok (.nx ()))) fun (_ : Unit) => .ok (.nx ()))) fun (_ : Unit) => .ok (.nx ()))) fun (_ : Unit) => .ok (.nx ()))) fun (_ : Unit) => .ok (.nx ()))) fun (_ : Unit) => .ok (.nx ()))) fun (_ : Unit) => .ok (.nx ()))) fun (_ : Unit) => .ok (.nx ()))) fun (_ : Unit) => .ok (.nx ()))) fun (_ : Unit) => .ok (.nx ()) : N (Fl Unit Unit)).fin
theorem ok_law_raise_a {f : Addr} {fd : FuncData} (F : FunD Z.K "_law_raise_a" "_law_raise_a" (defArgs s_law_raise_a) (defBody s_law_raise_a) (defScope s_law_raise_a) [] [] f fd) (T : Txt Z mg cK fI) : FnOk P w Z.K mg base (L2.CX P w) 1 f fd ["_law_number", "_law_thing"] (spN Z 2 (app2 m_law_raise_a)) := by
  refine fn_okD (ps := ["_law_number", "_law_thing"]) F sc_law_raise_a (ar2 _) (fun cdv A outer s H E F0 ds hr tk hl => ?_)
  match ds, hl with
  | [a_law_number, a_law_thing], _ =>
    refine ⟨Unit, Unit, fun _ => [.dat (a_law_number), .dat (a_law_thing)], fun _ => [.dat (a_law_number), .dat (a_law_thing)], _, ?_, fun _ _ h => h⟩
    exact ((ds_cons (ds_if (sl := fun _ : Unit => [.dat (a_law_number), .dat (a_law_thing)]) (dt_cmp op_eq r2_EqS dEqS_tot (de_var (i := 0) (d := a_law_number)) de_int (nomark _)) (ds_one (ds_raise (ci := 0) rfl T.e_InvalidText (hr.mono (by decide) : Room 0 _) tk (Wk.un' rfl) (de_var (i := 1) (d := a_law_thing)))) (ds_cons (ds_if (sl := fun _ : Unit => [.dat (a_law_number), .dat (a_law_thing)]) (dt_cmp op_eq r2_EqS dEqS_tot (de_var (i := 0) (d := a_law_number)) de_int (nomark _)) (ds_one (ds_raise (ci := 1) rfl T.e_InvalidHall (hr.mono (by decide) : Room 0 _) tk (Wk.un' rfl) (de_var (i := 1) (d := a_law_thing)))) (ds_cons (ds_if (sl := fun _ : Unit => [.dat (a_law_number), .dat (a_law_thing)]) (dt_cmp op_eq r2_EqS dEqS_tot (de_var (i := 0) (d := a_law_number)) de_int (nomark _)) (ds_one (ds_raise (ci := 2) rfl T.e_InvalidCell (hr.mono (by decide) : Room 0 _) tk (Wk.un' rfl) (de_var (i := 1) (d := a_law_thing)))) (ds_cons (ds_if (sl := fun _ : Unit => [.dat (a_law_number), .dat (a_law_thing)]) (dt_cmp op_eq r2_EqS dEqS_tot (de_var (i := 0) (d := a_law_number)) de_int (nomark _)) (ds_one (ds_raise (ci := 3) rfl T.e_InvalidLot (hr.mono (by decide) : Room 0 _) tk (Wk.un' rfl) (de_var (i := 1) (d := a_law_thing)))) (ds_cons (ds_if (sl := fun _ : Unit => [.dat (a_law_number), .dat (a_law_thing)]) (dt_cmp op_eq r2_EqS dEqS_tot (de_var (i := 0) (d := a_law_number)) de_int (nomark _)) (ds_one (ds_raise (ci := 4) rfl T.e_InvalidWays (hr.mono (by decide) : Room 0 _) tk (Wk.un' rfl) (de_var (i := 1) (d := a_law_thing)))) (ds_cons (ds_if (sl := fun _ : Unit => [.dat (a_law_number), .dat (a_law_thing)]) (dt_cmp op_eq r2_EqS dEqS_tot (de_var (i := 0) (d := a_law_number)) de_int (nomark _)) (ds_one (ds_raise (ci := 5) rfl T.e_InvalidWay (hr.mono (by decide) : Room 0 _) tk (Wk.un' rfl) (de_var (i := 1) (d := a_law_thing)))) (ds_cons (ds_if (sl := fun _ : Unit => [.dat (a_law_number), .dat (a_law_thing)]) (dt_cmp op_eq r2_EqS dEqS_tot (de_var (i := 0) (d := a_law_number)) de_int (nomark _)) (ds_one (ds_raise (ci := 6) rfl T.e_InvalidTies (hr.mono (by decide) : Room 0 _) tk (Wk.un' rfl) (de_var (i := 1) (d := a_law_thing)))) (ds_cons (ds_if (sl := fun _ : Unit => [.dat (a_law_number), .dat (a_law_thing)]) (dt_cmp op_eq r2_EqS dEqS_tot (de_var (i := 0) (d := a_law_number)) de_int (nomark _)) (ds_one (ds_raise (ci := 7) rfl T.e_InvalidBlocks (hr.mono (by decide) : Room 0 _) tk (Wk.un' rfl) (de_var (i := 1) (d := a_law_thing)))) (ds_cons (ds_if (sl := fun _ : Unit => [.dat (a_law_number), .dat (a_law_thing)]) (dt_cmp op_eq r2_EqS dEqS_tot (de_var (i := 0) (d := a_law_number)) de_int (nomark _)) (ds_one (ds_raise (ci := 8) rfl T.e_InvalidRobots (hr.mono (by decide) : Room 0 _) tk (Wk.un' rfl) (de_var (i := 1) (d := a_law_thing)))) (ds_cons (ds_if (sl := fun _ : Unit => [.dat (a_law_number), .dat (a_law_thing)]) (dt_cmp op_eq r2_EqS dEqS_tot (de_var (i := 0) (d := a_law_number)) de_int (nomark _)) (ds_one (ds_raise (ci := 9) rfl T.e_InvalidPlan (hr.mono (by decide) : Room 0 _) tk (Wk.un' rfl) (de_var (i := 1) (d := a_law_thing)))) (ds_cons (ds_if (sl := fun _ : Unit => [.dat (a_law_number), .dat (a_law_thing)]) (dt_cmp op_eq r2_EqS dEqS_tot (de_var (i := 0) (d := a_law_number)) de_int (nomark _)) (ds_one (ds_raise (ci := 10) rfl T.e_InvalidTask (hr.mono (by decide) : Room 0 _) tk (Wk.un' rfl) (de_var (i := 1) (d := a_law_thing)))) (ds_cons (ds_if (sl := fun _ : Unit => [.dat (a_law_number), .dat (a_law_thing)]) (dt_cmp op_eq r2_EqS dEqS_tot (de_var (i := 0) (d := a_law_number)) de_int (nomark _)) (ds_one (ds_raise (ci := 11) rfl T.e_InvalidOrders (hr.mono (by decide) : Room 0 _) tk (Wk.un' rfl) (de_var (i := 1) (d := a_law_thing)))) (ds_cons (ds_if (sl := fun _ : Unit => [.dat (a_law_number), .dat (a_law_thing)]) (dt_cmp op_eq r2_EqS dEqS_tot (de_var (i := 0) (d := a_law_number)) de_int (nomark _)) (ds_one (ds_raise (ci := 12) rfl T.e_InvalidStanding (hr.mono (by decide) : Room 0 _) tk (Wk.un' rfl) (de_var (i := 1) (d := a_law_thing)))) (ds_cons (ds_if (sl := fun _ : Unit => [.dat (a_law_number), .dat (a_law_thing)]) (dt_cmp op_eq r2_EqS dEqS_tot (de_var (i := 0) (d := a_law_number)) de_int (nomark _)) (ds_one (ds_raise (ci := 13) rfl T.e_InvalidHolds (hr.mono (by decide) : Room 0 _) tk (Wk.un' rfl) (de_var (i := 1) (d := a_law_thing)))) (ds_cons (ds_if (sl := fun _ : Unit => [.dat (a_law_number), .dat (a_law_thing)]) (dt_cmp op_eq r2_EqS dEqS_tot (de_var (i := 0) (d := a_law_number)) de_int (nomark _)) (ds_one (ds_raise (ci := 14) rfl T.e_InvalidLetter (hr.mono (by decide) : Room 0 _) tk (Wk.un' rfl) (de_var (i := 1) (d := a_law_thing)))) (ds_nil ())) (fun (_ : Unit) => (ds_nil ())))) (fun (_ : Unit) => (ds_nil ())))) (fun (_ : Unit) => (ds_nil ())))) (fun (_ : Unit) => (ds_nil ())))) (fun (_ : Unit) => (ds_nil ())))) (fun (_ : Unit) => (ds_nil ())))) (fun (_ : Unit) => (ds_nil ())))) (fun (_ : Unit) => (ds_nil ())))) (fun (_ : Unit) => (ds_nil ())))) (fun (_ : Unit) => (ds_nil ())))) (fun (_ : Unit) => (ds_nil ())))) (fun (_ : Unit) => (ds_nil ())))) (fun (_ : Unit) => (ds_nil ())))) (fun (_ : Unit) => (ds_nil ())))) (fun (_ : Unit) => (ds_nil ()))))

abbrev N_law_raise_b : List Str := ["_law_number", "_law_thing"]
theorem sc_law_raise_b : FnScope N_law_raise_b ["_law_number", "_law_thing"] (defScope s_law_raise_b) := ⟨rfl, rfl, rfl, by decide +kernel, rfl, by decide +kernel, by decide +kernel⟩
def m_law_raise_b (a_law_number : D) (a_law_thing : D) : N D := (N.seq ((((.ok a_law_number : N D).bind fun x => (.ok (.int 15) : N D).bind fun y => dEqS x y : N D).bind N.tst : N Bool).bind fun x => if x = true then ((.ok a_law_thing : N D).bind fun d => .err 15 d) else (N.seq ((((.ok a_law_number : N D).bind fun x => (.ok (.int 16) : N D).bind fun y => dEqS x y : N D).bind N.tst : N Bool).bind fun x => if x = true then ((.ok a_law_thing : N D).bind fun d => .err 16 d) else (N.seq ((((.ok a_law_number : N D).bind fun x => (.ok (.int 17) : N D).bind fun y => dEqS x y : N D).bind N.tst : N Bool).bind fun x => if x = true then ((.ok a_law_thing : N D).bind fun d => .err 17 d) else (N.seq ((((.ok a_law_number : N D).bind fun x => (.ok (.int 18) : N D).bind fun y => dEqS x y : N D).bind N.tst : N Bool).bind fun x => if x = true then ((.ok a_law_thing : N D).bind fun d => .err 18 d) else (N.seq ((((.ok a_law_number : N D).bind fun x => (.ok (.int 19) : N D).bind fun y => dEqS x y : N D).bind N.tst : N Bool).bind fun x => if x = true then ((.ok a_law_thing : N D).bind fun d => .err 19 d) else (N.seq ((((.ok a_law_number : N D).bind fun x => (.ok (.int 20) : N D).bind fun y => dEqS x y : N D).bind N.tst : N Bool).bind fun x => if x = true then ((.ok a_law_thing : N D).bind fun d => .err 20 d) else (N.seq ((((.ok a_law_number : N D).bind fun x => (.ok (.int 21) : N D).bind fun y => dEqS x y : N D).bind N.tst : N Bool).bind fun x => if x = true then ((.ok a_law_thing : N D).bind fun d => .err 21 d) else (N.seq ((((.ok a_law_number : N D).bind fun x => (.ok (.int 22) : N D).bind fun y => dEqS x y : N D).bind N.tst : N Bool).bind fun x => if x = true then ((.ok a_law_thing : N D).bind fun d => .err 22 d) else (N.seq ((((.ok a_law_number : N D).bind fun x => (.ok (.int 23) : N D).bind fun y => dEqS x y : N D).bind N.tst : N Bool).bind fun x => if x = true then ((.ok a_law_thing : N D).bind fun d => .err 23 d) else (N.seq ((((.ok a_law_number : N D).bind fun x => (.ok (.int 24) : N D).bind fun y => dEqS x y : N D).bind N.tst : N Bool).bind fun x => if x = true then ((.ok a_law_thing : N D).bind fun d => .err 24 d) else (N.seq ((((.ok a_law_number : N D).bind fun x => (.ok (.int 25) : N D).bind fun y => dEqS x y : N D).bind N.tst : N Bool).bind fun x => if x = true then ((.ok a_law_thing : N D).bind fun d => .err 25 d) else (N.seq ((((.ok a_law_number : N D).bind fun x => (.ok (.int 26) : N D).bind fun y => dEqS x y : N D).bind N.tst : N Bool).bind fun x => if x = true then ((.ok a_law_thing : N D).bind fun d => .err 26 d) else (N.seq ((((.ok a_law_number : N D).bind fun x => (.ok (.int 27) : N D).bind fun y => dEqS x y : N D).bind N.tst : N Bool).bind fun x => if x = true then ((.ok a_law_thing : N D).bind fun d => .err 27 d) else (.ok (.nx ()))) fun (_ : Unit) => .ok (.nx ()))) fun (_ : Unit) => .ok (.nx ()))) fun (_ : Unit) => .ok (.nx ()))) fun (_ : Unit) => .ok (.nx ()))) fun (_ : Unit) => .ok (.nx ()))) fun (_ : Unit) => .ok (.nx ()))) fun (_ : Unit) => .ok (.nx ()))) fun (_ : Unit) => .ok (.nx ()))) fun (_ : Unit) => .ok (.nx ()))) fun (_ : Unit) => .ok (.nx ()))) fun (_ : Unit) => .ok (.nx ()))) fun (_ : Unit) => .ok (.nx ()))) fun (_ : Unit) => .ok (.nx ()) : N (Fl Unit Unit)).fin
theorem ok_law_raise_b {f : Addr} {fd : FuncData} (F : FunD Z.K "_law_raise_b" "_law_raise_b" (defArgs s_law_raise_b) (defBody s_law_raise_b) (defScope s_law_raise_b) [] [] f fd) (T : Txt Z mg cK fI) : FnOk P w Z.K mg base (L2.CX P w) 1 f fd ["_law_number", "_law_thing"] (spN Z 2 (app2 m_law_raise_b)) := by
  refine fn_okD (ps := ["_law_number", "_law_thing"]) F sc_law_raise_b (ar2 _) (fun cdv A outer s H E F0 ds hr tk hl => ?_)
  match ds, hl with
  | [a_law_number, a_law_thing], _ =>
    refine ⟨Unit, Unit, fun _ => [.dat (a_law_number), .dat (a_law_thing)], fun _ => [.dat (a_law_number), .dat (a_law_thing)], _, ?_, fun _ _ h => h⟩
    exact ((ds_cons (ds_if (sl := fun _ : Unit => [.dat (a_law_number), .dat (a_law_thing)]) (dt_cmp op_eq r2_EqS dEqS_tot (de_var (i := 0) (d := a_law_number)) de_int (nomark _)) (ds_one (ds_raise (ci := 15) rfl T.e_InvalidBook (hr.mono (by decide) : Room 0 _) tk (Wk.un' rfl) (de_var (i := 1) (d := a_law_thing)))) (ds_cons (ds_if (sl := fun _ : Unit => [.dat (a_law_number), .dat (a_law_thing)]) (dt_cmp op_eq r2_EqS dEqS_tot (de_var (i := 0) (d := a_law_number)) de_int (nomark _)) (ds_one (ds_raise (ci := 16) rfl T.e_InvalidScript (hr.mono (by decide) : Room 0 _) tk (Wk.un' rfl) (de_var (i := 1) (d := a_law_thing)))) (ds_cons (ds_if (sl := fun _ : Unit => [.dat (a_law_number), .dat (a_law_thing)]) (dt_cmp op_eq r2_EqS dEqS_tot (de_var (i := 0) (d := a_law_number)) de_int (nomark _)) (ds_one (ds_raise (ci := 17) rfl T.e_InvalidStretches (hr.mono (by decide) : Room 0 _) tk (Wk.un' rfl) (de_var (i := 1) (d := a_law_thing)))) (ds_cons (ds_if (sl := fun _ : Unit => [.dat (a_law_number), .dat (a_law_thing)]) (dt_cmp op_eq r2_EqS dEqS_tot (de_var (i := 0) (d := a_law_number)) de_int (nomark _)) (ds_one (ds_raise (ci := 18) rfl T.e_InvalidTable (hr.mono (by decide) : Room 0 _) tk (Wk.un' rfl) (de_var (i := 1) (d := a_law_thing)))) (ds_cons (ds_if (sl := fun _ : Unit => [.dat (a_law_number), .dat (a_law_thing)]) (dt_cmp op_eq r2_EqS dEqS_tot (de_var (i := 0) (d := a_law_number)) de_int (nomark _)) (ds_one (ds_raise (ci := 19) rfl T.e_InvalidGoods (hr.mono (by decide) : Room 0 _) tk (Wk.un' rfl) (de_var (i := 1) (d := a_law_thing)))) (ds_cons (ds_if (sl := fun _ : Unit => [.dat (a_law_number), .dat (a_law_thing)]) (dt_cmp op_eq r2_EqS dEqS_tot (de_var (i := 0) (d := a_law_number)) de_int (nomark _)) (ds_one (ds_raise (ci := 20) rfl T.e_InvalidStock (hr.mono (by decide) : Room 0 _) tk (Wk.un' rfl) (de_var (i := 1) (d := a_law_thing)))) (ds_cons (ds_if (sl := fun _ : Unit => [.dat (a_law_number), .dat (a_law_thing)]) (dt_cmp op_eq r2_EqS dEqS_tot (de_var (i := 0) (d := a_law_number)) de_int (nomark _)) (ds_one (ds_raise (ci := 21) rfl T.e_InvalidDeeds (hr.mono (by decide) : Room 0 _) tk (Wk.un' rfl) (de_var (i := 1) (d := a_law_thing)))) (ds_cons (ds_if (sl := fun _ : Unit => [.dat (a_law_number), .dat (a_law_thing)]) (dt_cmp op_eq r2_EqS dEqS_tot (de_var (i := 0) (d := a_law_number)) de_int (nomark _)) (ds_one (ds_raise (ci := 22) rfl T.e_InvalidWants (hr.mono (by decide) : Room 0 _) tk (Wk.un' rfl) (de_var (i := 1) (d := a_law_thing)))) (ds_cons (ds_if (sl := fun _ : Unit => [.dat (a_law_number), .dat (a_law_thing)]) (dt_cmp op_eq r2_EqS dEqS_tot (de_var (i := 0) (d := a_law_number)) de_int (nomark _)) (ds_one (ds_raise (ci := 23) rfl T.e_InvalidComings (hr.mono (by decide) : Room 0 _) tk (Wk.un' rfl) (de_var (i := 1) (d := a_law_thing)))) (ds_cons (ds_if (sl := fun _ : Unit => [.dat (a_law_number), .dat (a_law_thing)]) (dt_cmp op_eq r2_EqS dEqS_tot (de_var (i := 0) (d := a_law_number)) de_int (nomark _)) (ds_one (ds_raise (ci := 24) rfl T.e_InvalidLots (hr.mono (by decide) : Room 0 _) tk (Wk.un' rfl) (de_var (i := 1) (d := a_law_thing)))) (ds_cons (ds_if (sl := fun _ : Unit => [.dat (a_law_number), .dat (a_law_thing)]) (dt_cmp op_eq r2_EqS dEqS_tot (de_var (i := 0) (d := a_law_number)) de_int (nomark _)) (ds_one (ds_raise (ci := 25) rfl T.e_InvalidLines (hr.mono (by decide) : Room 0 _) tk (Wk.un' rfl) (de_var (i := 1) (d := a_law_thing)))) (ds_cons (ds_if (sl := fun _ : Unit => [.dat (a_law_number), .dat (a_law_thing)]) (dt_cmp op_eq r2_EqS dEqS_tot (de_var (i := 0) (d := a_law_number)) de_int (nomark _)) (ds_one (ds_raise (ci := 26) rfl T.e_InvalidHomes (hr.mono (by decide) : Room 0 _) tk (Wk.un' rfl) (de_var (i := 1) (d := a_law_thing)))) (ds_cons (ds_if (sl := fun _ : Unit => [.dat (a_law_number), .dat (a_law_thing)]) (dt_cmp op_eq r2_EqS dEqS_tot (de_var (i := 0) (d := a_law_number)) de_int (nomark _)) (ds_one (ds_raise (ci := 27) rfl T.e_InvalidLanes (hr.mono (by decide) : Room 0 _) tk (Wk.un' rfl) (de_var (i := 1) (d := a_law_thing)))) (ds_nil ())) (fun (_ : Unit) => (ds_nil ())))) (fun (_ : Unit) => (ds_nil ())))) (fun (_ : Unit) => (ds_nil ())))) (fun (_ : Unit) => (ds_nil ())))) (fun (_ : Unit) => (ds_nil ())))) (fun (_ : Unit) => (ds_nil ())))) (fun (_ : Unit) => (ds_nil ())))) (fun (_ : Unit) => (ds_nil ())))) (fun (_ : Unit) => (ds_nil ())))) (fun (_ : Unit) => (ds_nil ())))) (fun (_ : Unit) => (ds_nil ())))) (fun (_ : Unit) => (ds_nil ())))) (fun (_ : Unit) => (ds_nil ()))))

abbrev N_law_raise_c : List Str := ["_law_number", "_law_thing"]
theorem sc_law_raise_c : FnScope N_law_raise_c ["_law_number", "_law_thing"] (defScope s_law_raise_c) := ⟨rfl, rfl, rfl, by decide +kernel, rfl, by decide +kernel, by decide +kernel⟩
def m_law_raise_c (a_law_number : D) (a_law_thing : D) : N D := (N.seq ((((.ok a_law_number : N D).bind fun x => (.ok (.int 28) : N D).bind fun y => dEqS x y : N D).bind N.tst : N Bool).bind fun x => if x = true then ((.ok a_law_thing : N D).bind fun d => .err 28 d) else (N.seq ((((.ok a_law_number : N D).bind fun x => (.ok (.int 29) : N D).bind fun y => dEqS x y : N D).bind N.tst : N Bool).bind fun x => if x = true then ((.ok a_law_thing : N D).bind fun d => .err 29 d) else (N.seq ((((.ok a_law_number : N D).bind fun x => (.ok (.int 30) : N D).bind fun y => dEqS x y : N D).bind N.tst : N Bool).bind fun x => if x = true then ((.ok a_law_thing : N D).bind fun d => .err 30 d) else (N.seq ((((.ok a_law_number : N D).bind fun x => (.ok (.int 31) : N D).bind fun y => dEqS x y : N D).bind N.tst : N Bool).bind fun x => if x = true then ((.ok a_law_thing : N D).bind fun d => .err 31 d) else (N.seq ((((.ok a_law_number : N D).bind fun x => (.ok (.int 32) : N D).bind fun y => dEqS x y : N D).bind N.tst : N Bool).bind fun x => if x = true then ((.ok a_law_thing : N D).bind fun d => .err 32 d) else (N.seq ((((.ok a_law_number : N D).bind fun x => (.ok (.int 33) : N D).bind fun y => dEqS x y : N D).bind N.tst : N Bool).bind fun x => if x = true then ((.ok a_law_thing : N D).bind fun d => .err 33 d) else (N.seq ((((.ok a_law_number : N D).bind fun x => (.ok (.int 34) : N D).bind fun y => dEqS x y : N D).bind N.tst : N Bool).bind fun x => if x = true then ((.ok a_law_thing : N D).bind fun d => .err 34 d) else (.ok (.nx ()))) fun (_ : Unit) => .ok (.nx ()))) fun (_ : Unit) => .ok (.nx ()))) fun (_ : Unit) => .ok (.nx ()))) fun (_ : Unit) => .ok (.nx ()))) fun (_ : Unit) => .ok (.nx ()))) fun (_ : Unit) => .ok (.nx ()))) fun (_ : Unit) => .err 35 .non : N (Fl Unit Unit)).fin
theorem ok_law_raise_c {f : Addr} {fd : FuncData} (F : FunD Z.K "_law_raise_c" "_law_raise_c" (defArgs s_law_raise_c) (defBody s_law_raise_c) (defScope s_law_raise_c) [] [] f fd) (T : Txt Z mg cK fI) : FnOk P w Z.K mg base (L2.CX P w) 1 f fd ["_law_number", "_law_thing"] (spN Z 2 (app2 m_law_raise_c)) := by
  refine fn_okD (ps := ["_law_number", "_law_thing"]) F sc_law_raise_c (ar2 _) (fun cdv A outer s H E F0 ds hr tk hl => ?_)
  match ds, hl with
  | [a_law_number, a_law_thing], _ =>
    refine ⟨Unit, Unit, fun _ => [.dat (a_law_number), .dat (a_law_thing)], fun _ => [.dat (a_law_number), .dat (a_law_thing)], _, ?_, fun _ _ h => h⟩
    exact ((ds_cons (ds_if (sl := fun _ : Unit => [.dat (a_law_number), .dat (a_law_thing)]) (dt_cmp op_eq r2_EqS dEqS_tot (de_var (i := 0) (d := a_law_number)) de_int (nomark _)) (ds_one (ds_raise (ci := 28) rfl T.e_InvalidPrices (hr.mono (by decide) : Room 0 _) tk (Wk.un' rfl) (de_var (i := 1) (d := a_law_thing)))) (ds_cons (ds_if (sl := fun _ : Unit => [.dat (a_law_number), .dat (a_law_thing)]) (dt_cmp op_eq r2_EqS dEqS_tot (de_var (i := 0) (d := a_law_number)) de_int (nomark _)) (ds_one (ds_raise (ci := 29) rfl T.e_InvalidRoutes (hr.mono (by decide) : Room 0 _) tk (Wk.un' rfl) (de_var (i := 1) (d := a_law_thing)))) (ds_cons (ds_if (sl := fun _ : Unit => [.dat (a_law_number), .dat (a_law_thing)]) (dt_cmp op_eq r2_EqS dEqS_tot (de_var (i := 0) (d := a_law_number)) de_int (nomark _)) (ds_one (ds_raise (ci := 30) rfl T.e_InvalidPicture (hr.mono (by decide) : Room 0 _) tk (Wk.un' rfl) (de_var (i := 1) (d := a_law_thing)))) (ds_cons (ds_if (sl := fun _ : Unit => [.dat (a_law_number), .dat (a_law_thing)]) (dt_cmp op_eq r2_EqS dEqS_tot (de_var (i := 0) (d := a_law_number)) de_int (nomark _)) (ds_one (ds_raise (ci := 31) rfl T.e_InvalidIndex (hr.mono (by decide) : Room 0 _) tk (Wk.un' rfl) (de_var (i := 1) (d := a_law_thing)))) (ds_cons (ds_if (sl := fun _ : Unit => [.dat (a_law_number), .dat (a_law_thing)]) (dt_cmp op_eq r2_EqS dEqS_tot (de_var (i := 0) (d := a_law_number)) de_int (nomark _)) (ds_one (ds_raise (ci := 32) rfl T.e_Refused (hr.mono (by decide) : Room 0 _) tk (Wk.un' rfl) (de_var (i := 1) (d := a_law_thing)))) (ds_cons (ds_if (sl := fun _ : Unit => [.dat (a_law_number), .dat (a_law_thing)]) (dt_cmp op_eq r2_EqS dEqS_tot (de_var (i := 0) (d := a_law_number)) de_int (nomark _)) (ds_one (ds_raise (ci := 33) rfl T.e_InvalidSize (hr.mono (by decide) : Room 0 _) tk (Wk.un' rfl) (de_var (i := 1) (d := a_law_thing)))) (ds_cons (ds_if (sl := fun _ : Unit => [.dat (a_law_number), .dat (a_law_thing)]) (dt_cmp op_eq r2_EqS dEqS_tot (de_var (i := 0) (d := a_law_number)) de_int (nomark _)) (ds_one (ds_raise (ci := 34) rfl T.e_NoRobot (hr.mono (by decide) : Room 0 _) tk (Wk.un' rfl) (de_var (i := 1) (d := a_law_thing)))) (ds_nil ())) (fun (_ : Unit) => (ds_nil ())))) (fun (_ : Unit) => (ds_nil ())))) (fun (_ : Unit) => (ds_nil ())))) (fun (_ : Unit) => (ds_nil ())))) (fun (_ : Unit) => (ds_nil ())))) (fun (_ : Unit) => (ds_nil ())))) (fun (_ : Unit) => (ds_one (ds_raise0 (ci := 35) rfl tk (Wk.un' rfl) PySem.F.excBase_Exception T.f_InvalidCommand T.q_InvalidCommand T.g_InvalidCommand T.k_InvalidCommand (raises_own T.x_InvalidCommand T.t_InvalidCommand))))))

abbrev N_law_raise : List Str := ["_law_number", "_law_thing"]
theorem sc_law_raise : FnScope N_law_raise ["_law_number", "_law_thing"] (defScope s_law_raise) := ⟨rfl, rfl, rfl, by decide +kernel, rfl, by decide +kernel, by decide +kernel⟩
def m_law_raise (a_law_number : D) (a_law_thing : D) : N D := (N.seq ((((.ok a_law_number : N D).bind fun x => (.ok (.int 15) : N D).bind fun y => dLt x y : N D).bind N.tst : N Bool).bind fun x => if x = true then (N.seq (((.ok a_law_number : N D).bind fun x => (.ok a_law_thing : N D).bind fun y => m_law_raise_a x y : N D).bind fun _ => .ok (.nx ())) fun (_ : Unit) => .ok (.nx ())) else (N.seq ((((.ok a_law_number : N D).bind fun x => (.ok (.int 28) : N D).bind fun y => dLt x y : N D).bind N.tst : N Bool).bind fun x => if x = true then (N.seq (((.ok a_law_number : N D).bind fun x => (.ok a_law_thing : N D).bind fun y => m_law_raise_b x y : N D).bind fun _ => .ok (.nx ())) fun (_ : Unit) => .ok (.nx ())) else (N.seq (((.ok a_law_number : N D).bind fun x => (.ok a_law_thing : N D).bind fun y => m_law_raise_c x y : N D).bind fun _ => .ok (.nx ())) fun (_ : Unit) => .ok (.nx ()))) fun (_ : Unit) => .ok (.nx ()))) fun (_ : Unit) => .ok (.nx ()) : N (Fl Unit Unit)).fin
theorem ok_law_raise {f : Addr} {fd : FuncData} (F : FunD Z.K "_law_raise" "_law_raise" (defArgs s_law_raise) (defBody s_law_raise) (defScope s_law_raise) [] [] f fd) (T : Txt Z mg cK fI) (C_law_raise_a : Df P w Z mg base "_law_raise_a" 1 2 (app2 m_law_raise_a)) (C_law_raise_b : Df P w Z mg base "_law_raise_b" 1 2 (app2 m_law_raise_b)) (C_law_raise_c : Df P w Z mg base "_law_raise_c" 1 2 (app2 m_law_raise_c)) : FnOk P w Z.K mg base (L2.CX P w) 2 f fd ["_law_number", "_law_thing"] (spN Z 2 (app2 m_law_raise)) := by
  refine fn_okD (ps := ["_law_number", "_law_thing"]) F sc_law_raise (ar2 _) (fun cdv A outer s H E F0 ds hr tk hl => ?_)
  match ds, hl with
  | [a_law_number, a_law_thing], _ =>
    refine ⟨Unit, Unit, fun _ => [.dat (a_law_number), .dat (a_law_thing)], fun _ => [.dat (a_law_number), .dat (a_law_thing)], _, ?_, fun _ _ h => h⟩
    exact ((ds_cons (ds_if (sl := fun _ : Unit => [.dat (a_law_number), .dat (a_law_thing)]) (dt_cmp op_lt (r2_I0 fun _ _ _ => .bl _) (iOp_tot _) (de_var (i := 0) (d := a_law_number)) de_int (nomark _)) (ds_cons (ds_expr (de_call2 (Df.cal C_law_raise_a (hr.mono (by decide))) tk (Wk.un' rfl) (de_var (i := 0) (d := a_law_number)) (de_var (i := 1) (d := a_law_thing)))) (fun (_ : Unit) => (ds_nil ()))) (ds_cons (ds_if (sl := fun _ : Unit => [.dat (a_law_number), .dat (a_law_thing)]) (dt_cmp op_lt (r2_I0 fun _ _ _ => .bl _) (iOp_tot _) (de_var (i := 0) (d := a_law_number)) de_int (nomark _)) (ds_cons (ds_expr (de_call2 (Df.cal C_law_raise_b (hr.mono (by decide))) tk (Wk.un' rfl) (de_var (i := 0) (d := a_law_number)) (de_var (i := 1) (d := a_law_thing)))) (fun (_ : Unit) => (ds_nil ()))) (ds_cons (ds_expr (de_call2 (Df.cal C_law_raise_c (hr.mono (by decide))) tk (Wk.un' rfl) (de_var (i := 0) (d := a_law_number)) (de_var (i := 1) (d := a_law_thing)))) (fun (_ : Unit) => (ds_nil ())))) (fun (_ : Unit) => (ds_nil ())))) (fun (_ : Unit) => (ds_nil ()))))

abbrev N_law_caught_a : List Str := ["_law_number", "_law_thing", "e"]
theorem sc_law_caught_a : FnScope N_law_caught_a ["_law_number", "_law_thing"] (defScope s_law_caught_a) := ⟨rfl, rfl, rfl, by decide +kernel, rfl, by decide +kernel, by decide +kernel⟩
def m_law_caught_a (a_law_number : D) (a_law_thing : D) : N D := (N.seq ((N.seq (((.ok a_law_number : N D).bind fun x => (.ok a_law_thing : N D).bind fun y => m_law_raise x y : N D).bind fun _ => .ok (.nx ())) fun (_ : Unit) => .ok (.nx ()) : N (Fl Unit Unit)).tryC fun c x => handle exT 36 c x [⟨0, some 2, fun x1 => (((.ok (.int 0) : N D).bind fun x => ((.ok x1 : N D).bind fun x => (.ok [] : N (List D)).bind fun xs => .ok (x :: xs) : N (List D)).bind fun xs => .ok (x :: xs) : N (List D)).bind fun xs => (N.le1 xs).bind fun _ => .ok (.tup xs) : N D).bind fun d => .ok (.rt d)⟩, ⟨1, some 2, fun x2 => (((.ok (.int 1) : N D).bind fun x => ((.ok x2 : N D).bind fun x => (.ok [] : N (List D)).bind fun xs => .ok (x :: xs) : N (List D)).bind fun xs => .ok (x :: xs) : N (List D)).bind fun xs => (N.le1 xs).bind fun _ => .ok (.tup xs) : N D).bind fun d => .ok (.rt d)⟩, ⟨2, some 2, fun x3 => (((.ok (.int 2) : N D).bind fun x => ((.ok x3 : N D).bind fun x => (.ok [] : N (List D)).bind fun xs => .ok (x :: xs) : N (List D)).bind fun xs => .ok (x :: xs) : N (List D)).bind fun xs => (N.le1 xs).bind fun _ => .ok (.tup xs) : N D).bind fun d => .ok (.rt d)⟩, ⟨3, some 2, fun x4 => (((.ok (.int 3) : N D).bind fun x => ((.ok x4 : N D).bind fun x => (.ok [] : N (List D)).bind fun xs => .ok (x :: xs) : N (List D)).bind fun xs => .ok (x :: xs) : N (List D)).bind fun xs => (N.le1 xs).bind fun _ => .ok (.tup xs) : N D).bind fun d => .ok (.rt d)⟩, ⟨4, some 2, fun x5 => (((.ok (.int 4) : N D).bind fun x => ((.ok x5 : N D).bind fun x => (.ok [] : N (List D)).bind fun xs => .ok (x :: xs) : N (List D)).bind fun xs => .ok (x :: xs) : N (List D)).bind fun xs => (N.le1 xs).bind fun _ => .ok (.tup xs) : N D).bind fun d => .ok (.rt d)⟩, ⟨5, some 2, fun x6 => (((.ok (.int 5) : N D).bind fun x => ((.ok x6 : N D).bind fun x => (.ok [] : N (List D)).bind fun xs => .ok (x :: xs) : N (List D)).bind fun xs => .ok (x :: xs) : N (List D)).bind fun xs => (N.le1 xs).bind fun _ => .ok (.tup xs) : N D).bind fun d => .ok (.rt d)⟩, ⟨6, some 2, fun x7 => (((.ok (.int 6) : N D).bind fun x => ((.ok x7 : N D).bind fun x => (.ok [] : N (List D)).bind fun xs => .ok (x :: xs) : N (List D)).bind fun xs => .ok (x :: xs) : N (List D)).bind fun xs => (N.le1 xs).bind fun _ => .ok (.tup xs) : N D).bind fun d => .ok (.rt d)⟩, ⟨7, some 2, fun x8 => (((.ok (.int 7) : N D).bind fun x => ((.ok x8 : N D).bind fun x => (.ok [] : N (List D)).bind fun xs => .ok (x :: xs) : N (List D)).bind fun xs => .ok (x :: xs) : N (List D)).bind fun xs => (N.le1 xs).bind fun _ => .ok (.tup xs) : N D).bind fun d => .ok (.rt d)⟩, ⟨8, some 2, fun x9 => (((.ok (.int 8) : N D).bind fun x => ((.ok x9 : N D).bind fun x => (.ok [] : N (List D)).bind fun xs => .ok (x :: xs) : N (List D)).bind fun xs => .ok (x :: xs) : N (List D)).bind fun xs => (N.le1 xs).bind fun _ => .ok (.tup xs) : N D).bind fun d => .ok (.rt d)⟩, ⟨9, some 2, fun x10 => (((.ok (.int 9) : N D).bind fun x => ((.ok x10 : N D).bind fun x => (.ok [] : N (List D)).bind fun xs => .ok (x :: xs) : N (List D)).bind fun xs => .ok (x :: xs) : N (List D)).bind fun xs => (N.le1 xs).bind fun _ => .ok (.tup xs) : N D).bind fun d => .ok (.rt d)⟩, ⟨10, some 2, fun x11 => (((.ok (.int 10) : N D).bind fun x => ((.ok x11 : N D).bind fun x => (.ok [] : N (List D)).bind fun xs => .ok (x :: xs) : N (List D)).bind fun xs => .ok (x :: xs) : N (List D)).bind fun xs => (N.le1 xs).bind fun _ => .ok (.tup xs) : N D).bind fun d => .ok (.rt d)⟩, ⟨11, some 2, fun x12 => (((.ok (.int 11) : N D).bind fun x => ((.ok x12 : N D).bind fun x => (.ok [] : N (List D)).bind fun xs => .ok (x :: xs) : N (List D)).bind fun xs => .ok (x :: xs) : N (List D)).bind fun xs => (N.le1 xs).bind fun _ => .ok (.tup xs) : N D).bind fun d => .ok (.rt d)⟩, ⟨12, some 2, fun x13 => (((.ok (.int 12) : N D).bind fun x => ((.ok x13 : N D).bind fun x => (.ok [] : N (List D)).bind fun xs => .ok (x :: xs) : N (List D)).bind fun xs => .ok (x :: xs) : N (List D)).bind fun xs => (N.le1 xs).bind fun _ => .ok (.tup xs) : N D).bind fun d => .ok (.rt d)⟩, ⟨13, some 2, fun x14 => (((.ok (.int 13) : N D).bind fun x => ((.ok x14 : N D).bind fun x => (.ok [] : N (List D)).bind fun xs => .ok (x :: xs) : N (List D)).bind fun xs => .ok (x :: xs) : N (List D)).bind fun xs => (N.le1 xs).bind fun _ => .ok (.tup xs) : N D).bind fun d => .ok (.rt d)⟩, ⟨14, some 2, fun x15 => (((.ok (.int 14) : N D).bind fun x => ((.ok x15 : N D).bind fun x => (.ok [] : N (List D)).bind fun xs => .ok (x :: xs) : N (List D)).bind fun xs => .ok (x :: xs) : N (List D)).bind fun xs => (N.le1 xs).bind fun _ => .ok (.tup xs) : N D).bind fun d => .ok (.rt d)⟩]) fun (_ : Unit) => (.ok .non : N D).bind fun d => .ok (.rt d) : N (Fl Unit Unit)).fin
theorem ok_law_caught_a {f : Addr} {fd : FuncData} (F : FunD Z.K "_law_caught_a" "_law_caught_a" (defArgs s_law_caught_a) (defBody s_law_caught_a) (defScope s_law_caught_a) [] [] f fd) (T : Txt Z mg cK fI) (C_law_raise : Df P w Z mg base "_law_raise" 2 2 (app2 m_law_raise)) : FnOk P w Z.K mg base (L2.CX P w) 3 f fd ["_law_number", "_law_thing"] (spN Z 2 (app2 m_law_caught_a)) := by
  refine fn_okD (ps := ["_law_number", "_law_thing"]) F sc_law_caught_a (ar2 _) (fun cdv A outer s H E F0 ds hr tk hl => ?_)
  match ds, hl with
  | [a_law_number, a_law_thing], _ =>
    refine ⟨Unit, Unit, fun _ => [.dat (a_law_number), .dat (a_law_thing), .un], fun _ => [.dat (a_law_number), .dat (a_law_thing), .un], _, ?_, fun _ _ h => h⟩
    exact ((ds_cons (ds_try (sl := fun _ : Unit => [.dat (a_law_number), .dat (a_law_thing), .un]) (sb := fun _ : Unit => [.dat (a_law_number), .dat (a_law_thing), .un]) (Sh := [.dat (a_law_number), .dat (a_law_thing), .un]) rfl rfl sc_law_caught_a.nd tk rfl (Wk.un' rfl) (.cons ⟨rfl, by decide, .inl T.e_InvalidText.gC⟩ ⟨rfl, rfl⟩ (fun i hi => by cases hi; exact Nat.le_of_ble_eq_true rfl) (fun c hc => T.ex c _ hc (Nat.le_of_ble_eq_true rfl)) (fun a oe c d pn x1 hc he hz hf => (ds_one (ds_ret (de_tup (da_cons de_int (da_cons (de_exc (i := 2) rfl (fun C hC => by cases hC; exact T.eT_InvalidText c he) ⟨_, rfl⟩ hz hf rfl (T.hx_InvalidText_at c he)) da_nil)))))) (fun i t hi => by cases hi; rfl) (fun i t hi => by cases hi; rfl) (.cons ⟨rfl, by decide, .inl T.e_InvalidHall.gC⟩ ⟨rfl, rfl⟩ (fun i hi => by cases hi; exact Nat.le_of_ble_eq_true rfl) (fun c hc => T.ex c _ hc (Nat.le_of_ble_eq_true rfl)) (fun a oe c d pn x2 hc he hz hf => (ds_one (ds_ret (de_tup (da_cons de_int (da_cons (de_exc (i := 2) rfl (fun C hC => by cases hC; exact T.eT_InvalidHall c he) ⟨_, rfl⟩ hz hf rfl (T.hx_InvalidHall_at c he)) da_nil)))))) (fun i t hi => by cases hi; rfl) (fun i t hi => by cases hi; rfl) (.cons ⟨rfl, by decide, .inl T.e_InvalidCell.gC⟩ ⟨rfl, rfl⟩ (fun i hi => by cases hi; exact Nat.le_of_ble_eq_true rfl) (fun c hc => T.ex c _ hc (Nat.le_of_ble_eq_true rfl)) (fun a oe c d pn x3 hc he hz hf => (ds_one (ds_ret (de_tup (da_cons de_int (da_cons (de_exc (i := 2) rfl (fun C hC => by cases hC; exact T.eT_InvalidCell c he) ⟨_, rfl⟩ hz hf rfl (T.hx_InvalidCell_at c he)) da_nil)))))) (fun i t hi => by cases hi; rfl) (fun i t hi => by cases hi; rfl) (.cons ⟨rfl, by decide, .inl T.e_InvalidLot.gC⟩ ⟨rfl, rfl⟩ (fun i hi => by cases hi; exact Nat.le_of_ble_eq_true rfl) (fun c hc => T.ex c _ hc (Nat.le_of_ble_eq_true rfl)) (fun a oe c d pn x4 hc he hz hf => (ds_one (ds_ret (de_tup (da_cons de_int (da_cons (de_exc (i := 2) rfl (fun C hC => by cases hC; exact T.eT_InvalidLot c he) ⟨_, rfl⟩ hz hf rfl (T.hx_InvalidLot_at c he)) da_nil)))))) (fun i t hi => by cases hi; rfl) (fun i t hi => by cases hi; rfl) (.cons ⟨rfl, by decide, .inl T.e_InvalidWays.gC⟩ ⟨rfl, rfl⟩ (fun i hi => by cases hi; exact Nat.le_of_ble_eq_true rfl) (fun c hc => T.ex c _ hc (Nat.le_of_ble_eq_true rfl)) (fun a oe c d pn x5 hc he hz hf => (ds_one (ds_ret (de_tup (da_cons de_int (da_cons (de_exc (i := 2) rfl (fun C hC => by cases hC; exact T.eT_InvalidWays c he) ⟨_, rfl⟩ hz hf rfl (T.hx_InvalidWays_at c he)) da_nil)))))) (fun i t hi => by cases hi; rfl) (fun i t hi => by cases hi; rfl) (.cons ⟨rfl, by decide, .inl T.e_InvalidWay.gC⟩ ⟨rfl, rfl⟩ (fun i hi => by cases hi; exact Nat.le_of_ble_eq_true rfl) (fun c hc => T.ex c _ hc (Nat.le_of_ble_eq_true rfl)) (fun a oe c d pn x6 hc he hz hf => (ds_one (ds_ret (de_tup (da_cons de_int (da_cons (de_exc (i := 2) rfl (fun C hC => by cases hC; exact T.eT_InvalidWay c he) ⟨_, rfl⟩ hz hf rfl (T.hx_InvalidWay_at c he)) da_nil)))))) (fun i t hi => by cases hi; rfl) (fun i t hi => by cases hi; rfl) (.cons ⟨rfl, by decide, .inl T.e_InvalidTies.gC⟩ ⟨rfl, rfl⟩ (fun i hi => by cases hi; exact Nat.le_of_ble_eq_true rfl) (fun c hc => T.ex c _ hc (Nat.le_of_ble_eq_true rfl)) (fun a oe c d pn x7 hc he hz hf => (ds_one (ds_ret (de_tup (da_cons de_int (da_cons (de_exc (i := 2) rfl (fun C hC => by cases hC; exact T.eT_InvalidTies c he) ⟨_, rfl⟩ hz hf rfl (T.hx_InvalidTies_at c he)) da_nil)))))) (fun i t hi => by cases hi; rfl) (fun i t hi => by cases hi; rfl) (.cons ⟨rfl, by decide, .inl T.e_InvalidBlocks.gC⟩ ⟨rfl, rfl⟩ (fun i hi => by cases hi; exact Nat.le_of_ble_eq_true rfl) (fun c hc => T.ex c _ hc (Nat.le_of_ble_eq_true rfl)) (fun a oe c d pn x8 hc he hz hf => (ds_one (ds_ret (de_tup (da_cons de_int (da_cons (de_exc (i := 2) rfl (fun C hC => by cases hC; exact T.eT_InvalidBlocks c he) ⟨_, rfl⟩ hz hf rfl (T.hx_InvalidBlocks_at c he)) da_nil)))))) (fun i t hi => by cases hi; rfl) (fun i t hi => by cases hi; rfl) (.cons ⟨rfl, by decide, .inl T.e_InvalidRobots.gC⟩ ⟨rfl, rfl⟩ (fun i hi => by cases hi; exact Nat.le_of_ble_eq_true rfl) (fun c hc => T.ex c _ hc (Nat.le_of_ble_eq_true rfl)) (fun a oe c d pn x9 hc he hz hf => (ds_one (ds_ret (de_tup (da_cons de_int (da_cons (de_exc (i := 2) rfl (fun C hC => by cases hC; exact T.eT_InvalidRobots c he) ⟨_, rfl⟩ hz hf rfl (T.hx_InvalidRobots_at c he)) da_nil)))))) (fun i t hi => by cases hi; rfl) (fun i t hi => by cases hi; rfl) (.cons ⟨rfl, by decide, .inl T.e_InvalidPlan.gC⟩ ⟨rfl, rfl⟩ (fun i hi => by cases hi; exact Nat.le_of_ble_eq_true rfl) (fun c hc => T.ex c _ hc (Nat.le_of_ble_eq_true rfl)) (fun a oe c d pn x10 hc he hz hf => (ds_one (ds_ret (de_tup (da_cons de_int (da_cons (de_exc (i := 2) rfl (fun C hC => by cases hC; exact T.eT_InvalidPlan c he) ⟨_, rfl⟩ hz hf rfl (T.hx_InvalidPlan_at c he)) da_nil)))))) (fun i t hi => by cases hi; rfl) (fun i t hi => by cases hi; rfl) (.cons ⟨rfl, by decide, .inl T.e_InvalidTask.gC⟩ ⟨rfl, rfl⟩ (fun i hi => by cases hi; exact Nat.le_of_ble_eq_true rfl) (fun c hc => T.ex c _ hc (Nat.le_of_ble_eq_true rfl)) (fun a oe c d pn x11 hc he hz hf => (ds_one (ds_ret (de_tup (da_cons de_int (da_cons (de_exc (i := 2) rfl (fun C hC => by cases hC; exact T.eT_InvalidTask c he) ⟨_, rfl⟩ hz hf rfl (T.hx_InvalidTask_at c he)) da_nil)))))) (fun i t hi => by cases hi; rfl) (fun i t hi => by cases hi; rfl) (.cons ⟨rfl, by decide, .inl T.e_InvalidOrders.gC⟩ ⟨rfl, rfl⟩ (fun i hi => by cases hi; exact Nat.le_of_ble_eq_true rfl) (fun c hc => T.ex c _ hc (Nat.le_of_ble_eq_true rfl)) (fun a oe c d pn x12 hc he hz hf => (ds_one (ds_ret (de_tup (da_cons de_int (da_cons (de_exc (i := 2) rfl (fun C hC => by cases hC; exact T.eT_InvalidOrders c he) ⟨_, rfl⟩ hz hf rfl (T.hx_InvalidOrders_at c he)) da_nil)))))) (fun i t hi => by cases hi; rfl) (fun i t hi => by cases hi; rfl) (.cons ⟨rfl, by decide, .inl T.e_InvalidStanding.gC⟩ ⟨rfl, rfl⟩ (fun i hi => by cases hi; exact Nat.le_of_ble_eq_true rfl) (fun c hc => T.ex c _ hc (Nat.le_of_ble_eq_true rfl)) (fun a oe c d pn x13 hc he hz hf => (ds_one (ds_ret (de_tup (da_cons de_int (da_cons (de_exc (i := 2) rfl (fun C hC => by cases hC; exact T.eT_InvalidStanding c he) ⟨_, rfl⟩ hz hf rfl (T.hx_InvalidStanding_at c he)) da_nil)))))) (fun i t hi => by cases hi; rfl) (fun i t hi => by cases hi; rfl) (.cons ⟨rfl, by decide, .inl T.e_InvalidHolds.gC⟩ ⟨rfl, rfl⟩ (fun i hi => by cases hi; exact Nat.le_of_ble_eq_true rfl) (fun c hc => T.ex c _ hc (Nat.le_of_ble_eq_true rfl)) (fun a oe c d pn x14 hc he hz hf => (ds_one (ds_ret (de_tup (da_cons de_int (da_cons (de_exc (i := 2) rfl (fun C hC => by cases hC; exact T.eT_InvalidHolds c he) ⟨_, rfl⟩ hz hf rfl (T.hx_InvalidHolds_at c he)) da_nil)))))) (fun i t hi => by cases hi; rfl) (fun i t hi => by cases hi; rfl) (.cons ⟨rfl, by decide, .inl T.e_InvalidLetter.gC⟩ ⟨rfl, rfl⟩ (fun i hi => by cases hi; exact Nat.le_of_ble_eq_true rfl) (fun c hc => T.ex c _ hc (Nat.le_of_ble_eq_true rfl)) (fun a oe c d pn x15 hc he hz hf => (ds_one (ds_ret (de_tup (da_cons de_int (da_cons (de_exc (i := 2) rfl (fun C hC => by cases hC; exact T.eT_InvalidLetter c he) ⟨_, rfl⟩ hz hf rfl (T.hx_InvalidLetter_at c he)) da_nil)))))) (fun i t hi => by cases hi; rfl) (fun i t hi => by cases hi; rfl) .nil))))))))))))))) (fun F0 W pn xe tk po => (ds_cons (ds_expr (de_call2 (Df.cal C_law_raise (hr.mono (by decide))) tk (by repeat (first | exact Wk.nil | exact Wk.same (Wk.refl _) | apply Wk.same | apply Wk.un)) (de_var (i := 0) (d := a_law_number)) (de_var (i := 1) (d := a_law_thing)))) (fun (_ : Unit) => (ds_nil ()))))) (fun (_ : Unit) => (ds_one (ds_ret de_non)))))

abbrev N_law_caught_b : List Str := ["_law_number", "_law_thing", "e"]
theorem sc_law_caught_b : FnScope N_law_caught_b ["_law_number", "_law_thing"] (defScope s_law_caught_b) := ⟨rfl, rfl, rfl, by decide +kernel, rfl, by decide +kernel, by decide +kernel⟩
def m_law_caught_b (a_law_number : D) (a_law_thing : D) : N D := (N.seq ((((.ok a_law_number : N D).bind fun x => (.ok a_law_thing : N D).bind fun y => m_law_caught_a x y : N D).bind fun d => .ok (.rt d) : N (Fl Unit Unit)).tryC fun c x => handle exT 36 c x [⟨15, some 2, fun x1 => (((.ok (.int 15) : N D).bind fun x => ((.ok x1 : N D).bind fun x => (.ok [] : N (List D)).bind fun xs => .ok (x :: xs) : N (List D)).bind fun xs => .ok (x :: xs) : N (List D)).bind fun xs => (N.le1 xs).bind fun _ => .ok (.tup xs) : N D).bind fun d => .ok (.rt d)⟩, ⟨16, some 2, fun x2 => (((.ok (.int 16) : N D).bind fun x => ((.ok x2 : N D).bind fun x => (.ok [] : N (List D)).bind fun xs => .ok (x :: xs) : N (List D)).bind fun xs => .ok (x :: xs) : N (List D)).bind fun xs => (N.le1 xs).bind fun _ => .ok (.tup xs) : N D).bind fun d => .ok (.rt d)⟩, ⟨17, some 2, fun x3 => (((.ok (.int 17) : N D).bind fun x => ((.ok x3 : N D).bind fun x => (.ok [] : N (List D)).bind fun xs => .ok (x :: xs) : N (List D)).bind fun xs => .ok (x :: xs) : N (List D)).bind fun xs => (N.le1 xs).bind fun _ => .ok (.tup xs) : N D).bind fun d => .ok (.rt d)⟩, ⟨18, some 2, fun x4 => (((.ok (.int 18) : N D).bind fun x => ((.ok x4 : N D).bind fun x => (.ok [] : N (List D)).bind fun xs => .ok (x :: xs) : N (List D)).bind fun xs => .ok (x :: xs) : N (List D)).bind fun xs => (N.le1 xs).bind fun _ => .ok (.tup xs) : N D).bind fun d => .ok (.rt d)⟩, ⟨19, some 2, fun x5 => (((.ok (.int 19) : N D).bind fun x => ((.ok x5 : N D).bind fun x => (.ok [] : N (List D)).bind fun xs => .ok (x :: xs) : N (List D)).bind fun xs => .ok (x :: xs) : N (List D)).bind fun xs => (N.le1 xs).bind fun _ => .ok (.tup xs) : N D).bind fun d => .ok (.rt d)⟩, ⟨20, some 2, fun x6 => (((.ok (.int 20) : N D).bind fun x => ((.ok x6 : N D).bind fun x => (.ok [] : N (List D)).bind fun xs => .ok (x :: xs) : N (List D)).bind fun xs => .ok (x :: xs) : N (List D)).bind fun xs => (N.le1 xs).bind fun _ => .ok (.tup xs) : N D).bind fun d => .ok (.rt d)⟩, ⟨21, some 2, fun x7 => (((.ok (.int 21) : N D).bind fun x => ((.ok x7 : N D).bind fun x => (.ok [] : N (List D)).bind fun xs => .ok (x :: xs) : N (List D)).bind fun xs => .ok (x :: xs) : N (List D)).bind fun xs => (N.le1 xs).bind fun _ => .ok (.tup xs) : N D).bind fun d => .ok (.rt d)⟩, ⟨22, some 2, fun x8 => (((.ok (.int 22) : N D).bind fun x => ((.ok x8 : N D).bind fun x => (.ok [] : N (List D)).bind fun xs => .ok (x :: xs) : N (List D)).bind fun xs => .ok (x :: xs) : N (List D)).bind fun xs => (N.le1 xs).bind fun _ => .ok (.tup xs) : N D).bind fun d => .ok (.rt d)⟩, ⟨23, some 2, fun x9 => (((.ok (.int 23) : N D).bind fun x => ((.ok x9 : N D).bind fun x => (.ok [] : N (List D)).bind fun xs => .ok (x :: xs) : N (List D)).bind fun xs => .ok (x :: xs) : N (List D)).bind fun xs => (N.le1 xs).bind fun _ => .ok (.tup xs) : N D).bind fun d => .ok (.rt d)⟩, ⟨24, some 2, fun x10 => (((.ok (.int 24) : N D).bind fun x => ((.ok x10 : N D).bind fun x => (.ok [] : N (List D)).bind fun xs => .ok (x :: xs) : N (List D)).bind fun xs => .ok (x :: xs) : N (List D)).bind fun xs => (N.le1 xs).bind fun _ => .ok (.tup xs) : N D).bind fun d => .ok (.rt d)⟩, ⟨25, some 2, fun x11 => (((.ok (.int 25) : N D).bind fun x => ((.ok x11 : N D).bind fun x => (.ok [] : N (List D)).bind fun xs => .ok (x :: xs) : N (List D)).bind fun xs => .ok (x :: xs) : N (List D)).bind fun xs => (N.le1 xs).bind fun _ => .ok (.tup xs) : N D).bind fun d => .ok (.rt d)⟩, ⟨26, some 2, fun x12 => (((.ok (.int 26) : N D).bind fun x => ((.ok x12 : N D).bind fun x => (.ok [] : N (List D)).bind fun xs => .ok (x :: xs) : N (List D)).bind fun xs => .ok (x :: xs) : N (List D)).bind fun xs => (N.le1 xs).bind fun _ => .ok (.tup xs) : N D).bind fun d => .ok (.rt d)⟩, ⟨27, some 2, fun x13 => (((.ok (.int 27) : N D).bind fun x => ((.ok x13 : N D).bind fun x => (.ok [] : N (List D)).bind fun xs => .ok (x :: xs) : N (List D)).bind fun xs => .ok (x :: xs) : N (List D)).bind fun xs => (N.le1 xs).bind fun _ => .ok (.tup xs) : N D).bind fun d => .ok (.rt d)⟩]) fun (_ : Unit) => (.ok .non : N D).bind fun d => .ok (.rt d) : N (Fl Unit Unit)).fin
theorem ok_law_caught_b {f : Addr} {fd : FuncData} (F : FunD Z.K "_law_caught_b" "_law_caught_b" (defArgs s_law_caught_b) (defBody s_law_caught_b) (defScope s_law_caught_b) [] [] f fd) (T : Txt Z mg cK fI) (C_law_caught_a : Df P w Z mg base "_law_caught_a" 3 2 (app2 m_law_caught_a)) : FnOk P w Z.K mg base (L2.CX P w) 4 f fd ["_law_number", "_law_thing"] (spN Z 2 (app2 m_law_caught_b)) := by
  refine fn_okD (ps := ["_law_number", "_law_thing"]) F sc_law_caught_b (ar2 _) (fun cdv A outer s H E F0 ds hr tk hl => ?_)
  match ds, hl with
  | [a_law_number, a_law_thing], _ =>
    refine ⟨Unit, Unit, fun _ => [.dat (a_law_number), .dat (a_law_thing), .un], fun _ => [.dat (a_law_number), .dat (a_law_thing), .un], _, ?_, fun _ _ h => h⟩
    exact ((ds_cons (ds_try (sl := fun _ : Unit => [.dat (a_law_number), .dat (a_law_thing), .un]) (sb := fun _ : Unit => [.dat (a_law_number), .dat (a_law_thing), .un]) (Sh := [.dat (a_law_number), .dat (a_law_thing), .un]) rfl rfl sc_law_caught_b.nd tk rfl (Wk.un' rfl) (.cons ⟨rfl, by decide, .inl T.e_InvalidBook.gC⟩ ⟨rfl, rfl⟩ (fun i hi => by cases hi; exact Nat.le_of_ble_eq_true rfl) (fun c hc => T.ex c _ hc (Nat.le_of_ble_eq_true rfl)) (fun a oe c d pn x1 hc he hz hf => (ds_one (ds_ret (de_tup (da_cons de_int (da_cons (de_exc (i := 2) rfl (fun C hC => by cases hC; exact T.eT_InvalidBook c he) ⟨_, rfl⟩ hz hf rfl (T.hx_InvalidBook_at c he)) da_nil)))))) (fun i t hi => by cases hi; rfl) (fun i t hi => by cases hi; rfl) (.cons ⟨rfl, by decide, .inl T.e_InvalidScript.gC⟩ ⟨rfl, rfl⟩ (fun i hi => by cases hi; exact Nat.le_of_ble_eq_true rfl) (fun c hc => T.ex c _ hc (Nat.le_of_ble_eq_true rfl)) (fun a oe c d pn x2 hc he hz hf => (ds_one (ds_ret (de_tup (da_cons de_int (da_cons (de_exc (i := 2) rfl (fun C hC => by cases hC; exact T.eT_InvalidScript c he) ⟨_, rfl⟩ hz hf rfl (T.hx_InvalidScript_at c he)) da_nil)))))) (fun i t hi => by cases hi; rfl) (fun i t hi => by cases hi; rfl) (.cons ⟨rfl, by decide, .inl T.e_InvalidStretches.gC⟩ ⟨rfl, rfl⟩ (fun i hi => by cases hi; exact Nat.le_of_ble_eq_true rfl) (fun c hc => T.ex c _ hc (Nat.le_of_ble_eq_true rfl)) (fun a oe c d pn x3 hc he hz hf => (ds_one (ds_ret (de_tup (da_cons de_int (da_cons (de_exc (i := 2) rfl (fun C hC => by cases hC; exact T.eT_InvalidStretches c he) ⟨_, rfl⟩ hz hf rfl (T.hx_InvalidStretches_at c he)) da_nil)))))) (fun i t hi => by cases hi; rfl) (fun i t hi => by cases hi; rfl) (.cons ⟨rfl, by decide, .inl T.e_InvalidTable.gC⟩ ⟨rfl, rfl⟩ (fun i hi => by cases hi; exact Nat.le_of_ble_eq_true rfl) (fun c hc => T.ex c _ hc (Nat.le_of_ble_eq_true rfl)) (fun a oe c d pn x4 hc he hz hf => (ds_one (ds_ret (de_tup (da_cons de_int (da_cons (de_exc (i := 2) rfl (fun C hC => by cases hC; exact T.eT_InvalidTable c he) ⟨_, rfl⟩ hz hf rfl (T.hx_InvalidTable_at c he)) da_nil)))))) (fun i t hi => by cases hi; rfl) (fun i t hi => by cases hi; rfl) (.cons ⟨rfl, by decide, .inl T.e_InvalidGoods.gC⟩ ⟨rfl, rfl⟩ (fun i hi => by cases hi; exact Nat.le_of_ble_eq_true rfl) (fun c hc => T.ex c _ hc (Nat.le_of_ble_eq_true rfl)) (fun a oe c d pn x5 hc he hz hf => (ds_one (ds_ret (de_tup (da_cons de_int (da_cons (de_exc (i := 2) rfl (fun C hC => by cases hC; exact T.eT_InvalidGoods c he) ⟨_, rfl⟩ hz hf rfl (T.hx_InvalidGoods_at c he)) da_nil)))))) (fun i t hi => by cases hi; rfl) (fun i t hi => by cases hi; rfl) (.cons ⟨rfl, by decide, .inl T.e_InvalidStock.gC⟩ ⟨rfl, rfl⟩ (fun i hi => by cases hi; exact Nat.le_of_ble_eq_true rfl) (fun c hc => T.ex c _ hc (Nat.le_of_ble_eq_true rfl)) (fun a oe c d pn x6 hc he hz hf => (ds_one (ds_ret (de_tup (da_cons de_int (da_cons (de_exc (i := 2) rfl (fun C hC => by cases hC; exact T.eT_InvalidStock c he) ⟨_, rfl⟩ hz hf rfl (T.hx_InvalidStock_at c he)) da_nil)))))) (fun i t hi => by cases hi; rfl) (fun i t hi => by cases hi; rfl) (.cons ⟨rfl, by decide, .inl T.e_InvalidDeeds.gC⟩ ⟨rfl, rfl⟩ (fun i hi => by cases hi; exact Nat.le_of_ble_eq_true rfl) (fun c hc => T.ex c _ hc (Nat.le_of_ble_eq_true rfl)) (fun a oe c d pn x7 hc he hz hf => (ds_one (ds_ret (de_tup (da_cons de_int (da_cons (de_exc (i := 2) rfl (fun C hC => by cases hC; exact T.eT_InvalidDeeds c he) ⟨_, rfl⟩ hz hf rfl (T.hx_InvalidDeeds_at c he)) da_nil)))))) (fun i t hi => by cases hi; rfl) (fun i t hi => by cases hi; rfl) (.cons ⟨rfl, by decide, .inl T.e_InvalidWants.gC⟩ ⟨rfl, rfl⟩ (fun i hi => by cases hi; exact Nat.le_of_ble_eq_true rfl) (fun c hc => T.ex c _ hc (Nat.le_of_ble_eq_true rfl)) (fun a oe c d pn x8 hc he hz hf => (ds_one (ds_ret (de_tup (da_cons de_int (da_cons (de_exc (i := 2) rfl (fun C hC => by cases hC; exact T.eT_InvalidWants c he) ⟨_, rfl⟩ hz hf rfl (T.hx_InvalidWants_at c he)) da_nil)))))) (fun i t hi => by cases hi; rfl) (fun i t hi => by cases hi; rfl) (.cons ⟨rfl, by decide, .inl T.e_InvalidComings.gC⟩ ⟨rfl, rfl⟩ (fun i hi => by cases hi; exact Nat.le_of_ble_eq_true rfl) (fun c hc => T.ex c _ hc (Nat.le_of_ble_eq_true rfl)) (fun a oe c d pn x9 hc he hz hf => (ds_one (ds_ret (de_tup (da_cons de_int (da_cons (de_exc (i := 2) rfl (fun C hC => by cases hC; exact T.eT_InvalidComings c he) ⟨_, rfl⟩ hz hf rfl (T.hx_InvalidComings_at c he)) da_nil)))))) (fun i t hi => by cases hi; rfl) (fun i t hi => by cases hi; rfl) (.cons ⟨rfl, by decide, .inl T.e_InvalidLots.gC⟩ ⟨rfl, rfl⟩ (fun i hi => by cases hi; exact Nat.le_of_ble_eq_true rfl) (fun c hc => T.ex c _ hc (Nat.le_of_ble_eq_true rfl)) (fun a oe c d pn x10 hc he hz hf => (ds_one (ds_ret (de_tup (da_cons de_int (da_cons (de_exc (i := 2) rfl (fun C hC => by cases hC; exact T.eT_InvalidLots c he) ⟨_, rfl⟩ hz hf rfl (T.hx_InvalidLots_at c he)) da_nil)))))) (fun i t hi => by cases hi; rfl) (fun i t hi => by cases hi; rfl) (.cons ⟨rfl, by decide, .inl T.e_InvalidLines.gC⟩ ⟨rfl, rfl⟩ (fun i hi => by cases hi; exact Nat.le_of_ble_eq_true rfl) (fun c hc => T.ex c _ hc (Nat.le_of_ble_eq_true rfl)) (fun a oe c d pn x11 hc he hz hf => (ds_one (ds_ret (de_tup (da_cons de_int (da_cons (de_exc (i := 2) rfl (fun C hC => by cases hC; exact T.eT_InvalidLines c he) ⟨_, rfl⟩ hz hf rfl (T.hx_InvalidLines_at c he)) da_nil)))))) (fun i t hi => by cases hi; rfl) (fun i t hi => by cases hi; rfl) (.cons ⟨rfl, by decide, .inl T.e_InvalidHomes.gC⟩ ⟨rfl, rfl⟩ (fun i hi => by cases hi; exact Nat.le_of_ble_eq_true rfl) (fun c hc => T.ex c _ hc (Nat.le_of_ble_eq_true rfl)) (fun a oe c d pn x12 hc he hz hf => (ds_one (ds_ret (de_tup (da_cons de_int (da_cons (de_exc (i := 2) rfl (fun C hC => by cases hC; exact T.eT_InvalidHomes c he) ⟨_, rfl⟩ hz hf rfl (T.hx_InvalidHomes_at c he)) da_nil)))))) (fun i t hi => by cases hi; rfl) (fun i t hi => by cases hi; rfl) (.cons ⟨rfl, by decide, .inl T.e_InvalidLanes.gC⟩ ⟨rfl, rfl⟩ (fun i hi => by cases hi; exact Nat.le_of_ble_eq_true rfl) (fun c hc => T.ex c _ hc (Nat.le_of_ble_eq_true rfl)) (fun a oe c d pn x13 hc he hz hf => (ds_one (ds_ret (de_tup (da_cons de_int (da_cons (de_exc (i := 2) rfl (fun C hC => by cases hC; exact T.eT_InvalidLanes c he) ⟨_, rfl⟩ hz hf rfl (T.hx_InvalidLanes_at c he)) da_nil)))))) (fun i t hi => by cases hi; rfl) (fun i t hi => by cases hi; rfl) .nil))))))))))))) (fun F0 W pn xe tk po => (ds_one (ds_ret (de_call2 (Df.cal C_law_caught_a (hr.mono (by decide))) tk (by repeat (first | exact Wk.nil | exact Wk.same (Wk.refl _) | apply Wk.same | apply Wk.un)) (de_var (i := 0) (d := a_law_number)) (de_var (i := 1) (d := a_law_thing))))))) (fun (_ : Unit) => (ds_one (ds_ret de_non)))))

abbrev N_law_caught_c : List Str := ["_law_number", "_law_thing", "e"]
theorem sc_law_caught_c : FnScope N_law_caught_c ["_law_number", "_law_thing"] (defScope s_law_caught_c) := ⟨rfl, rfl, rfl, by decide +kernel, rfl, by decide +kernel, by decide +kernel⟩
def m_law_caught_c (a_law_number : D) (a_law_thing : D) : N D := (N.seq ((((.ok a_law_number : N D).bind fun x => (.ok a_law_thing : N D).bind fun y => m_law_caught_b x y : N D).bind fun d => .ok (.rt d) : N (Fl Unit Unit)).tryC fun c x => handle exT 36 c x [⟨28, some 2, fun x1 => (((.ok (.int 28) : N D).bind fun x => ((.ok x1 : N D).bind fun x => (.ok [] : N (List D)).bind fun xs => .ok (x :: xs) : N (List D)).bind fun xs => .ok (x :: xs) : N (List D)).bind fun xs => (N.le1 xs).bind fun _ => .ok (.tup xs) : N D).bind fun d => .ok (.rt d)⟩, ⟨29, some 2, fun x2 => (((.ok (.int 29) : N D).bind fun x => ((.ok x2 : N D).bind fun x => (.ok [] : N (List D)).bind fun xs => .ok (x :: xs) : N (List D)).bind fun xs => .ok (x :: xs) : N (List D)).bind fun xs => (N.le1 xs).bind fun _ => .ok (.tup xs) : N D).bind fun d => .ok (.rt d)⟩, ⟨30, some 2, fun x3 => (((.ok (.int 30) : N D).bind fun x => ((.ok x3 : N D).bind fun x => (.ok [] : N (List D)).bind fun xs => .ok (x :: xs) : N (List D)).bind fun xs => .ok (x :: xs) : N (List D)).bind fun xs => (N.le1 xs).bind fun _ => .ok (.tup xs) : N D).bind fun d => .ok (.rt d)⟩, ⟨31, some 2, fun x4 => (((.ok (.int 31) : N D).bind fun x => ((.ok x4 : N D).bind fun x => (.ok [] : N (List D)).bind fun xs => .ok (x :: xs) : N (List D)).bind fun xs => .ok (x :: xs) : N (List D)).bind fun xs => (N.le1 xs).bind fun _ => .ok (.tup xs) : N D).bind fun d => .ok (.rt d)⟩, ⟨32, some 2, fun x5 => (((.ok (.int 32) : N D).bind fun x => ((.ok x5 : N D).bind fun x => (.ok [] : N (List D)).bind fun xs => .ok (x :: xs) : N (List D)).bind fun xs => .ok (x :: xs) : N (List D)).bind fun xs => (N.le1 xs).bind fun _ => .ok (.tup xs) : N D).bind fun d => .ok (.rt d)⟩, ⟨33, some 2, fun x6 => (((.ok (.int 33) : N D).bind fun x => ((.ok x6 : N D).bind fun x => (.ok [] : N (List D)).bind fun xs => .ok (x :: xs) : N (List D)).bind fun xs => .ok (x :: xs) : N (List D)).bind fun xs => (N.le1 xs).bind fun _ => .ok (.tup xs) : N D).bind fun d => .ok (.rt d)⟩, ⟨34, some 2, fun x7 => (((.ok (.int 34) : N D).bind fun x => ((.ok x7 : N D).bind fun x => (.ok [] : N (List D)).bind fun xs => .ok (x :: xs) : N (List D)).bind fun xs => .ok (x :: xs) : N (List D)).bind fun xs => (N.le1 xs).bind fun _ => .ok (.tup xs) : N D).bind fun d => .ok (.rt d)⟩, ⟨35, none, fun x8 => (((.ok (.int 35) : N D).bind fun x => ((.ok a_law_thing : N D).bind fun x => (.ok [] : N (List D)).bind fun xs => .ok (x :: xs) : N (List D)).bind fun xs => .ok (x :: xs) : N (List D)).bind fun xs => (N.le1 xs).bind fun _ => .ok (.tup xs) : N D).bind fun d => .ok (.rt d)⟩]) fun (_ : Unit) => (.ok .non : N D).bind fun d => .ok (.rt d) : N (Fl Unit Unit)).fin
theorem ok_law_caught_c {f : Addr} {fd : FuncData} (F : FunD Z.K "_law_caught_c" "_law_caught_c" (defArgs s_law_caught_c) (defBody s_law_caught_c) (defScope s_law_caught_c) [] [] f fd) (T : Txt Z mg cK fI) (C_law_caught_b : Df P w Z mg base "_law_caught_b" 4 2 (app2 m_law_caught_b)) : FnOk P w Z.K mg base (L2.CX P w) 5 f fd ["_law_number", "_law_thing"] (spN Z 2 (app2 m_law_caught_c)) := by
  refine fn_okD (ps := ["_law_number", "_law_thing"]) F sc_law_caught_c (ar2 _) (fun cdv A outer s H E F0 ds hr tk hl => ?_)
  match ds, hl with
  | [a_law_number, a_law_thing], _ =>
    refine ⟨Unit, Unit, fun _ => [.dat (a_law_number), .dat (a_law_thing), .un], fun _ => [.dat (a_law_number), .dat (a_law_thing), .un], _, ?_, fun _ _ h => h⟩
    exact ((ds_cons (ds_try (sl := fun _ : Unit => [.dat (a_law_number), .dat (a_law_thing), .un]) (sb := fun _ : Unit => [.dat (a_law_number), .dat (a_law_thing), .un]) (Sh := [.dat (a_law_number), .dat (a_law_thing), .un]) rfl rfl sc_law_caught_c.nd tk rfl (Wk.un' rfl) (.cons ⟨rfl, by decide, .inl T.e_InvalidPrices.gC⟩ ⟨rfl, rfl⟩ (fun i hi => by cases hi; exact Nat.le_of_ble_eq_true rfl) (fun c hc => T.ex c _ hc (Nat.le_of_ble_eq_true rfl)) (fun a oe c d pn x1 hc he hz hf => (ds_one (ds_ret (de_tup (da_cons de_int (da_cons (de_exc (i := 2) rfl (fun C hC => by cases hC; exact T.eT_InvalidPrices c he) ⟨_, rfl⟩ hz hf rfl (T.hx_InvalidPrices_at c he)) da_nil)))))) (fun i t hi => by cases hi; rfl) (fun i t hi => by cases hi; rfl) (.cons ⟨rfl, by decide, .inl T.e_InvalidRoutes.gC⟩ ⟨rfl, rfl⟩ (fun i hi => by cases hi; exact Nat.le_of_ble_eq_true rfl) (fun c hc => T.ex c _ hc (Nat.le_of_ble_eq_true rfl)) (fun a oe c d pn x2 hc he hz hf => (ds_one (ds_ret (de_tup (da_cons de_int (da_cons (de_exc (i := 2) rfl (fun C hC => by cases hC; exact T.eT_InvalidRoutes c he) ⟨_, rfl⟩ hz hf rfl (T.hx_InvalidRoutes_at c he)) da_nil)))))) (fun i t hi => by cases hi; rfl) (fun i t hi => by cases hi; rfl) (.cons ⟨rfl, by decide, .inl T.e_InvalidPicture.gC⟩ ⟨rfl, rfl⟩ (fun i hi => by cases hi; exact Nat.le_of_ble_eq_true rfl) (fun c hc => T.ex c _ hc (Nat.le_of_ble_eq_true rfl)) (fun a oe c d pn x3 hc he hz hf => (ds_one (ds_ret (de_tup (da_cons de_int (da_cons (de_exc (i := 2) rfl (fun C hC => by cases hC; exact T.eT_InvalidPicture c he) ⟨_, rfl⟩ hz hf rfl (T.hx_InvalidPicture_at c he)) da_nil)))))) (fun i t hi => by cases hi; rfl) (fun i t hi => by cases hi; rfl) (.cons ⟨rfl, by decide, .inl T.e_InvalidIndex.gC⟩ ⟨rfl, rfl⟩ (fun i hi => by cases hi; exact Nat.le_of_ble_eq_true rfl) (fun c hc => T.ex c _ hc (Nat.le_of_ble_eq_true rfl)) (fun a oe c d pn x4 hc he hz hf => (ds_one (ds_ret (de_tup (da_cons de_int (da_cons (de_exc (i := 2) rfl (fun C hC => by cases hC; exact T.eT_InvalidIndex c he) ⟨_, rfl⟩ hz hf rfl (T.hx_InvalidIndex_at c he)) da_nil)))))) (fun i t hi => by cases hi; rfl) (fun i t hi => by cases hi; rfl) (.cons ⟨rfl, by decide, .inl T.e_Refused.gC⟩ ⟨rfl, rfl⟩ (fun i hi => by cases hi; exact Nat.le_of_ble_eq_true rfl) (fun c hc => T.ex c _ hc (Nat.le_of_ble_eq_true rfl)) (fun a oe c d pn x5 hc he hz hf => (ds_one (ds_ret (de_tup (da_cons de_int (da_cons (de_exc (i := 2) rfl (fun C hC => by cases hC; exact T.eT_Refused c he) ⟨_, rfl⟩ hz hf rfl (T.hx_Refused_at c he)) da_nil)))))) (fun i t hi => by cases hi; rfl) (fun i t hi => by cases hi; rfl) (.cons ⟨rfl, by decide, .inl T.e_InvalidSize.gC⟩ ⟨rfl, rfl⟩ (fun i hi => by cases hi; exact Nat.le_of_ble_eq_true rfl) (fun c hc => T.ex c _ hc (Nat.le_of_ble_eq_true rfl)) (fun a oe c d pn x6 hc he hz hf => (ds_one (ds_ret (de_tup (da_cons de_int (da_cons (de_exc (i := 2) rfl (fun C hC => by cases hC; exact T.eT_InvalidSize c he) ⟨_, rfl⟩ hz hf rfl (T.hx_InvalidSize_word c he)) da_nil)))))) (fun i t hi => by cases hi; rfl) (fun i t hi => by cases hi; rfl) (.cons ⟨rfl, by decide, .inl T.e_NoRobot.gC⟩ ⟨rfl, rfl⟩ (fun i hi => by cases hi; exact Nat.le_of_ble_eq_true rfl) (fun c hc => T.ex c _ hc (Nat.le_of_ble_eq_true rfl)) (fun a oe c d pn x7 hc he hz hf => (ds_one (ds_ret (de_tup (da_cons de_int (da_cons (de_exc (i := 2) rfl (fun C hC => by cases hC; exact T.eT_NoRobot c he) ⟨_, rfl⟩ hz hf rfl (T.hx_NoRobot_robot c he)) da_nil)))))) (fun i t hi => by cases hi; rfl) (fun i t hi => by cases hi; rfl) (.cons ⟨rfl, by decide, .inl T.g_InvalidCommand⟩ trivial (fun i hi => by cases hi) (fun c hc => T.ex c _ hc (Nat.le_of_ble_eq_true rfl)) (fun a oe c d pn x8 hc he hz hf => (ds_one (ds_ret (de_tup (da_cons de_int (da_cons (de_var (i := 1) (d := a_law_thing)) da_nil)))))) (fun i t hi => by cases hi) (fun i t hi => by cases hi) .nil)))))))) (fun F0 W pn xe tk po => (ds_one (ds_ret (de_call2 (Df.cal C_law_caught_b (hr.mono (by decide))) tk (by repeat (first | exact Wk.nil | exact Wk.same (Wk.refl _) | apply Wk.same | apply Wk.un)) (de_var (i := 0) (d := a_law_number)) (de_var (i := 1) (d := a_law_thing))))))) (fun (_ : Unit) => (ds_one (ds_ret de_non)))))

abbrev N_law_is_base : List Str := ["_law_number", "_law_thing"]
theorem sc_law_is_base : FnScope N_law_is_base ["_law_number", "_law_thing"] (defScope s_law_is_base) := ⟨rfl, rfl, rfl, by decide +kernel, rfl, by decide +kernel, by decide +kernel⟩
def m_law_is_base (a_law_number : D) (a_law_thing : D) : N D := (N.seq ((N.seq (((.ok a_law_number : N D).bind fun x => (.ok a_law_thing : N D).bind fun y => m_law_raise x y : N D).bind fun _ => .ok (.nx ())) fun (_ : Unit) => .ok (.nx ()) : N (Fl Unit Unit)).tryC fun c x => handle exT 36 c x [⟨36, none, fun x1 => (.ok (.bl true) : N D).bind fun d => .ok (.rt d)⟩]) fun (_ : Unit) => (.ok (.bl false) : N D).bind fun d => .ok (.rt d) : N (Fl Unit Unit)).fin
theorem ok_law_is_base {f : Addr} {fd : FuncData} (F : FunD Z.K "_law_is_base" "_law_is_base" (defArgs s_law_is_base) (defBody s_law_is_base) (defScope s_law_is_base) [] [] f fd) (T : Txt Z mg cK fI) (C_law_raise : Df P w Z mg base "_law_raise" 2 2 (app2 m_law_raise)) : FnOk P w Z.K mg base (L2.CX P w) 3 f fd ["_law_number", "_law_thing"] (spN Z 2 (app2 m_law_is_base)) := by
  refine fn_okD (ps := ["_law_number", "_law_thing"]) F sc_law_is_base (ar2 _) (fun cdv A outer s H E F0 ds hr tk hl => ?_)
  match ds, hl with
  | [a_law_number, a_law_thing], _ =>
    refine ⟨Unit, Unit, fun _ => [.dat (a_law_number), .dat (a_law_thing)], fun _ => [.dat (a_law_number), .dat (a_law_thing)], _, ?_, fun _ _ h => h⟩
    exact ((ds_cons (ds_try (sl := fun _ : Unit => [.dat (a_law_number), .dat (a_law_thing)]) (sb := fun _ : Unit => [.dat (a_law_number), .dat (a_law_thing)]) (Sh := [.dat (a_law_number), .dat (a_law_thing)]) rfl rfl sc_law_is_base.nd tk rfl (Wk.un' rfl) (.cons ⟨rfl, by decide, .inl T.g_HallError⟩ trivial (fun i hi => by cases hi) (fun c hc => T.ex c _ hc (Nat.le_of_ble_eq_true rfl)) (fun a oe c d pn x1 hc he hz hf => (ds_one (ds_ret de_bl))) (fun i t hi => by cases hi) (fun i t hi => by cases hi) .nil) (fun F0 W pn xe tk po => (ds_cons (ds_expr (de_call2 (Df.cal C_law_raise (hr.mono (by decide))) tk (by repeat (first | exact Wk.nil | exact Wk.same (Wk.refl _) | apply Wk.same | apply Wk.un)) (de_var (i := 0) (d := a_law_number)) (de_var (i := 1) (d := a_law_thing)))) (fun (_ : Unit) => (ds_nil ()))))) (fun (_ : Unit) => (ds_one (ds_ret de_bl)))))

abbrev N_law : List Str := ["_law_script", "_law_box_here", "_law_number", "_law_thing"]
theorem sc_law : FnScope N_law ["_law_script"] (defScope s_law) := ⟨rfl, rfl, rfl, by decide +kernel, rfl, by decide +kernel, by decide +kernel⟩
def m_law (a_law_script : D) : N D := (N.seq (((.ok a_law_script : N D).bind fun x => (.ok (.int 0) : N D).bind fun y => m_law_box x y : N D).bind fun d => .ok (.nx d)) fun (box_here_1 : D) => N.seq ((.ok (.int 36) : N D).bind fun d => (N.upTo d).bind fun xs => N.loop (fun (y3 : Int) (s2 : Unit) => N.seq (((.ok box_here_1 : N D).bind fun x => (((.ok (.int 0) : N D).bind fun x => (((.ok (.int 1) : N D).bind dNeg : N D).bind fun x => ((.ok .non : N D).bind fun x => ((.ok (.str "words") : N D).bind fun x => ((((.ok (.int 1) : N D).bind fun x => ((.ok (.int 2) : N D).bind fun x => (.ok [] : N (List D)).bind fun xs => .ok (x :: xs) : N (List D)).bind fun xs => .ok (x :: xs) : N (List D)).bind fun xs => (N.le1 xs).bind fun _ => .ok (.tup xs) : N D).bind fun x => ((((.ok (.int 3) : N D).bind fun x => (.ok [] : N (List D)).bind fun xs => .ok (x :: xs) : N (List D)).bind fun xs => (N.le1 xs).bind fun _ => .ok (.lst xs) : N D).bind fun x => ((.ok (.bl true) : N D).bind fun x => ((.ok (.int 7) : N D).bind fun x => (.ok [] : N (List D)).bind fun xs => .ok (x :: xs) : N (List D)).bind fun xs => .ok (x :: xs) : N (List D)).bind fun xs => .ok (x :: xs) : N (List D)).bind fun xs => .ok (x :: xs) : N (List D)).bind fun xs => .ok (x :: xs) : N (List D)).bind fun xs => .ok (x :: xs) : N (List D)).bind fun xs => .ok (x :: xs) : N (List D)).bind fun xs => .ok (x :: xs) : N (List D)).bind fun xs => (N.le1 xs).bind fun _ => .ok (.lst xs) : N D).bind fun y => m_law_pick x y : N D).bind fun d => .ok (.nx d)) fun (thing_4 : D) => N.seq ((((((.ok (.int y3) : N D).bind fun x => (.ok thing_4 : N D).bind fun y => m_law_caught_c x y : N D).bind fun x => (((.ok (.int y3) : N D).bind fun x => ((.ok thing_4 : N D).bind fun x => (.ok [] : N (List D)).bind fun xs => .ok (x :: xs) : N (List D)).bind fun xs => .ok (x :: xs) : N (List D)).bind fun xs => (N.le1 xs).bind fun _ => .ok (.tup xs) : N D).bind fun y => dNeD x y : N D).bind N.tst : N Bool).bind fun x => if x = true then .ok true else ((((.ok (.int y3) : N D).bind fun x => (.ok thing_4 : N D).bind fun y => m_law_is_base x y : N D).bind N.tst : N Bool).bind fun b => .ok (!b)) : N Bool).bind fun x => if x = true then ((.ok (.bl false) : N D).bind fun d => .ok (.rt d)) else (.ok (.nx ()))) fun (_ : Unit) => .ok (.nx (()))) xs (())) fun (s2 : Unit) => (((((((.ok (.int 1) : N D).bind dNeg : N D).bind fun x => (.ok [] : N (List D)).bind fun xs => .ok (x :: xs) : N (List D)).bind fun ds => match ds with | [d] => .ok d | _ => .stuck : N D).bind fun x => ((((.ok (.int 3) : N D).bind fun x => (.ok [] : N (List D)).bind fun xs => .ok (x :: xs) : N (List D)).bind fun ds => match ds with | [d] => .ok d | _ => .stuck : N D).bind fun x => ((((.ok (.str "x") : N D).bind fun x => (.ok [] : N (List D)).bind fun xs => .ok (x :: xs) : N (List D)).bind fun ds => match ds with | [d] => .ok d | _ => .stuck : N D).bind fun x => ((((.ok (.int 2) : N D).bind fun x => (.ok [] : N (List D)).bind fun xs => .ok (x :: xs) : N (List D)).bind fun ds => match ds with | [d] => .ok d | _ => .stuck : N D).bind fun x => (.ok [] : N (List D)).bind fun xs => .ok (x :: xs) : N (List D)).bind fun xs => .ok (x :: xs) : N (List D)).bind fun xs => .ok (x :: xs) : N (List D)).bind fun xs => .ok (x :: xs) : N (List D)).bind fun xs => (N.le1 xs).bind fun _ => .ok (.tup xs) : N D).bind fun x => ((((.ok (.int 1) : N D).bind dNeg : N D).bind fun x => ((.ok (.int 3) : N D).bind fun x => ((.ok (.str "x") : N D).bind fun x => ((.ok (.int 2) : N D).bind fun x => (.ok [] : N (List D)).bind fun xs => .ok (x :: xs) : N (List D)).bind fun xs => .ok (x :: xs) : N (List D)).bind fun xs => .ok (x :: xs) : N (List D)).bind fun xs => .ok (x :: xs) : N (List D)).bind fun xs => (N.le1 xs).bind fun _ => .ok (.tup xs) : N D).bind fun y => dEqD x y : N D).bind fun d => .ok (.rt d) : N (Fl Unit Unit)).fin
theorem ok_law {f : Addr} {fd : FuncData} (F : FunD Z.K "law" "law" (defArgs s_law) (defBody s_law) (defScope s_law) [] [] f fd) (T : Txt Z mg cK fI) (C_law_box : Df P w Z mg base "_law_box" 1 2 (app2 m_law_box)) (C_law_pick : Df P w Z mg base "_law_pick" 2 2 (app2 m_law_pick)) (C_law_caught_c : Df P w Z mg base "_law_caught_c" 5 2 (app2 m_law_caught_c)) (C_law_is_base : Df P w Z mg base "_law_is_base" 3 2 (app2 m_law_is_base)) : FnOk P w Z.K mg base (L2.CX P w) 6 f fd ["_law_script"] (spN Z 1 (app1 m_law)) := by
  refine fn_okD (ps := ["_law_script"]) F sc_law (ar1 _) (fun cdv A outer s H E F0 ds hr tk hl => ?_)
  match ds, hl with
  | [a_law_script], _ =>
    refine ⟨Unit, Unit, fun _ => [.dat (a_law_script), .un, .un, .un], fun _ => [.dat (a_law_script), .un, .un, .un], _, ?_, fun _ _ h => h⟩
    exact ((ds_cons (ds_set (i := 1) sc_law.nd (de_call2 (Df.cal C_law_box (hr.mono (by decide))) tk (Wk.un' rfl) (de_var (i := 0) (d := a_law_script)) de_int)) (fun (box_here_1 : D) => (ds_cons (ds_forR (sl := fun (s2 : Unit) => [.dat (a_law_script), .dat (box_here_1), .un, .un]) (j := 2) (bn := fun (y3 : Int) (s2 : Unit) => N.seq (((.ok box_here_1 : N D).bind fun x => (((.ok (.int 0) : N D).bind fun x => (((.ok (.int 1) : N D).bind dNeg : N D).bind fun x => ((.ok .non : N D).bind fun x => ((.ok (.str "words") : N D).bind fun x => ((((.ok (.int 1) : N D).bind fun x => ((.ok (.int 2) : N D).bind fun x => (.ok [] : N (List D)).bind fun xs => .ok (x :: xs) : N (List D)).bind fun xs => .ok (x :: xs) : N (List D)).bind fun xs => (N.le1 xs).bind fun _ => .ok (.tup xs) : N D).bind fun x => ((((.ok (.int 3) : N D).bind fun x => (.ok [] : N (List D)).bind fun xs => .ok (x :: xs) : N (List D)).bind fun xs => (N.le1 xs).bind fun _ => .ok (.lst xs) : N D).bind fun x => ((.ok (.bl true) : N D).bind fun x => ((.ok (.int 7) : N D).bind fun x => (.ok [] : N (List D)).bind fun xs => .ok (x :: xs) : N (List D)).bind fun xs => .ok (x :: xs) : N (List D)).bind fun xs => .ok (x :: xs) : N (List D)).bind fun xs => .ok (x :: xs) : N (List D)).bind fun xs => .ok (x :: xs) : N (List D)).bind fun xs => .ok (x :: xs) : N (List D)).bind fun xs => .ok (x :: xs) : N (List D)).bind fun xs => .ok (x :: xs) : N (List D)).bind fun xs => (N.le1 xs).bind fun _ => .ok (.lst xs) : N D).bind fun y => m_law_pick x y : N D).bind fun d => .ok (.nx d)) fun (thing_4 : D) => N.seq ((((((.ok (.int y3) : N D).bind fun x => (.ok thing_4 : N D).bind fun y => m_law_caught_c x y : N D).bind fun x => (((.ok (.int y3) : N D).bind fun x => ((.ok thing_4 : N D).bind fun x => (.ok [] : N (List D)).bind fun xs => .ok (x :: xs) : N (List D)).bind fun xs => .ok (x :: xs) : N (List D)).bind fun xs => (N.le1 xs).bind fun _ => .ok (.tup xs) : N D).bind fun y => dNeD x y : N D).bind N.tst : N Bool).bind fun x => if x = true then .ok true else ((((.ok (.int y3) : N D).bind fun x => (.ok thing_4 : N D).bind fun y => m_law_is_base x y : N D).bind N.tst : N Bool).bind fun b => .ok (!b)) : N Bool).bind fun x => if x = true then ((.ok (.bl false) : N D).bind fun d => .ok (.rt d)) else (.ok (.nx ()))) fun (_ : Unit) => .ok (.nx (()))) (()) po_cx rfl T.b_range sc_law.nd de_int (by repeat (first | exact Wk.nil | exact Wk.same (Wk.refl _) | apply Wk.same | apply Wk.un)) (fun y3 s2 => (ds_cons (ds_set (i := 3) sc_law.nd (de_call2 (Df.cal C_law_pick (hr.mono (by decide))) tk (Wk.un' rfl) (de_var (i := 1) (d := box_here_1)) (de_lst (da_cons de_int (da_cons (de_neg de_int) (da_cons de_non (da_cons de_str (da_cons (de_tup (da_cons de_int (da_cons de_int da_nil))) (da_cons (de_lst (da_cons de_int da_nil)) (da_cons de_bl (da_cons de_int da_nil))))))))))) (fun (thing_4 : D) => (ds_cons (ds_if (sl := fun _ : Unit => [.dat (a_law_script), .dat (box_here_1), .dat ((.int y3)), .dat (thing_4)]) (PW.pt (dw_or (dt_cmp (op_neD hr.units) r2_NeD dNeD_tot (de_call2 (Df.cal C_law_caught_c (hr.mono (by decide))) tk (Wk.un' rfl) (de_var (i := 2) (d := (.int y3))) (de_var (i := 3) (d := thing_4))) (de_tup (da_cons (de_var (i := 2) (d := (.int y3))) (da_cons (de_var (i := 3) (d := thing_4)) da_nil))) (nomark _)) (dw_or1 (dt_not (dt_val (de_call2 (Df.cal C_law_is_base (hr.mono (by decide))) tk (Wk.un' rfl) (de_var (i := 2) (d := (.int y3))) (de_var (i := 3) (d := thing_4)))))))) (ds_one (ds_ret de_bl)) (ds_nil ())) (fun (_ : Unit) => (ds_nilW (()) (by repeat (first | exact Wk.nil | exact Wk.same (Wk.refl _) | apply Wk.same | apply Wk.un))))))))) (fun (s2 : Unit) => (ds_one (ds_ret (de_cmp (op_eqD hr.units) r2_EqD dEqD_tot (de_tup (da_cons (de_mkget T.e_InvalidText (hr.mono (by decide) : Room 0 _) (dk_cons (de_neg de_int) dk_nil) (hy := T.n_InvalidText)) (da_cons (de_mkget T.e_InvalidCell (hr.mono (by decide) : Room 0 _) (dk_cons de_int dk_nil) (hy := T.n_InvalidCell)) (da_cons (de_mkget T.e_InvalidSize (hr.mono (by decide) : Room 0 _) (dk_cons de_str dk_nil) (hy := T.n_InvalidSize)) (da_cons (de_mkget T.e_NoRobot (hr.mono (by decide) : Room 0 _) (dk_cons de_int dk_nil) (hy := T.n_NoRobot)) da_nil))))) (de_tup (da_cons (de_neg de_int) (da_cons de_int (da_cons de_str (da_cons de_int da_nil))))) (nomark _)))))))))

end
end M

set_option Elab.async false
set_option linter.all false
set_option maxRecDepth 100000
set_option maxHeartbeats 2000000
namespace M
open PySem L2
/-! ### reckoning with mirrors -/
theorem N.eq_of {α : Type} {a b : N α} (h : ∀ k e, a.wp k e ↔ b.wp k e) : a = b := by
  cases a with
  | mk wa ma =>
    cases b with
    | mk wb mb =>
      have e : wa = wb := funext fun k => funext fun x => propext (h k x)
      subst e
      rfl
theorem N.asrt_of {p : Prop} (h : p) : N.asrt p = N.ok () := N.eq_of fun k e => ⟨fun q => q.2, fun q => ⟨h, q⟩⟩
section
variable {α β γ τ τ1 : Type}
@[simp] theorem N.ok_seq (t : τ1) (m : τ1 → N (Fl τ β)) : N.seq (.ok (.nx t)) m = m t := rfl
@[simp] theorem N.rt_seq (d : D) (m : τ1 → N (Fl τ β)) : N.seq (.ok (.rt d)) m = .ok (.rt d) := rfl
@[simp] theorem N.err_seq (c : Nat) (x : D) (m : τ1 → N (Fl τ β)) : N.seq (.err c x) m = .err c x := rfl
@[simp] theorem N.bind_seq (n : N α) (f : α → N (Fl τ1 β)) (m : τ1 → N (Fl τ β)) : N.seq (n.bind f) m = n.bind fun x => N.seq (f x) m := rfl
theorem N.seq_seq {τ2 : Type} (n : N (Fl τ2 β)) (f : τ2 → N (Fl τ1 β)) (m : τ1 → N (Fl τ β)) : N.seq (N.seq n f) m = n.seq fun x => N.seq (f x) m := N.eq_of fun k e => by
  show n.wp _ e ↔ n.wp _ e
  constructor
  · exact n.mono (fun a z => by cases a <;> exact z) (fun _ _ z => z)
  · exact n.mono (fun a z => by cases a <;> exact z) (fun _ _ z => z)
@[simp] theorem N.rt_fin (d : D) : (N.ok (Fl.rt d) : N (Fl τ β)).fin = .ok d := rfl
@[simp] theorem N.nx_fin (t : τ) : (N.ok (Fl.nx t) : N (Fl τ β)).fin = .ok .non := rfl
@[simp] theorem N.err_fin (c : Nat) (x : D) : (N.err c x : N (Fl τ β)).fin = .err c x := rfl
@[simp] theorem N.bind_fin (n : N α) (f : α → N (Fl τ β)) : (n.bind f).fin = n.bind fun x => (f x).fin := rfl
@[simp] theorem N.tst_bl (b : Bool) : N.tst (.bl b) = .ok b := rfl
theorem N.ite_t {a b : α} : (if true = true then a else b) = a := if_pos rfl
theorem N.ite_f {a b : α} : (if false = true then a else b) = b := if_neg Bool.false_ne_true
theorem N.wp_ok (a : α) (k e) : (N.ok a).wp k e = k a := rfl
theorem N.wp_err (c : Nat) (x : D) (k : α → Prop) (e) : (N.err c x).wp k e = e c x := rfl
theorem N.wp_bind (n : N α) (f : α → N β) (k e) : (n.bind f).wp k e = n.wp (fun a => (f a).wp k e) e := rfl
theorem N.try_ok (a : α) (h : Nat → D → N α) : (N.ok a).tryC h = .ok a := rfl
theorem N.try_err (c : Nat) (x : D) (h : Nat → D → N α) : (N.err c x).tryC h = h c x := rfl
theorem N.ne_ok (a : α) : N.ne (N.ok a) = .ok a := rfl
theorem N.le1_of {xs : List α} (h : xs.length ≤ sizeLine) : N.le1 xs = .ok () := N.asrt_of h
theorem N.fits_of {xs : List α} (h : xs.length ≤ sizeLine) : N.fits xs = .ok () := N.asrt_of h
theorem size64 : 64 ≤ sizeLine := by rw [sizeLine_eq]; decide
/-- a loop by an invariant that counts what is left -/
theorem N.loop_wp {body : α → τ → N (Fl τ τ)} (I : Nat → τ → Prop) {k : Fl τ β → Prop} {e : Nat → D → Prop}
    (hb : ∀ x t n, I (n + 1) t → (body x t).wp (fun f => match f with | .nx t' => I n t' | .ct t' => I n t' | .bk t' => k (.nx t') | .rt d => k (.rt d)) e) (h0 : ∀ t, I 0 t → k (.nx t)) :
    ∀ (xs : List α) (t : τ), I xs.length t → (N.loop (β := β) body xs t).wp k e
  | [], t, h => h0 t h
  | x :: xs, t, h => (body x t).mono (fun f z => by
      cases f with
      | nx t' => exact N.loop_wp I hb h0 xs t' z
      | ct t' => exact N.loop_wp I hb h0 xs t' z
      | bk t' => exact z
      | rt d => exact z) (fun _ _ z => z) (hb x t xs.length h)
theorem N.loop_then {τ2 : Type} {body : α → τ → N (Fl τ τ)} {m : τ → N (Fl τ2 β)} (I : Nat → τ → Prop) {k : D → Prop} {e : Nat → D → Prop}
    (hb : ∀ x t n, I (n + 1) t → (body x t).wp (fun f => match f with | .nx t' => I n t' | .ct t' => I n t' | .bk t' => (m t').fin.wp k e | .rt d => k d) e) (h0 : ∀ t, I 0 t → (m t).fin.wp k e)
    (xs : List α) (t : τ) (h : I xs.length t) : (N.fin (N.seq (N.loop body xs t) m)).wp k e :=
  (N.loop (β := β) body xs t).mono (fun f z => by cases f <;> exact z) (fun _ _ z => z) (N.loop_wp (β := β) (k := fun f => match f with | .nx t => (m t).fin.wp k e | .rt d => k d | .bk b => False | .ct b => False) I hb h0 xs t h)
/-- a loop of which each turn goes on, as a fold -/
theorem N.loop_ok {body : α → τ → N (Fl τ τ)} {step : α → τ → τ} : ∀ (xs : List α) (t : τ), (∀ x ∈ xs, ∀ t, body x t = .ok (.nx (step x t))) → (N.loop (β := β) body xs t) = .ok (.nx (xs.foldl (fun t x => step x t) t))
  | [], t, _ => rfl
  | x :: xs, t, h => by
    show (body x t).bind _ = _
    rw [h x (List.mem_cons_self) t]
    exact N.loop_ok xs (step x t) fun y hy => h y (List.mem_cons_of_mem _ hy)
/-- the same where something is known of the items -/
theorem N.loop_wpM {body : α → τ → N (Fl τ τ)} (R : α → Prop) (I : Nat → τ → Prop) {k : Fl τ β → Prop} {e : Nat → D → Prop}
    (hb : ∀ x t n, R x → I (n + 1) t → (body x t).wp (fun f => match f with | .nx t' => I n t' | .ct t' => I n t' | .bk t' => k (.nx t') | .rt d => k (.rt d)) e) (h0 : ∀ t, I 0 t → k (.nx t)) :
    ∀ (xs : List α) (t : τ), (∀ x ∈ xs, R x) → I xs.length t → (N.loop (β := β) body xs t).wp k e
  | [], t, _, h => h0 t h
  | x :: xs, t, hr, h => (body x t).mono (fun f z => by
      cases f with
      | nx t' => exact N.loop_wpM R I hb h0 xs t' (fun y hy => hr y (List.mem_cons_of_mem _ hy)) z
      | ct t' => exact N.loop_wpM R I hb h0 xs t' (fun y hy => hr y (List.mem_cons_of_mem _ hy)) z
      | bk t' => exact z
      | rt d => exact z) (fun _ _ z => z) (hb x t xs.length (hr x List.mem_cons_self) h)
theorem N.loop_thenM {τ2 : Type} {body : α → τ → N (Fl τ τ)} {m : τ → N (Fl τ2 β)} (R : α → Prop) (I : Nat → τ → Prop) {k : D → Prop} {e : Nat → D → Prop}
    (hb : ∀ x t n, R x → I (n + 1) t → (body x t).wp (fun f => match f with | .nx t' => I n t' | .ct t' => I n t' | .bk t' => (m t').fin.wp k e | .rt d => k d) e) (h0 : ∀ t, I 0 t → (m t).fin.wp k e)
    (xs : List α) (t : τ) (hr : ∀ x ∈ xs, R x) (h : I xs.length t) : (N.fin (N.seq (N.loop body xs t) m)).wp k e :=
  (N.loop (β := β) body xs t).mono (fun f z => by cases f <;> exact z) (fun _ _ z => z) (N.loop_wpM (β := β) (k := fun f => match f with | .nx t => (m t).fin.wp k e | .rt d => k d | .bk b => False | .ct b => False) R I hb h0 xs t hr h)
theorem N.loop_nil {body : α → τ → N (Fl τ τ)} (t : τ) : (N.loop (β := β) body [] t) = .ok (.nx t) := rfl
theorem N.loop_go {body : α → τ → N (Fl τ τ)} {x : α} {xs : List α} {t t' : τ} (h : body x t = .ok (.nx t')) : (N.loop (β := β) body (x :: xs) t) = N.loop body xs t' := by
  show (body x t).bind _ = _
  rw [h]
  rfl
theorem N.loop_err {body : α → τ → N (Fl τ τ)} {x : α} {xs : List α} {t : τ} {c : Nat} {d : D} (h : body x t = .err c d) : (N.loop (β := β) body (x :: xs) t) = .err c d := by
  show (body x t).bind _ = _
  rw [h]
  rfl
/-- a comprehension whose tests and elements are known -/
theorem N.comp_ok {t : α → N Bool} {f : α → N D} {p : α → Bool} {g : α → D} : ∀ xs : List α, (∀ x ∈ xs, t x = .ok (p x)) → (∀ x ∈ xs, f x = .ok (g x)) → N.comp t f xs = .ok ((xs.filter p).map g)
  | [], _, _ => rfl
  | x :: xs, ht, hf => by
    show (N.ne (t x)).bind _ = _
    rw [ht x List.mem_cons_self, hf x List.mem_cons_self, N.comp_ok xs (fun y h => ht y (List.mem_cons_of_mem _ h)) (fun y h => hf y (List.mem_cons_of_mem _ h))]
    show (if p x = true then _ else _) = _
    cases h : p x with
    | true => rw [if_pos rfl, List.filter_cons_of_pos h]; rfl
    | false => rw [if_neg Bool.false_ne_true, List.filter_cons_of_neg (by rw [h]; exact Bool.false_ne_true)]
theorem N.comp_all {f : α → N D} {g : α → D} (xs : List α) (hf : ∀ x ∈ xs, f x = .ok (g x)) : N.comp (fun _ => .ok true) f xs = .ok (xs.map g) := by
  rw [N.comp_ok (p := fun _ => true) xs (fun _ _ => rfl) hf, List.filter_eq_self.mpr (fun _ _ => rfl)]
theorem handle_is {hs : List (Hd τ β)} {m : D → N (Fl τ β)} {i : Option Nat} {c : Nat} {ex : Nat → Nat → Bool} {nE : Nat} {x : D} (hc : c < nE) (he : ex c c = true) : handle ex nE c x (⟨c, i, m⟩ :: hs) = N.ne (m x) := by
  show (N.asrt (c < nE)).bind (fun _ => if ex c c = true then N.ne (m x) else handle ex nE c x hs) = _
  rw [N.asrt_of hc]
  show (if ex c c = true then N.ne (m x) else handle ex nE c x hs) = _
  rw [if_pos he]
end
theorem any_wp {n : Int} {k : D → Prop} {e : Nat → D → Prop} (h0 : 0 < n) (h1 : n < 1073741824) (h : ∀ r : Int, 0 ≤ r → r < n → k (.int r)) : (m_law_any (.dl 0) (.int n)).wp k e := ⟨⟨h0, h1⟩, fun r hr => h r hr.1 hr.2⟩
theorem any_bind {β : Type} {n : Int} {f : D → N β} {k : β → Prop} {e : Nat → D → Prop} (h0 : 0 < n) (h1 : n < 1073741824) (h : ∀ r : Int, 0 ≤ r → r < n → (f (.int r)).wp k e) : ((m_law_any (.dl 0) (.int n)).bind f).wp k e := any_wp h0 h1 h
theorem upTo_ok {n : Int} (h0 : 0 ≤ n) (h1 : n < 2 ^ 62) : N.upTo (.int n) = .ok ((List.range n.toNat).map fun i => ((i : Nat) : Int)) := by
  unfold N.upTo
  simp only []
  rw [N.asrt_of ⟨h1, by omega⟩]
  rfl
theorem iOpC_ok {C : Int → Int → Prop} {f : Int → Int → D} {i j : Int} (h : C i j) : iOpC C f (.int i) (.int j) = .ok (f i j) := by
  show (N.asrt (C i j)).bind (fun _ => .ok (f i j)) = _
  rw [N.asrt_of h]
  rfl
theorem iOp_ok {f : Int → Int → D} {i j : Int} : iOp f (.int i) (.int j) = .ok (f i j) := rfl
@[simp] theorem kit_self (a : String) : kitB a a = some true := by
  unfold kitB
  rw [if_pos (by simp)]
@[simp] theorem kit_ni : kitB "NoneType" "int" = some false := by decide +kernel
@[simp] theorem kit_bi : kitB "bool" "int" = some true := by decide +kernel
@[simp] theorem kit_si : kitB "str" "int" = some false := by decide +kernel
@[simp] theorem kit_ti : kitB "tuple" "int" = some false := by decide +kernel
@[simp] theorem kit_li : kitB "list" "int" = some false := by decide +kernel
@[simp] theorem kit_nb : kitB "NoneType" "bool" = some false := by decide +kernel
@[simp] theorem kit_ib : kitB "int" "bool" = some false := by decide +kernel
@[simp] theorem kit_sb : kitB "str" "bool" = some false := by decide +kernel
@[simp] theorem kit_tb : kitB "tuple" "bool" = some false := by decide +kernel
@[simp] theorem kit_lb : kitB "list" "bool" = some false := by decide +kernel
@[simp] theorem kit_ns : kitB "NoneType" "str" = some false := by decide +kernel
@[simp] theorem kit_bs : kitB "bool" "str" = some false := by decide +kernel
@[simp] theorem kit_is : kitB "int" "str" = some false := by decide +kernel
@[simp] theorem kit_ts : kitB "tuple" "str" = some false := by decide +kernel
@[simp] theorem kit_ls : kitB "list" "str" = some false := by decide +kernel
@[simp] theorem kit_nl : kitB "NoneType" "list" = some false := by decide +kernel
@[simp] theorem kit_bl : kitB "bool" "list" = some false := by decide +kernel
@[simp] theorem kit_il : kitB "int" "list" = some false := by decide +kernel
@[simp] theorem kit_sl : kitB "str" "list" = some false := by decide +kernel
@[simp] theorem kit_tl : kitB "tuple" "list" = some false := by decide +kernel
@[simp] theorem kit_nt : kitB "NoneType" "tuple" = some false := by decide +kernel
@[simp] theorem kit_bt : kitB "bool" "tuple" = some false := by decide +kernel
@[simp] theorem kit_it : kitB "int" "tuple" = some false := by decide +kernel
@[simp] theorem kit_st : kitB "str" "tuple" = some false := by decide +kernel
@[simp] theorem kit_lt : kitB "list" "tuple" = some false := by decide +kernel
end M

set_option Elab.async false
set_option linter.all false
set_option maxRecDepth 100000
set_option maxHeartbeats 2000000
namespace M
open PySem PySem.Spec PyProof.Rows L2
/-! ### what the head's run tells: defs and facts by names, and a Bool of our own -/
theorem clsB_ok {K : PySem.W.Frag} {C : Addr} (h : clsB K C = true) : ∃ nm q N bs bm sn sub ab col dd k0 k1 k2 k3 k5, K.lookup C = some (excClassObj nm q C N bs bm true sn sub ab col dd k0 k1 k2 k3 k5 "Exception.__new__") ∧ PySem.TErr.ownE bm = true := by
  unfold clsB at h
  split at h
  · rename_i dd cd sl ho
    split at h
    · rename_i C' bm k0 k1 k2 k3 n k5 hm hs
      simp only [Bool.and_eq_true, beq_iff_eq, Bool.not_eq_true'] at h
      obtain ⟨⟨⟨⟨e1, e2⟩, hdel⟩, hdct⟩, hok⟩ := h
      subst e1 e2
      obtain ⟨nm, bs, mro, ns, qn, hd, sn, sub, ab, col, del⟩ := cd
      dsimp only at hm hdel hdct hok
      subst hm hdel hdct
      have hsl : sl = #[k0, k1, k2, k3, some (.builtin "Exception.__new__"), k5] := by
        obtain ⟨l⟩ := sl
        simp only at hs
        rw [hs]
      subst hsl
      exact ⟨nm, qn, ns, bs, bm, sn, sub, ab, col, dd, k0, k1, k2, k3, k5, ho, hok⟩
    · cases h
  · cases h
theorem etxt_of {K : PySem.W.Frag} {h : Heap} {mg : Str → Option Value} {nm f : String} {qn : Str} {p1 p2 q1 q2 q3 q4 : Pos} {fd : FuncData} (X : K.In h) (G : h.Ns mainGlobals mg) (hf : PySem.TErr.Fld f) (hg : (He.Fa.glo (PySem.Str.ofString nm)).ok K = true)
    (hx : excB K (PySem.Str.ofString nm) (PySem.Str.ofString f) = true) (F : FunD K "__init__" qn (PySem.TErr.iA f p1 p2) (PySem.TErr.iB f q1 q2 q3 q4) (PySem.TErr.iS f) [] [] (He.ma K (He.ga K (PySem.Str.ofString nm)) "__init__") fd) :
    PySem.TErr.ETxt K mg nm f (He.ga K (PySem.Str.ofString nm)) (He.ma K (He.ga K (PySem.Str.ofString nm)) "__init__") := by
  obtain ⟨c1, hx⟩ := He.ba hx
  obtain ⟨c2, hx⟩ := He.ba hx
  obtain ⟨c3, hx⟩ := He.ba hx
  obtain ⟨c4, hx⟩ := He.ba hx
  obtain ⟨c5, hx⟩ := He.ba hx
  obtain ⟨c6, hx⟩ := He.ba hx
  obtain ⟨c7, hx⟩ := He.ba hx
  obtain ⟨c8, hx⟩ := He.ba hx
  obtain ⟨c9, hx⟩ := He.ba hx
  obtain ⟨c10, c11⟩ := He.ba hx
  obtain ⟨oc, od, dV, kV, doc, pm, an, cdv, ct, osl, e, lk, hcd, hD, hK⟩ := F.ex
  subst e
  rcases hD with ⟨_, e⟩ | ⟨e, _⟩
  · subst e
    exact { fld := hf, gC := He.glo_ok X G hg, cls := clsB_ok c1, sa := He.eqO_ok c2, ga := He.eqO_ok c3, gg := He.eqO_ok c4, noN := He.eqO_ok c5, iC := He.eqO_ok c6, tC := of_decide_eq_true c7, kC := c8, exC := of_decide_eq_true c9, tyC := of_decide_eq_true c10, hdC := c11,
            fn := ⟨qn, oc, od, kV, doc, pm, an, cdv, ct, osl, p1, p2, q1, q2, q3, q4, lk, hcd⟩ }
  · exact absurd rfl e
theorem bareB_ok {K : PySem.W.Frag} {x : Str} (h : bareB K x = true) : PySem.W.excIn K (He.ga K x) PySem.TErr.endE "Exception.__new__" = true ∧ PySem.W.keepIn K (.ref (He.ga K x)) = true ∧ PySem.W.subIn K (.ref (He.ga K x)) (.type "BaseException") = some true ∧ PySem.W.typeIn K (.ref (He.ga K x)) = some (.type "type") := by
  obtain ⟨c1, h⟩ := He.ba h
  obtain ⟨c2, h⟩ := He.ba h
  obtain ⟨c3, c4⟩ := He.ba h
  exact ⟨c1, c2, of_decide_eq_true c3, of_decide_eq_true c4⟩
theorem exB_ok {K : PySem.W.Frag} {nm : Nat → Str} {ex : Nat → Nat → Bool} {nE nC : Nat} (h : exB K nm ex nE nC = true) (c d : Nat) (hc : c < nE) (hd : d < nC) : PySem.W.exmOne K (.ref (He.ga K (nm c))) (.ref (He.ga K (nm d))) = some (ex c d) := by
  have h1 := List.all_eq_true.mp h c (List.mem_range.mpr hc)
  exact of_decide_eq_true (List.all_eq_true.mp h1 d (List.mem_range.mpr hd))
theorem kt_of {K : PySem.W.Frag} {x : Str} {vs : List He.Dv} (h : He.tupB K x vs = true) : KT K (He.ga K x) (vs.map (He.Dv.v K)) := by
  rcases He.tupB_ok h (fun _ => none) with (z | ⟨o, z⟩) | z
  · cases z
  · cases z
  · exact z
/-! ### the law -/
/-- what the law promises of a script -/
def spLaw (K : PySem.W.Frag) : Sp := fun vs H Q _ => ∃ (a : Addr) (ns : List Int), vs = [.ref a] ∧ SqL K H a (ns.map V.int) ∧ ns.length ≤ 63 ∧ ∀ H', Q (.bl true) H'
theorem law_start {Z : Zt} {m : D → N D} (hm : ∀ ns : List Int, ns.length ≤ 63 → (m (.lst (ns.map D.int))).wp (fun d => d = .bl true) (fun _ _ => False)) (vs : List V) (H : Hp) (Q : VK) (E : XK) (h : spLaw Z.K vs H Q E) : spN Z 1 (app1 m) vs H Q E := by
  obtain ⟨a, ns, rfl, hs, hl, q⟩ := h
  refine ⟨rfl, ?_⟩
  have fin : ∀ F, Okk F H → RL Z.K F a (ns.map V.int) → ∃ F ds, Okk F H ∧ RpL Z F [.ref a] ds ∧ (app1 m ds).wp (fun d => ∀ v F' H', Ext F H F' H' → Rp Z F' v d → Q v H') (fun c x => ∀ cls dd F' H', Ext F H F' H' → ErrIs Z F' c x cls dd → E cls dd H') := fun F ok r =>
    ⟨F, [.lst (ns.map D.int)], ok, .cons (.lst r (rpl_int ns)) .nil, (m _).mono (fun d e v F' H' _ r => by subst e; rw [rp_bl r]; exact q H') (fun _ _ z => z.elim) (hm ns hl)⟩
  rcases hs with (hr | ⟨o, hr⟩) | hk
  · refine fin (updT (fun _ => none) a (is (.lst (ns.map V.int)))) (fun b p e => ?_) (.inl (.inl updT_same))
    by_cases z : b = a
    · subst z; rw [updT_same] at e; cases e; exact ⟨_, hr, rfl, fun _ => rfl⟩
    · rw [updT_ne z] at e; cases e
  · refine fin (updT (fun _ => none) a (is (.frz o (.lst (ns.map V.int))))) (fun b p e => ?_) (.inl (.inr ⟨o, updT_same⟩))
    by_cases z : b = a
    · subst z; rw [updT_same] at e; cases e; exact ⟨_, hr, rfl, fun _ => rfl⟩
    · rw [updT_ne z] at e; cases e
  · exact fin (fun _ => none) (fun _ _ e => by cases e) (.inr hk)
theorem walk {l : PySem.W.OpenLaw} {k : Nat} {q : Program} {loose : List Str} {XP : (Str → Option Value) → Heap → Prop} {YP : World → Heap → Prop} {d : DefRec} {x : Str} (hn : l.most = some 63) (hdf : d.params.defaults = []) (hr : Room k callerA)
    (F : ∀ (w : World) (mg : Str → Option Value) (fa : Addr) (h : Heap), YP w h → h.Ns mainGlobals mg → mg d.name = some (.ref fa) →
      ∃ (K : PySem.W.Frag) (fd : FuncData), K.In h ∧ (∀ (s : Shared) (u : Value), BindsTo s fd ⟨[u], []⟩ [(x, u)]) ∧ ∀ base : Heap, K.In base → base.Ns mainGlobals mg → FnOk l.prog w K mg base (L2.CX l.prog w) k fa fd [x] (spLaw K)) :
    PySem.W.WalkO q loose XP YP l.row.toRowW d [] (fun f vs => PySem.call f vs) := by
  refine Att.attach_call hn hdf fun w s₀ s₁ mg mb fa o pm cd doc a vs ns G Y ho hd hcd hmg hobj hints hlen hg => ?_
  obtain ⟨K, fd, KX, hb, hF⟩ := F w mg fa _ Y G.T.g hmg
  exact law_call KX G.T.g G.T.b G.T.builtins G.T.nolimit hg hobj hints (Nat.le_trans hlen (by decide)) hr hF hb (fun H hO hS => ⟨a, ns, rfl, hS, hlen, fun _ => rfl⟩) fun H e s' ⟨_, _, _, _, _, _, _, _, _, _, _, _, z⟩ => z
end M

set_option Elab.async false
set_option linter.all false
set_option maxRecDepth 100000
set_option maxHeartbeats 4000000
namespace M
open PySem L2
theorem eqS_int (a b : Int) : dEqS (.int a) (.int b) = .ok (.bl (decide (a = b))) := rfl
theorem lt_int (a b : Int) : dLt (.int a) (.int b) = .ok (.bl (decide (a < b))) := rfl
theorem le1_2 (x y : D) : N.le1 [x, y] = .ok () := N.le1_of (by have := size64; simp; omega)
theorem hd_skip {τ β : Type} {c : Nat} {x : D} {h : Hd τ β} {hs : List (Hd τ β)} (hc : c < 36) (he : exT c h.ci = false) : handle exT 36 c x (h :: hs) = handle exT 36 c x hs := by
  show (N.asrt (c < 36)).bind (fun _ => if exT c h.ci = true then N.ne (h.m x) else handle exT 36 c x hs) = _
  rw [N.asrt_of hc]
  show (if exT c h.ci = true then N.ne (h.m x) else handle exT 36 c x hs) = _
  rw [if_neg (by rw [he]; exact Bool.false_ne_true)]
theorem hd_take {τ β : Type} {c : Nat} {x : D} {h : Hd τ β} {hs : List (Hd τ β)} (hc : c < 36) (he : exT c h.ci = true) : handle exT 36 c x (h :: hs) = N.ne (h.m x) := by
  show (N.asrt (c < 36)).bind (fun _ => if exT c h.ci = true then N.ne (h.m x) else handle exT 36 c x hs) = _
  rw [N.asrt_of hc]
  show (if exT c h.ci = true then N.ne (h.m x) else handle exT 36 c x hs) = _
  rw [if_pos he]
theorem hd_none {τ β : Type} {c : Nat} {x : D} (hc : c < 36) : (handle exT 36 c x [] : N (Fl τ β)) = .err c x := by
  show (N.asrt (c < 36)).bind (fun _ => N.err c x) = _
  rw [N.asrt_of hc]
  rfl

theorem raise_0 (t : D) : m_law_raise (.int 0) t = .err 0 t := by
  unfold m_law_raise m_law_raise_a
  simp [eqS_int, lt_int, N.bind_seq]
theorem base_0 (t : D) : m_law_is_base (.int 0) t = .ok (.bl true) := by
  unfold m_law_is_base
  simp only [N.ok_bind, raise_0, N.err_bind, N.err_seq, N.try_err]
  rw [hd_take (by decide) rfl]
  rfl
theorem caught_a_0 (t : D) : m_law_caught_a (.int 0) t = .ok (.tup [.int 0, t]) := by
  unfold m_law_caught_a
  simp only [N.ok_bind, raise_0, N.err_bind, N.err_seq, N.try_err]
  rw [hd_take (by decide) rfl]
  simp only [le1_2, N.ok_bind, N.ne_ok, N.rt_seq, N.rt_fin]
theorem caught_b_0 (t : D) : m_law_caught_b (.int 0) t = .ok (.tup [.int 0, t]) := by
  unfold m_law_caught_b
  simp only [N.ok_bind, caught_a_0, N.try_ok, N.rt_seq, N.rt_fin]
theorem caught_c_0 (t : D) : m_law_caught_c (.int 0) t = .ok (.tup [.int 0, t]) := by
  unfold m_law_caught_c
  simp only [N.ok_bind, caught_b_0, N.try_ok, N.rt_seq, N.rt_fin]
theorem raise_1 (t : D) : m_law_raise (.int 1) t = .err 1 t := by
  unfold m_law_raise m_law_raise_a
  simp [eqS_int, lt_int, N.bind_seq]
theorem base_1 (t : D) : m_law_is_base (.int 1) t = .ok (.bl true) := by
  unfold m_law_is_base
  simp only [N.ok_bind, raise_1, N.err_bind, N.err_seq, N.try_err]
  rw [hd_take (by decide) rfl]
  rfl
theorem caught_a_1 (t : D) : m_law_caught_a (.int 1) t = .ok (.tup [.int 1, t]) := by
  unfold m_law_caught_a
  simp only [N.ok_bind, raise_1, N.err_bind, N.err_seq, N.try_err]
  rw [hd_skip (by decide) rfl]
  rw [hd_take (by decide) rfl]
  simp only [le1_2, N.ok_bind, N.ne_ok, N.rt_seq, N.rt_fin]
theorem caught_b_1 (t : D) : m_law_caught_b (.int 1) t = .ok (.tup [.int 1, t]) := by
  unfold m_law_caught_b
  simp only [N.ok_bind, caught_a_1, N.try_ok, N.rt_seq, N.rt_fin]
theorem caught_c_1 (t : D) : m_law_caught_c (.int 1) t = .ok (.tup [.int 1, t]) := by
  unfold m_law_caught_c
  simp only [N.ok_bind, caught_b_1, N.try_ok, N.rt_seq, N.rt_fin]
theorem raise_2 (t : D) : m_law_raise (.int 2) t = .err 2 t := by
  unfold m_law_raise m_law_raise_a
  simp [eqS_int, lt_int, N.bind_seq]
theorem base_2 (t : D) : m_law_is_base (.int 2) t = .ok (.bl true) := by
  unfold m_law_is_base
  simp only [N.ok_bind, raise_2, N.err_bind, N.err_seq, N.try_err]
  rw [hd_take (by decide) rfl]
  rfl
theorem caught_a_2 (t : D) : m_law_caught_a (.int 2) t = .ok (.tup [.int 2, t]) := by
  unfold m_law_caught_a
  simp only [N.ok_bind, raise_2, N.err_bind, N.err_seq, N.try_err]
  rw [hd_skip (by decide) rfl, hd_skip (by decide) rfl]
  rw [hd_take (by decide) rfl]
  simp only [le1_2, N.ok_bind, N.ne_ok, N.rt_seq, N.rt_fin]
theorem caught_b_2 (t : D) : m_law_caught_b (.int 2) t = .ok (.tup [.int 2, t]) := by
  unfold m_law_caught_b
  simp only [N.ok_bind, caught_a_2, N.try_ok, N.rt_seq, N.rt_fin]
theorem caught_c_2 (t : D) : m_law_caught_c (.int 2) t = .ok (.tup [.int 2, t]) := by
  unfold m_law_caught_c
  simp only [N.ok_bind, caught_b_2, N.try_ok, N.rt_seq, N.rt_fin]
theorem raise_3 (t : D) : m_law_raise (.int 3) t = .err 3 t := by
  unfold m_law_raise m_law_raise_a
  simp [eqS_int, lt_int, N.bind_seq]
theorem base_3 (t : D) : m_law_is_base (.int 3) t = .ok (.bl true) := by
  unfold m_law_is_base
  simp only [N.ok_bind, raise_3, N.err_bind, N.err_seq, N.try_err]
  rw [hd_take (by decide) rfl]
  rfl
theorem caught_a_3 (t : D) : m_law_caught_a (.int 3) t = .ok (.tup [.int 3, t]) := by
  unfold m_law_caught_a
  simp only [N.ok_bind, raise_3, N.err_bind, N.err_seq, N.try_err]
  rw [hd_skip (by decide) rfl, hd_skip (by decide) rfl, hd_skip (by decide) rfl]
  rw [hd_take (by decide) rfl]
  simp only [le1_2, N.ok_bind, N.ne_ok, N.rt_seq, N.rt_fin]
theorem caught_b_3 (t : D) : m_law_caught_b (.int 3) t = .ok (.tup [.int 3, t]) := by
  unfold m_law_caught_b
  simp only [N.ok_bind, caught_a_3, N.try_ok, N.rt_seq, N.rt_fin]
theorem caught_c_3 (t : D) : m_law_caught_c (.int 3) t = .ok (.tup [.int 3, t]) := by
  unfold m_law_caught_c
  simp only [N.ok_bind, caught_b_3, N.try_ok, N.rt_seq, N.rt_fin]
theorem raise_4 (t : D) : m_law_raise (.int 4) t = .err 4 t := by
  unfold m_law_raise m_law_raise_a
  simp [eqS_int, lt_int, N.bind_seq]
theorem base_4 (t : D) : m_law_is_base (.int 4) t = .ok (.bl true) := by
  unfold m_law_is_base
  simp only [N.ok_bind, raise_4, N.err_bind, N.err_seq, N.try_err]
  rw [hd_take (by decide) rfl]
  rfl
theorem caught_a_4 (t : D) : m_law_caught_a (.int 4) t = .ok (.tup [.int 4, t]) := by
  unfold m_law_caught_a
  simp only [N.ok_bind, raise_4, N.err_bind, N.err_seq, N.try_err]
  rw [hd_skip (by decide) rfl, hd_skip (by decide) rfl, hd_skip (by decide) rfl, hd_skip (by decide) rfl]
  rw [hd_take (by decide) rfl]
  simp only [le1_2, N.ok_bind, N.ne_ok, N.rt_seq, N.rt_fin]
theorem caught_b_4 (t : D) : m_law_caught_b (.int 4) t = .ok (.tup [.int 4, t]) := by
  unfold m_law_caught_b
  simp only [N.ok_bind, caught_a_4, N.try_ok, N.rt_seq, N.rt_fin]
theorem caught_c_4 (t : D) : m_law_caught_c (.int 4) t = .ok (.tup [.int 4, t]) := by
  unfold m_law_caught_c
  simp only [N.ok_bind, caught_b_4, N.try_ok, N.rt_seq, N.rt_fin]
theorem raise_5 (t : D) : m_law_raise (.int 5) t = .err 5 t := by
  unfold m_law_raise m_law_raise_a
  simp [eqS_int, lt_int, N.bind_seq]
theorem base_5 (t : D) : m_law_is_base (.int 5) t = .ok (.bl true) := by
  unfold m_law_is_base
  simp only [N.ok_bind, raise_5, N.err_bind, N.err_seq, N.try_err]
  rw [hd_take (by decide) rfl]
  rfl
theorem caught_a_5 (t : D) : m_law_caught_a (.int 5) t = .ok (.tup [.int 5, t]) := by
  unfold m_law_caught_a
  simp only [N.ok_bind, raise_5, N.err_bind, N.err_seq, N.try_err]
  rw [hd_skip (by decide) rfl, hd_skip (by decide) rfl, hd_skip (by decide) rfl, hd_skip (by decide) rfl, hd_skip (by decide) rfl]
  rw [hd_take (by decide) rfl]
  simp only [le1_2, N.ok_bind, N.ne_ok, N.rt_seq, N.rt_fin]
theorem caught_b_5 (t : D) : m_law_caught_b (.int 5) t = .ok (.tup [.int 5, t]) := by
  unfold m_law_caught_b
  simp only [N.ok_bind, caught_a_5, N.try_ok, N.rt_seq, N.rt_fin]
theorem caught_c_5 (t : D) : m_law_caught_c (.int 5) t = .ok (.tup [.int 5, t]) := by
  unfold m_law_caught_c
  simp only [N.ok_bind, caught_b_5, N.try_ok, N.rt_seq, N.rt_fin]
theorem raise_6 (t : D) : m_law_raise (.int 6) t = .err 6 t := by
  unfold m_law_raise m_law_raise_a
  simp [eqS_int, lt_int, N.bind_seq]
theorem base_6 (t : D) : m_law_is_base (.int 6) t = .ok (.bl true) := by
  unfold m_law_is_base
  simp only [N.ok_bind, raise_6, N.err_bind, N.err_seq, N.try_err]
  rw [hd_take (by decide) rfl]
  rfl
theorem caught_a_6 (t : D) : m_law_caught_a (.int 6) t = .ok (.tup [.int 6, t]) := by
  unfold m_law_caught_a
  simp only [N.ok_bind, raise_6, N.err_bind, N.err_seq, N.try_err]
  rw [hd_skip (by decide) rfl, hd_skip (by decide) rfl, hd_skip (by decide) rfl, hd_skip (by decide) rfl, hd_skip (by decide) rfl, hd_skip (by decide) rfl]
  rw [hd_take (by decide) rfl]
  simp only [le1_2, N.ok_bind, N.ne_ok, N.rt_seq, N.rt_fin]
theorem caught_b_6 (t : D) : m_law_caught_b (.int 6) t = .ok (.tup [.int 6, t]) := by
  unfold m_law_caught_b
  simp only [N.ok_bind, caught_a_6, N.try_ok, N.rt_seq, N.rt_fin]
theorem caught_c_6 (t : D) : m_law_caught_c (.int 6) t = .ok (.tup [.int 6, t]) := by
  unfold m_law_caught_c
  simp only [N.ok_bind, caught_b_6, N.try_ok, N.rt_seq, N.rt_fin]
theorem raise_7 (t : D) : m_law_raise (.int 7) t = .err 7 t := by
  unfold m_law_raise m_law_raise_a
  simp [eqS_int, lt_int, N.bind_seq]
theorem base_7 (t : D) : m_law_is_base (.int 7) t = .ok (.bl true) := by
  unfold m_law_is_base
  simp only [N.ok_bind, raise_7, N.err_bind, N.err_seq, N.try_err]
  rw [hd_take (by decide) rfl]
  rfl
theorem caught_a_7 (t : D) : m_law_caught_a (.int 7) t = .ok (.tup [.int 7, t]) := by
  unfold m_law_caught_a
  simp only [N.ok_bind, raise_7, N.err_bind, N.err_seq, N.try_err]
  rw [hd_skip (by decide) rfl, hd_skip (by decide) rfl, hd_skip (by decide) rfl, hd_skip (by decide) rfl, hd_skip (by decide) rfl, hd_skip (by decide) rfl, hd_skip (by decide) rfl]
  rw [hd_take (by decide) rfl]
  simp only [le1_2, N.ok_bind, N.ne_ok, N.rt_seq, N.rt_fin]
theorem caught_b_7 (t : D) : m_law_caught_b (.int 7) t = .ok (.tup [.int 7, t]) := by
  unfold m_law_caught_b
  simp only [N.ok_bind, caught_a_7, N.try_ok, N.rt_seq, N.rt_fin]
theorem caught_c_7 (t : D) : m_law_caught_c (.int 7) t = .ok (.tup [.int 7, t]) := by
  unfold m_law_caught_c
  simp only [N.ok_bind, caught_b_7, N.try_ok, N.rt_seq, N.rt_fin]
theorem raise_8 (t : D) : m_law_raise (.int 8) t = .err 8 t := by
  unfold m_law_raise m_law_raise_a
  simp [eqS_int, lt_int, N.bind_seq]
theorem base_8 (t : D) : m_law_is_base (.int 8) t = .ok (.bl true) := by
  unfold m_law_is_base
  simp only [N.ok_bind, raise_8, N.err_bind, N.err_seq, N.try_err]
  rw [hd_take (by decide) rfl]
  rfl
theorem caught_a_8 (t : D) : m_law_caught_a (.int 8) t = .ok (.tup [.int 8, t]) := by
  unfold m_law_caught_a
  simp only [N.ok_bind, raise_8, N.err_bind, N.err_seq, N.try_err]
  rw [hd_skip (by decide) rfl, hd_skip (by decide) rfl, hd_skip (by decide) rfl, hd_skip (by decide) rfl, hd_skip (by decide) rfl, hd_skip (by decide) rfl, hd_skip (by decide) rfl, hd_skip (by decide) rfl]
  rw [hd_take (by decide) rfl]
  simp only [le1_2, N.ok_bind, N.ne_ok, N.rt_seq, N.rt_fin]
theorem caught_b_8 (t : D) : m_law_caught_b (.int 8) t = .ok (.tup [.int 8, t]) := by
  unfold m_law_caught_b
  simp only [N.ok_bind, caught_a_8, N.try_ok, N.rt_seq, N.rt_fin]
theorem caught_c_8 (t : D) : m_law_caught_c (.int 8) t = .ok (.tup [.int 8, t]) := by
  unfold m_law_caught_c
  simp only [N.ok_bind, caught_b_8, N.try_ok, N.rt_seq, N.rt_fin]
theorem raise_9 (t : D) : m_law_raise (.int 9) t = .err 9 t := by
  unfold m_law_raise m_law_raise_a
  simp [eqS_int, lt_int, N.bind_seq]
theorem base_9 (t : D) : m_law_is_base (.int 9) t = .ok (.bl true) := by
  unfold m_law_is_base
  simp only [N.ok_bind, raise_9, N.err_bind, N.err_seq, N.try_err]
  rw [hd_take (by decide) rfl]
  rfl
theorem caught_a_9 (t : D) : m_law_caught_a (.int 9) t = .ok (.tup [.int 9, t]) := by
  unfold m_law_caught_a
  simp only [N.ok_bind, raise_9, N.err_bind, N.err_seq, N.try_err]
  rw [hd_skip (by decide) rfl, hd_skip (by decide) rfl, hd_skip (by decide) rfl, hd_skip (by decide) rfl, hd_skip (by decide) rfl, hd_skip (by decide) rfl, hd_skip (by decide) rfl, hd_skip (by decide) rfl, hd_skip (by decide) rfl]
  rw [hd_take (by decide) rfl]
  simp only [le1_2, N.ok_bind, N.ne_ok, N.rt_seq, N.rt_fin]
theorem caught_b_9 (t : D) : m_law_caught_b (.int 9) t = .ok (.tup [.int 9, t]) := by
  unfold m_law_caught_b
  simp only [N.ok_bind, caught_a_9, N.try_ok, N.rt_seq, N.rt_fin]
theorem caught_c_9 (t : D) : m_law_caught_c (.int 9) t = .ok (.tup [.int 9, t]) := by
  unfold m_law_caught_c
  simp only [N.ok_bind, caught_b_9, N.try_ok, N.rt_seq, N.rt_fin]
theorem raise_10 (t : D) : m_law_raise (.int 10) t = .err 10 t := by
  unfold m_law_raise m_law_raise_a
  simp [eqS_int, lt_int, N.bind_seq]
theorem base_10 (t : D) : m_law_is_base (.int 10) t = .ok (.bl true) := by
  unfold m_law_is_base
  simp only [N.ok_bind, raise_10, N.err_bind, N.err_seq, N.try_err]
  rw [hd_take (by decide) rfl]
  rfl
theorem caught_a_10 (t : D) : m_law_caught_a (.int 10) t = .ok (.tup [.int 10, t]) := by
  unfold m_law_caught_a
  simp only [N.ok_bind, raise_10, N.err_bind, N.err_seq, N.try_err]
  rw [hd_skip (by decide) rfl, hd_skip (by decide) rfl, hd_skip (by decide) rfl, hd_skip (by decide) rfl, hd_skip (by decide) rfl, hd_skip (by decide) rfl, hd_skip (by decide) rfl, hd_skip (by decide) rfl, hd_skip (by decide) rfl, hd_skip (by decide) rfl]
  rw [hd_take (by decide) rfl]
  simp only [le1_2, N.ok_bind, N.ne_ok, N.rt_seq, N.rt_fin]
theorem caught_b_10 (t : D) : m_law_caught_b (.int 10) t = .ok (.tup [.int 10, t]) := by
  unfold m_law_caught_b
  simp only [N.ok_bind, caught_a_10, N.try_ok, N.rt_seq, N.rt_fin]
theorem caught_c_10 (t : D) : m_law_caught_c (.int 10) t = .ok (.tup [.int 10, t]) := by
  unfold m_law_caught_c
  simp only [N.ok_bind, caught_b_10, N.try_ok, N.rt_seq, N.rt_fin]
theorem raise_11 (t : D) : m_law_raise (.int 11) t = .err 11 t := by
  unfold m_law_raise m_law_raise_a
  simp [eqS_int, lt_int, N.bind_seq]
theorem base_11 (t : D) : m_law_is_base (.int 11) t = .ok (.bl true) := by
  unfold m_law_is_base
  simp only [N.ok_bind, raise_11, N.err_bind, N.err_seq, N.try_err]
  rw [hd_take (by decide) rfl]
  rfl
theorem caught_a_11 (t : D) : m_law_caught_a (.int 11) t = .ok (.tup [.int 11, t]) := by
  unfold m_law_caught_a
  simp only [N.ok_bind, raise_11, N.err_bind, N.err_seq, N.try_err]
  rw [hd_skip (by decide) rfl, hd_skip (by decide) rfl, hd_skip (by decide) rfl, hd_skip (by decide) rfl, hd_skip (by decide) rfl, hd_skip (by decide) rfl, hd_skip (by decide) rfl, hd_skip (by decide) rfl, hd_skip (by decide) rfl, hd_skip (by decide) rfl, hd_skip (by decide) rfl]
  rw [hd_take (by decide) rfl]
  simp only [le1_2, N.ok_bind, N.ne_ok, N.rt_seq, N.rt_fin]
theorem caught_b_11 (t : D) : m_law_caught_b (.int 11) t = .ok (.tup [.int 11, t]) := by
  unfold m_law_caught_b
  simp only [N.ok_bind, caught_a_11, N.try_ok, N.rt_seq, N.rt_fin]
theorem caught_c_11 (t : D) : m_law_caught_c (.int 11) t = .ok (.tup [.int 11, t]) := by
  unfold m_law_caught_c
  simp only [N.ok_bind, caught_b_11, N.try_ok, N.rt_seq, N.rt_fin]
theorem raise_12 (t : D) : m_law_raise (.int 12) t = .err 12 t := by
  unfold m_law_raise m_law_raise_a
  simp [eqS_int, lt_int, N.bind_seq]
theorem base_12 (t : D) : m_law_is_base (.int 12) t = .ok (.bl true) := by
  unfold m_law_is_base
  simp only [N.ok_bind, raise_12, N.err_bind, N.err_seq, N.try_err]
  rw [hd_take (by decide) rfl]
  rfl
theorem caught_a_12 (t : D) : m_law_caught_a (.int 12) t = .ok (.tup [.int 12, t]) := by
  unfold m_law_caught_a
  simp only [N.ok_bind, raise_12, N.err_bind, N.err_seq, N.try_err]
  rw [hd_skip (by decide) rfl, hd_skip (by decide) rfl, hd_skip (by decide) rfl, hd_skip (by decide) rfl, hd_skip (by decide) rfl, hd_skip (by decide) rfl, hd_skip (by decide) rfl, hd_skip (by decide) rfl, hd_skip (by decide) rfl, hd_skip (by decide) rfl, hd_skip (by decide) rfl, hd_skip (by decide) rfl]
  rw [hd_take (by decide) rfl]
  simp only [le1_2, N.ok_bind, N.ne_ok, N.rt_seq, N.rt_fin]
theorem caught_b_12 (t : D) : m_law_caught_b (.int 12) t = .ok (.tup [.int 12, t]) := by
  unfold m_law_caught_b
  simp only [N.ok_bind, caught_a_12, N.try_ok, N.rt_seq, N.rt_fin]
theorem caught_c_12 (t : D) : m_law_caught_c (.int 12) t = .ok (.tup [.int 12, t]) := by
  unfold m_law_caught_c
  simp only [N.ok_bind, caught_b_12, N.try_ok, N.rt_seq, N.rt_fin]
theorem raise_13 (t : D) : m_law_raise (.int 13) t = .err 13 t := by
  unfold m_law_raise m_law_raise_a
  simp [eqS_int, lt_int, N.bind_seq]
theorem base_13 (t : D) : m_law_is_base (.int 13) t = .ok (.bl true) := by
  unfold m_law_is_base
  simp only [N.ok_bind, raise_13, N.err_bind, N.err_seq, N.try_err]
  rw [hd_take (by decide) rfl]
  rfl
theorem caught_a_13 (t : D) : m_law_caught_a (.int 13) t = .ok (.tup [.int 13, t]) := by
  unfold m_law_caught_a
  simp only [N.ok_bind, raise_13, N.err_bind, N.err_seq, N.try_err]
  rw [hd_skip (by decide) rfl, hd_skip (by decide) rfl, hd_skip (by decide) rfl, hd_skip (by decide) rfl, hd_skip (by decide) rfl, hd_skip (by decide) rfl, hd_skip (by decide) rfl, hd_skip (by decide) rfl, hd_skip (by decide) rfl, hd_skip (by decide) rfl, hd_skip (by decide) rfl, hd_skip (by decide) rfl, hd_skip (by decide) rfl]
  rw [hd_take (by decide) rfl]
  simp only [le1_2, N.ok_bind, N.ne_ok, N.rt_seq, N.rt_fin]
theorem caught_b_13 (t : D) : m_law_caught_b (.int 13) t = .ok (.tup [.int 13, t]) := by
  unfold m_law_caught_b
  simp only [N.ok_bind, caught_a_13, N.try_ok, N.rt_seq, N.rt_fin]
theorem caught_c_13 (t : D) : m_law_caught_c (.int 13) t = .ok (.tup [.int 13, t]) := by
  unfold m_law_caught_c
  simp only [N.ok_bind, caught_b_13, N.try_ok, N.rt_seq, N.rt_fin]
theorem raise_14 (t : D) : m_law_raise (.int 14) t = .err 14 t := by
  unfold m_law_raise m_law_raise_a
  simp [eqS_int, lt_int, N.bind_seq]
theorem base_14 (t : D) : m_law_is_base (.int 14) t = .ok (.bl true) := by
  unfold m_law_is_base
  simp only [N.ok_bind, raise_14, N.err_bind, N.err_seq, N.try_err]
  rw [hd_take (by decide) rfl]
  rfl
theorem caught_a_14 (t : D) : m_law_caught_a (.int 14) t = .ok (.tup [.int 14, t]) := by
  unfold m_law_caught_a
  simp only [N.ok_bind, raise_14, N.err_bind, N.err_seq, N.try_err]
  rw [hd_skip (by decide) rfl, hd_skip (by decide) rfl, hd_skip (by decide) rfl, hd_skip (by decide) rfl, hd_skip (by decide) rfl, hd_skip (by decide) rfl, hd_skip (by decide) rfl, hd_skip (by decide) rfl, hd_skip (by decide) rfl, hd_skip (by decide) rfl, hd_skip (by decide) rfl, hd_skip (by decide) rfl, hd_skip (by decide) rfl, hd_skip (by decide) rfl]
  rw [hd_take (by decide) rfl]
  simp only [le1_2, N.ok_bind, N.ne_ok, N.rt_seq, N.rt_fin]
theorem caught_b_14 (t : D) : m_law_caught_b (.int 14) t = .ok (.tup [.int 14, t]) := by
  unfold m_law_caught_b
  simp only [N.ok_bind, caught_a_14, N.try_ok, N.rt_seq, N.rt_fin]
theorem caught_c_14 (t : D) : m_law_caught_c (.int 14) t = .ok (.tup [.int 14, t]) := by
  unfold m_law_caught_c
  simp only [N.ok_bind, caught_b_14, N.try_ok, N.rt_seq, N.rt_fin]
theorem raise_15 (t : D) : m_law_raise (.int 15) t = .err 15 t := by
  unfold m_law_raise m_law_raise_b
  simp [eqS_int, lt_int, N.bind_seq]
theorem base_15 (t : D) : m_law_is_base (.int 15) t = .ok (.bl true) := by
  unfold m_law_is_base
  simp only [N.ok_bind, raise_15, N.err_bind, N.err_seq, N.try_err]
  rw [hd_take (by decide) rfl]
  rfl
theorem caught_a_15 (t : D) : m_law_caught_a (.int 15) t = .err 15 t := by
  unfold m_law_caught_a
  simp only [N.ok_bind, raise_15, N.err_bind, N.err_seq, N.try_err]
  rw [hd_skip (by decide) rfl, hd_skip (by decide) rfl, hd_skip (by decide) rfl, hd_skip (by decide) rfl, hd_skip (by decide) rfl, hd_skip (by decide) rfl, hd_skip (by decide) rfl, hd_skip (by decide) rfl, hd_skip (by decide) rfl, hd_skip (by decide) rfl, hd_skip (by decide) rfl, hd_skip (by decide) rfl, hd_skip (by decide) rfl, hd_skip (by decide) rfl, hd_skip (by decide) rfl]
  rw [hd_none (by decide)]
  rfl
theorem caught_b_15 (t : D) : m_law_caught_b (.int 15) t = .ok (.tup [.int 15, t]) := by
  unfold m_law_caught_b
  simp only [N.ok_bind, caught_a_15, N.err_bind, N.err_seq, N.try_err]
  rw [hd_take (by decide) rfl]
  simp only [le1_2, N.ok_bind, N.ne_ok, N.rt_seq, N.rt_fin]
theorem caught_c_15 (t : D) : m_law_caught_c (.int 15) t = .ok (.tup [.int 15, t]) := by
  unfold m_law_caught_c
  simp only [N.ok_bind, caught_b_15, N.try_ok, N.rt_seq, N.rt_fin]
theorem raise_16 (t : D) : m_law_raise (.int 16) t = .err 16 t := by
  unfold m_law_raise m_law_raise_b
  simp [eqS_int, lt_int, N.bind_seq]
theorem base_16 (t : D) : m_law_is_base (.int 16) t = .ok (.bl true) := by
  unfold m_law_is_base
  simp only [N.ok_bind, raise_16, N.err_bind, N.err_seq, N.try_err]
  rw [hd_take (by decide) rfl]
  rfl
theorem caught_a_16 (t : D) : m_law_caught_a (.int 16) t = .err 16 t := by
  unfold m_law_caught_a
  simp only [N.ok_bind, raise_16, N.err_bind, N.err_seq, N.try_err]
  rw [hd_skip (by decide) rfl, hd_skip (by decide) rfl, hd_skip (by decide) rfl, hd_skip (by decide) rfl, hd_skip (by decide) rfl, hd_skip (by decide) rfl, hd_skip (by decide) rfl, hd_skip (by decide) rfl, hd_skip (by decide) rfl, hd_skip (by decide) rfl, hd_skip (by decide) rfl, hd_skip (by decide) rfl, hd_skip (by decide) rfl, hd_skip (by decide) rfl, hd_skip (by decide) rfl]
  rw [hd_none (by decide)]
  rfl
theorem caught_b_16 (t : D) : m_law_caught_b (.int 16) t = .ok (.tup [.int 16, t]) := by
  unfold m_law_caught_b
  simp only [N.ok_bind, caught_a_16, N.err_bind, N.err_seq, N.try_err]
  rw [hd_skip (by decide) rfl]
  rw [hd_take (by decide) rfl]
  simp only [le1_2, N.ok_bind, N.ne_ok, N.rt_seq, N.rt_fin]
theorem caught_c_16 (t : D) : m_law_caught_c (.int 16) t = .ok (.tup [.int 16, t]) := by
  unfold m_law_caught_c
  simp only [N.ok_bind, caught_b_16, N.try_ok, N.rt_seq, N.rt_fin]
theorem raise_17 (t : D) : m_law_raise (.int 17) t = .err 17 t := by
  unfold m_law_raise m_law_raise_b
  simp [eqS_int, lt_int, N.bind_seq]
theorem base_17 (t : D) : m_law_is_base (.int 17) t = .ok (.bl true) := by
  unfold m_law_is_base
  simp only [N.ok_bind, raise_17, N.err_bind, N.err_seq, N.try_err]
  rw [hd_take (by decide) rfl]
  rfl
theorem caught_a_17 (t : D) : m_law_caught_a (.int 17) t = .err 17 t := by
  unfold m_law_caught_a
  simp only [N.ok_bind, raise_17, N.err_bind, N.err_seq, N.try_err]
  rw [hd_skip (by decide) rfl, hd_skip (by decide) rfl, hd_skip (by decide) rfl, hd_skip (by decide) rfl, hd_skip (by decide) rfl, hd_skip (by decide) rfl, hd_skip (by decide) rfl, hd_skip (by decide) rfl, hd_skip (by decide) rfl, hd_skip (by decide) rfl, hd_skip (by decide) rfl, hd_skip (by decide) rfl, hd_skip (by decide) rfl, hd_skip (by decide) rfl, hd_skip (by decide) rfl]
  rw [hd_none (by decide)]
  rfl
theorem caught_b_17 (t : D) : m_law_caught_b (.int 17) t = .ok (.tup [.int 17, t]) := by
  unfold m_law_caught_b
  simp only [N.ok_bind, caught_a_17, N.err_bind, N.err_seq, N.try_err]
  rw [hd_skip (by decide) rfl, hd_skip (by decide) rfl]
  rw [hd_take (by decide) rfl]
  simp only [le1_2, N.ok_bind, N.ne_ok, N.rt_seq, N.rt_fin]
theorem caught_c_17 (t : D) : m_law_caught_c (.int 17) t = .ok (.tup [.int 17, t]) := by
  unfold m_law_caught_c
  simp only [N.ok_bind, caught_b_17, N.try_ok, N.rt_seq, N.rt_fin]
theorem raise_18 (t : D) : m_law_raise (.int 18) t = .err 18 t := by
  unfold m_law_raise m_law_raise_b
  simp [eqS_int, lt_int, N.bind_seq]
theorem base_18 (t : D) : m_law_is_base (.int 18) t = .ok (.bl true) := by
  unfold m_law_is_base
  simp only [N.ok_bind, raise_18, N.err_bind, N.err_seq, N.try_err]
  rw [hd_take (by decide) rfl]
  rfl
theorem caught_a_18 (t : D) : m_law_caught_a (.int 18) t = .err 18 t := by
  unfold m_law_caught_a
  simp only [N.ok_bind, raise_18, N.err_bind, N.err_seq, N.try_err]
  rw [hd_skip (by decide) rfl, hd_skip (by decide) rfl, hd_skip (by decide) rfl, hd_skip (by decide) rfl, hd_skip (by decide) rfl, hd_skip (by decide) rfl, hd_skip (by decide) rfl, hd_skip (by decide) rfl, hd_skip (by decide) rfl, hd_skip (by decide) rfl, hd_skip (by decide) rfl, hd_skip (by decide) rfl, hd_skip (by decide) rfl, hd_skip (by decide) rfl, hd_skip (by decide) rfl]
  rw [hd_none (by decide)]
  rfl
theorem caught_b_18 (t : D) : m_law_caught_b (.int 18) t = .ok (.tup [.int 18, t]) := by
  unfold m_law_caught_b
  simp only [N.ok_bind, caught_a_18, N.err_bind, N.err_seq, N.try_err]
  rw [hd_skip (by decide) rfl, hd_skip (by decide) rfl, hd_skip (by decide) rfl]
  rw [hd_take (by decide) rfl]
  simp only [le1_2, N.ok_bind, N.ne_ok, N.rt_seq, N.rt_fin]
theorem caught_c_18 (t : D) : m_law_caught_c (.int 18) t = .ok (.tup [.int 18, t]) := by
  unfold m_law_caught_c
  simp only [N.ok_bind, caught_b_18, N.try_ok, N.rt_seq, N.rt_fin]
theorem raise_19 (t : D) : m_law_raise (.int 19) t = .err 19 t := by
  unfold m_law_raise m_law_raise_b
  simp [eqS_int, lt_int, N.bind_seq]
theorem base_19 (t : D) : m_law_is_base (.int 19) t = .ok (.bl true) := by
  unfold m_law_is_base
  simp only [N.ok_bind, raise_19, N.err_bind, N.err_seq, N.try_err]
  rw [hd_take (by decide) rfl]
  rfl
theorem caught_a_19 (t : D) : m_law_caught_a (.int 19) t = .err 19 t := by
  unfold m_law_caught_a
  simp only [N.ok_bind, raise_19, N.err_bind, N.err_seq, N.try_err]
  rw [hd_skip (by decide) rfl, hd_skip (by decide) rfl, hd_skip (by decide) rfl, hd_skip (by decide) rfl, hd_skip (by decide) rfl, hd_skip (by decide) rfl, hd_skip (by decide) rfl, hd_skip (by decide) rfl, hd_skip (by decide) rfl, hd_skip (by decide) rfl, hd_skip (by decide) rfl, hd_skip (by decide) rfl, hd_skip (by decide) rfl, hd_skip (by decide) rfl, hd_skip (by decide) rfl]
  rw [hd_none (by decide)]
  rfl
theorem caught_b_19 (t : D) : m_law_caught_b (.int 19) t = .ok (.tup [.int 19, t]) := by
  unfold m_law_caught_b
  simp only [N.ok_bind, caught_a_19, N.err_bind, N.err_seq, N.try_err]
  rw [hd_skip (by decide) rfl, hd_skip (by decide) rfl, hd_skip (by decide) rfl, hd_skip (by decide) rfl]
  rw [hd_take (by decide) rfl]
  simp only [le1_2, N.ok_bind, N.ne_ok, N.rt_seq, N.rt_fin]
theorem caught_c_19 (t : D) : m_law_caught_c (.int 19) t = .ok (.tup [.int 19, t]) := by
  unfold m_law_caught_c
  simp only [N.ok_bind, caught_b_19, N.try_ok, N.rt_seq, N.rt_fin]
theorem raise_20 (t : D) : m_law_raise (.int 20) t = .err 20 t := by
  unfold m_law_raise m_law_raise_b
  simp [eqS_int, lt_int, N.bind_seq]
theorem base_20 (t : D) : m_law_is_base (.int 20) t = .ok (.bl true) := by
  unfold m_law_is_base
  simp only [N.ok_bind, raise_20, N.err_bind, N.err_seq, N.try_err]
  rw [hd_take (by decide) rfl]
  rfl
theorem caught_a_20 (t : D) : m_law_caught_a (.int 20) t = .err 20 t := by
  unfold m_law_caught_a
  simp only [N.ok_bind, raise_20, N.err_bind, N.err_seq, N.try_err]
  rw [hd_skip (by decide) rfl, hd_skip (by decide) rfl, hd_skip (by decide) rfl, hd_skip (by decide) rfl, hd_skip (by decide) rfl, hd_skip (by decide) rfl, hd_skip (by decide) rfl, hd_skip (by decide) rfl, hd_skip (by decide) rfl, hd_skip (by decide) rfl, hd_skip (by decide) rfl, hd_skip (by decide) rfl, hd_skip (by decide) rfl, hd_skip (by decide) rfl, hd_skip (by decide) rfl]
  rw [hd_none (by decide)]
  rfl
theorem caught_b_20 (t : D) : m_law_caught_b (.int 20) t = .ok (.tup [.int 20, t]) := by
  unfold m_law_caught_b
  simp only [N.ok_bind, caught_a_20, N.err_bind, N.err_seq, N.try_err]
  rw [hd_skip (by decide) rfl, hd_skip (by decide) rfl, hd_skip (by decide) rfl, hd_skip (by decide) rfl, hd_skip (by decide) rfl]
  rw [hd_take (by decide) rfl]
  simp only [le1_2, N.ok_bind, N.ne_ok, N.rt_seq, N.rt_fin]
theorem caught_c_20 (t : D) : m_law_caught_c (.int 20) t = .ok (.tup [.int 20, t]) := by
  unfold m_law_caught_c
  simp only [N.ok_bind, caught_b_20, N.try_ok, N.rt_seq, N.rt_fin]
theorem raise_21 (t : D) : m_law_raise (.int 21) t = .err 21 t := by
  unfold m_law_raise m_law_raise_b
  simp [eqS_int, lt_int, N.bind_seq]
theorem base_21 (t : D) : m_law_is_base (.int 21) t = .ok (.bl true) := by
  unfold m_law_is_base
  simp only [N.ok_bind, raise_21, N.err_bind, N.err_seq, N.try_err]
  rw [hd_take (by decide) rfl]
  rfl
theorem caught_a_21 (t : D) : m_law_caught_a (.int 21) t = .err 21 t := by
  unfold m_law_caught_a
  simp only [N.ok_bind, raise_21, N.err_bind, N.err_seq, N.try_err]
  rw [hd_skip (by decide) rfl, hd_skip (by decide) rfl, hd_skip (by decide) rfl, hd_skip (by decide) rfl, hd_skip (by decide) rfl, hd_skip (by decide) rfl, hd_skip (by decide) rfl, hd_skip (by decide) rfl, hd_skip (by decide) rfl, hd_skip (by decide) rfl, hd_skip (by decide) rfl, hd_skip (by decide) rfl, hd_skip (by decide) rfl, hd_skip (by decide) rfl, hd_skip (by decide) rfl]
  rw [hd_none (by decide)]
  rfl
theorem caught_b_21 (t : D) : m_law_caught_b (.int 21) t = .ok (.tup [.int 21, t]) := by
  unfold m_law_caught_b
  simp only [N.ok_bind, caught_a_21, N.err_bind, N.err_seq, N.try_err]
  rw [hd_skip (by decide) rfl, hd_skip (by decide) rfl, hd_skip (by decide) rfl, hd_skip (by decide) rfl, hd_skip (by decide) rfl, hd_skip (by decide) rfl]
  rw [hd_take (by decide) rfl]
  simp only [le1_2, N.ok_bind, N.ne_ok, N.rt_seq, N.rt_fin]
theorem caught_c_21 (t : D) : m_law_caught_c (.int 21) t = .ok (.tup [.int 21, t]) := by
  unfold m_law_caught_c
  simp only [N.ok_bind, caught_b_21, N.try_ok, N.rt_seq, N.rt_fin]
theorem raise_22 (t : D) : m_law_raise (.int 22) t = .err 22 t := by
  unfold m_law_raise m_law_raise_b
  simp [eqS_int, lt_int, N.bind_seq]
theorem base_22 (t : D) : m_law_is_base (.int 22) t = .ok (.bl true) := by
  unfold m_law_is_base
  simp only [N.ok_bind, raise_22, N.err_bind, N.err_seq, N.try_err]
  rw [hd_take (by decide) rfl]
  rfl
theorem caught_a_22 (t : D) : m_law_caught_a (.int 22) t = .err 22 t := by
  unfold m_law_caught_a
  simp only [N.ok_bind, raise_22, N.err_bind, N.err_seq, N.try_err]
  rw [hd_skip (by decide) rfl, hd_skip (by decide) rfl, hd_skip (by decide) rfl, hd_skip (by decide) rfl, hd_skip (by decide) rfl, hd_skip (by decide) rfl, hd_skip (by decide) rfl, hd_skip (by decide) rfl, hd_skip (by decide) rfl, hd_skip (by decide) rfl, hd_skip (by decide) rfl, hd_skip (by decide) rfl, hd_skip (by decide) rfl, hd_skip (by decide) rfl, hd_skip (by decide) rfl]
  rw [hd_none (by decide)]
  rfl
theorem caught_b_22 (t : D) : m_law_caught_b (.int 22) t = .ok (.tup [.int 22, t]) := by
  unfold m_law_caught_b
  simp only [N.ok_bind, caught_a_22, N.err_bind, N.err_seq, N.try_err]
  rw [hd_skip (by decide) rfl, hd_skip (by decide) rfl, hd_skip (by decide) rfl, hd_skip (by decide) rfl, hd_skip (by decide) rfl, hd_skip (by decide) rfl, hd_skip (by decide) rfl]
  rw [hd_take (by decide) rfl]
  simp only [le1_2, N.ok_bind, N.ne_ok, N.rt_seq, N.rt_fin]
theorem caught_c_22 (t : D) : m_law_caught_c (.int 22) t = .ok (.tup [.int 22, t]) := by
  unfold m_law_caught_c
  simp only [N.ok_bind, caught_b_22, N.try_ok, N.rt_seq, N.rt_fin]
theorem raise_23 (t : D) : m_law_raise (.int 23) t = .err 23 t := by
  unfold m_law_raise m_law_raise_b
  simp [eqS_int, lt_int, N.bind_seq]
theorem base_23 (t : D) : m_law_is_base (.int 23) t = .ok (.bl true) := by
  unfold m_law_is_base
  simp only [N.ok_bind, raise_23, N.err_bind, N.err_seq, N.try_err]
  rw [hd_take (by decide) rfl]
  rfl
theorem caught_a_23 (t : D) : m_law_caught_a (.int 23) t = .err 23 t := by
  unfold m_law_caught_a
  simp only [N.ok_bind, raise_23, N.err_bind, N.err_seq, N.try_err]
  rw [hd_skip (by decide) rfl, hd_skip (by decide) rfl, hd_skip (by decide) rfl, hd_skip (by decide) rfl, hd_skip (by decide) rfl, hd_skip (by decide) rfl, hd_skip (by decide) rfl, hd_skip (by decide) rfl, hd_skip (by decide) rfl, hd_skip (by decide) rfl, hd_skip (by decide) rfl, hd_skip (by decide) rfl, hd_skip (by decide) rfl, hd_skip (by decide) rfl, hd_skip (by decide) rfl]
  rw [hd_none (by decide)]
  rfl
theorem caught_b_23 (t : D) : m_law_caught_b (.int 23) t = .ok (.tup [.int 23, t]) := by
  unfold m_law_caught_b
  simp only [N.ok_bind, caught_a_23, N.err_bind, N.err_seq, N.try_err]
  rw [hd_skip (by decide) rfl, hd_skip (by decide) rfl, hd_skip (by decide) rfl, hd_skip (by decide) rfl, hd_skip (by decide) rfl, hd_skip (by decide) rfl, hd_skip (by decide) rfl, hd_skip (by decide) rfl]
  rw [hd_take (by decide) rfl]
  simp only [le1_2, N.ok_bind, N.ne_ok, N.rt_seq, N.rt_fin]
theorem caught_c_23 (t : D) : m_law_caught_c (.int 23) t = .ok (.tup [.int 23, t]) := by
  unfold m_law_caught_c
  simp only [N.ok_bind, caught_b_23, N.try_ok, N.rt_seq, N.rt_fin]
theorem raise_24 (t : D) : m_law_raise (.int 24) t = .err 24 t := by
  unfold m_law_raise m_law_raise_b
  simp [eqS_int, lt_int, N.bind_seq]
theorem base_24 (t : D) : m_law_is_base (.int 24) t = .ok (.bl true) := by
  unfold m_law_is_base
  simp only [N.ok_bind, raise_24, N.err_bind, N.err_seq, N.try_err]
  rw [hd_take (by decide) rfl]
  rfl
theorem caught_a_24 (t : D) : m_law_caught_a (.int 24) t = .err 24 t := by
  unfold m_law_caught_a
  simp only [N.ok_bind, raise_24, N.err_bind, N.err_seq, N.try_err]
  rw [hd_skip (by decide) rfl, hd_skip (by decide) rfl, hd_skip (by decide) rfl, hd_skip (by decide) rfl, hd_skip (by decide) rfl, hd_skip (by decide) rfl, hd_skip (by decide) rfl, hd_skip (by decide) rfl, hd_skip (by decide) rfl, hd_skip (by decide) rfl, hd_skip (by decide) rfl, hd_skip (by decide) rfl, hd_skip (by decide) rfl, hd_skip (by decide) rfl, hd_skip (by decide) rfl]
  rw [hd_none (by decide)]
  rfl
theorem caught_b_24 (t : D) : m_law_caught_b (.int 24) t = .ok (.tup [.int 24, t]) := by
  unfold m_law_caught_b
  simp only [N.ok_bind, caught_a_24, N.err_bind, N.err_seq, N.try_err]
  rw [hd_skip (by decide) rfl, hd_skip (by decide) rfl, hd_skip (by decide) rfl, hd_skip (by decide) rfl, hd_skip (by decide) rfl, hd_skip (by decide) rfl, hd_skip (by decide) rfl, hd_skip (by decide) rfl, hd_skip (by decide) rfl]
  rw [hd_take (by decide) rfl]
  simp only [le1_2, N.ok_bind, N.ne_ok, N.rt_seq, N.rt_fin]
theorem caught_c_24 (t : D) : m_law_caught_c (.int 24) t = .ok (.tup [.int 24, t]) := by
  unfold m_law_caught_c
  simp only [N.ok_bind, caught_b_24, N.try_ok, N.rt_seq, N.rt_fin]
theorem raise_25 (t : D) : m_law_raise (.int 25) t = .err 25 t := by
  unfold m_law_raise m_law_raise_b
  simp [eqS_int, lt_int, N.bind_seq]
theorem base_25 (t : D) : m_law_is_base (.int 25) t = .ok (.bl true) := by
  unfold m_law_is_base
  simp only [N.ok_bind, raise_25, N.err_bind, N.err_seq, N.try_err]
  rw [hd_take (by decide) rfl]
  rfl
theorem caught_a_25 (t : D) : m_law_caught_a (.int 25) t = .err 25 t := by
  unfold m_law_caught_a
  simp only [N.ok_bind, raise_25, N.err_bind, N.err_seq, N.try_err]
  rw [hd_skip (by decide) rfl, hd_skip (by decide) rfl, hd_skip (by decide) rfl, hd_skip (by decide) rfl, hd_skip (by decide) rfl, hd_skip (by decide) rfl, hd_skip (by decide) rfl, hd_skip (by decide) rfl, hd_skip (by decide) rfl, hd_skip (by decide) rfl, hd_skip (by decide) rfl, hd_skip (by decide) rfl, hd_skip (by decide) rfl, hd_skip (by decide) rfl, hd_skip (by decide) rfl]
  rw [hd_none (by decide)]
  rfl
theorem caught_b_25 (t : D) : m_law_caught_b (.int 25) t = .ok (.tup [.int 25, t]) := by
  unfold m_law_caught_b
  simp only [N.ok_bind, caught_a_25, N.err_bind, N.err_seq, N.try_err]
  rw [hd_skip (by decide) rfl, hd_skip (by decide) rfl, hd_skip (by decide) rfl, hd_skip (by decide) rfl, hd_skip (by decide) rfl, hd_skip (by decide) rfl, hd_skip (by decide) rfl, hd_skip (by decide) rfl, hd_skip (by decide) rfl, hd_skip (by decide) rfl]
  rw [hd_take (by decide) rfl]
  simp only [le1_2, N.ok_bind, N.ne_ok, N.rt_seq, N.rt_fin]
theorem caught_c_25 (t : D) : m_law_caught_c (.int 25) t = .ok (.tup [.int 25, t]) := by
  unfold m_law_caught_c
  simp only [N.ok_bind, caught_b_25, N.try_ok, N.rt_seq, N.rt_fin]
theorem raise_26 (t : D) : m_law_raise (.int 26) t = .err 26 t := by
  unfold m_law_raise m_law_raise_b
  simp [eqS_int, lt_int, N.bind_seq]
theorem base_26 (t : D) : m_law_is_base (.int 26) t = .ok (.bl true) := by
  unfold m_law_is_base
  simp only [N.ok_bind, raise_26, N.err_bind, N.err_seq, N.try_err]
  rw [hd_take (by decide) rfl]
  rfl
theorem caught_a_26 (t : D) : m_law_caught_a (.int 26) t = .err 26 t := by
  unfold m_law_caught_a
  simp only [N.ok_bind, raise_26, N.err_bind, N.err_seq, N.try_err]
  rw [hd_skip (by decide) rfl, hd_skip (by decide) rfl, hd_skip (by decide) rfl, hd_skip (by decide) rfl, hd_skip (by decide) rfl, hd_skip (by decide) rfl, hd_skip (by decide) rfl, hd_skip (by decide) rfl, hd_skip (by decide) rfl, hd_skip (by decide) rfl, hd_skip (by decide) rfl, hd_skip (by decide) rfl, hd_skip (by decide) rfl, hd_skip (by decide) rfl, hd_skip (by decide) rfl]
  rw [hd_none (by decide)]
  rfl
theorem caught_b_26 (t : D) : m_law_caught_b (.int 26) t = .ok (.tup [.int 26, t]) := by
  unfold m_law_caught_b
  simp only [N.ok_bind, caught_a_26, N.err_bind, N.err_seq, N.try_err]
  rw [hd_skip (by decide) rfl, hd_skip (by decide) rfl, hd_skip (by decide) rfl, hd_skip (by decide) rfl, hd_skip (by decide) rfl, hd_skip (by decide) rfl, hd_skip (by decide) rfl, hd_skip (by decide) rfl, hd_skip (by decide) rfl, hd_skip (by decide) rfl, hd_skip (by decide) rfl]
  rw [hd_take (by decide) rfl]
  simp only [le1_2, N.ok_bind, N.ne_ok, N.rt_seq, N.rt_fin]
theorem caught_c_26 (t : D) : m_law_caught_c (.int 26) t = .ok (.tup [.int 26, t]) := by
  unfold m_law_caught_c
  simp only [N.ok_bind, caught_b_26, N.try_ok, N.rt_seq, N.rt_fin]
theorem raise_27 (t : D) : m_law_raise (.int 27) t = .err 27 t := by
  unfold m_law_raise m_law_raise_b
  simp [eqS_int, lt_int, N.bind_seq]
theorem base_27 (t : D) : m_law_is_base (.int 27) t = .ok (.bl true) := by
  unfold m_law_is_base
  simp only [N.ok_bind, raise_27, N.err_bind, N.err_seq, N.try_err]
  rw [hd_take (by decide) rfl]
  rfl
theorem caught_a_27 (t : D) : m_law_caught_a (.int 27) t = .err 27 t := by
  unfold m_law_caught_a
  simp only [N.ok_bind, raise_27, N.err_bind, N.err_seq, N.try_err]
  rw [hd_skip (by decide) rfl, hd_skip (by decide) rfl, hd_skip (by decide) rfl, hd_skip (by decide) rfl, hd_skip (by decide) rfl, hd_skip (by decide) rfl, hd_skip (by decide) rfl, hd_skip (by decide) rfl, hd_skip (by decide) rfl, hd_skip (by decide) rfl, hd_skip (by decide) rfl, hd_skip (by decide) rfl, hd_skip (by decide) rfl, hd_skip (by decide) rfl, hd_skip (by decide) rfl]
  rw [hd_none (by decide)]
  rfl
theorem caught_b_27 (t : D) : m_law_caught_b (.int 27) t = .ok (.tup [.int 27, t]) := by
  unfold m_law_caught_b
  simp only [N.ok_bind, caught_a_27, N.err_bind, N.err_seq, N.try_err]
  rw [hd_skip (by decide) rfl, hd_skip (by decide) rfl, hd_skip (by decide) rfl, hd_skip (by decide) rfl, hd_skip (by decide) rfl, hd_skip (by decide) rfl, hd_skip (by decide) rfl, hd_skip (by decide) rfl, hd_skip (by decide) rfl, hd_skip (by decide) rfl, hd_skip (by decide) rfl, hd_skip (by decide) rfl]
  rw [hd_take (by decide) rfl]
  simp only [le1_2, N.ok_bind, N.ne_ok, N.rt_seq, N.rt_fin]
theorem caught_c_27 (t : D) : m_law_caught_c (.int 27) t = .ok (.tup [.int 27, t]) := by
  unfold m_law_caught_c
  simp only [N.ok_bind, caught_b_27, N.try_ok, N.rt_seq, N.rt_fin]
theorem raise_28 (t : D) : m_law_raise (.int 28) t = .err 28 t := by
  unfold m_law_raise m_law_raise_c
  simp [eqS_int, lt_int, N.bind_seq]
theorem base_28 (t : D) : m_law_is_base (.int 28) t = .ok (.bl true) := by
  unfold m_law_is_base
  simp only [N.ok_bind, raise_28, N.err_bind, N.err_seq, N.try_err]
  rw [hd_take (by decide) rfl]
  rfl
theorem caught_a_28 (t : D) : m_law_caught_a (.int 28) t = .err 28 t := by
  unfold m_law_caught_a
  simp only [N.ok_bind, raise_28, N.err_bind, N.err_seq, N.try_err]
  rw [hd_skip (by decide) rfl, hd_skip (by decide) rfl, hd_skip (by decide) rfl, hd_skip (by decide) rfl, hd_skip (by decide) rfl, hd_skip (by decide) rfl, hd_skip (by decide) rfl, hd_skip (by decide) rfl, hd_skip (by decide) rfl, hd_skip (by decide) rfl, hd_skip (by decide) rfl, hd_skip (by decide) rfl, hd_skip (by decide) rfl, hd_skip (by decide) rfl, hd_skip (by decide) rfl]
  rw [hd_none (by decide)]
  rfl
theorem caught_b_28 (t : D) : m_law_caught_b (.int 28) t = .err 28 t := by
  unfold m_law_caught_b
  simp only [N.ok_bind, caught_a_28, N.err_bind, N.err_seq, N.try_err]
  rw [hd_skip (by decide) rfl, hd_skip (by decide) rfl, hd_skip (by decide) rfl, hd_skip (by decide) rfl, hd_skip (by decide) rfl, hd_skip (by decide) rfl, hd_skip (by decide) rfl, hd_skip (by decide) rfl, hd_skip (by decide) rfl, hd_skip (by decide) rfl, hd_skip (by decide) rfl, hd_skip (by decide) rfl, hd_skip (by decide) rfl]
  rw [hd_none (by decide)]
  rfl
theorem caught_c_28 (t : D) : m_law_caught_c (.int 28) t = .ok (.tup [.int 28, t]) := by
  unfold m_law_caught_c
  simp only [N.ok_bind, caught_b_28, N.err_bind, N.err_seq, N.try_err]
  rw [hd_take (by decide) rfl]
  simp only [le1_2, N.ok_bind, N.ne_ok, N.rt_seq, N.rt_fin]
theorem raise_29 (t : D) : m_law_raise (.int 29) t = .err 29 t := by
  unfold m_law_raise m_law_raise_c
  simp [eqS_int, lt_int, N.bind_seq]
theorem base_29 (t : D) : m_law_is_base (.int 29) t = .ok (.bl true) := by
  unfold m_law_is_base
  simp only [N.ok_bind, raise_29, N.err_bind, N.err_seq, N.try_err]
  rw [hd_take (by decide) rfl]
  rfl
theorem caught_a_29 (t : D) : m_law_caught_a (.int 29) t = .err 29 t := by
  unfold m_law_caught_a
  simp only [N.ok_bind, raise_29, N.err_bind, N.err_seq, N.try_err]
  rw [hd_skip (by decide) rfl, hd_skip (by decide) rfl, hd_skip (by decide) rfl, hd_skip (by decide) rfl, hd_skip (by decide) rfl, hd_skip (by decide) rfl, hd_skip (by decide) rfl, hd_skip (by decide) rfl, hd_skip (by decide) rfl, hd_skip (by decide) rfl, hd_skip (by decide) rfl, hd_skip (by decide) rfl, hd_skip (by decide) rfl, hd_skip (by decide) rfl, hd_skip (by decide) rfl]
  rw [hd_none (by decide)]
  rfl
theorem caught_b_29 (t : D) : m_law_caught_b (.int 29) t = .err 29 t := by
  unfold m_law_caught_b
  simp only [N.ok_bind, caught_a_29, N.err_bind, N.err_seq, N.try_err]
  rw [hd_skip (by decide) rfl, hd_skip (by decide) rfl, hd_skip (by decide) rfl, hd_skip (by decide) rfl, hd_skip (by decide) rfl, hd_skip (by decide) rfl, hd_skip (by decide) rfl, hd_skip (by decide) rfl, hd_skip (by decide) rfl, hd_skip (by decide) rfl, hd_skip (by decide) rfl, hd_skip (by decide) rfl, hd_skip (by decide) rfl]
  rw [hd_none (by decide)]
  rfl
theorem caught_c_29 (t : D) : m_law_caught_c (.int 29) t = .ok (.tup [.int 29, t]) := by
  unfold m_law_caught_c
  simp only [N.ok_bind, caught_b_29, N.err_bind, N.err_seq, N.try_err]
  rw [hd_skip (by decide) rfl]
  rw [hd_take (by decide) rfl]
  simp only [le1_2, N.ok_bind, N.ne_ok, N.rt_seq, N.rt_fin]
theorem raise_30 (t : D) : m_law_raise (.int 30) t = .err 30 t := by
  unfold m_law_raise m_law_raise_c
  simp [eqS_int, lt_int, N.bind_seq]
theorem base_30 (t : D) : m_law_is_base (.int 30) t = .ok (.bl true) := by
  unfold m_law_is_base
  simp only [N.ok_bind, raise_30, N.err_bind, N.err_seq, N.try_err]
  rw [hd_take (by decide) rfl]
  rfl
theorem caught_a_30 (t : D) : m_law_caught_a (.int 30) t = .err 30 t := by
  unfold m_law_caught_a
  simp only [N.ok_bind, raise_30, N.err_bind, N.err_seq, N.try_err]
  rw [hd_skip (by decide) rfl, hd_skip (by decide) rfl, hd_skip (by decide) rfl, hd_skip (by decide) rfl, hd_skip (by decide) rfl, hd_skip (by decide) rfl, hd_skip (by decide) rfl, hd_skip (by decide) rfl, hd_skip (by decide) rfl, hd_skip (by decide) rfl, hd_skip (by decide) rfl, hd_skip (by decide) rfl, hd_skip (by decide) rfl, hd_skip (by decide) rfl, hd_skip (by decide) rfl]
  rw [hd_none (by decide)]
  rfl
theorem caught_b_30 (t : D) : m_law_caught_b (.int 30) t = .err 30 t := by
  unfold m_law_caught_b
  simp only [N.ok_bind, caught_a_30, N.err_bind, N.err_seq, N.try_err]
  rw [hd_skip (by decide) rfl, hd_skip (by decide) rfl, hd_skip (by decide) rfl, hd_skip (by decide) rfl, hd_skip (by decide) rfl, hd_skip (by decide) rfl, hd_skip (by decide) rfl, hd_skip (by decide) rfl, hd_skip (by decide) rfl, hd_skip (by decide) rfl, hd_skip (by decide) rfl, hd_skip (by decide) rfl, hd_skip (by decide) rfl]
  rw [hd_none (by decide)]
  rfl
theorem caught_c_30 (t : D) : m_law_caught_c (.int 30) t = .ok (.tup [.int 30, t]) := by
  unfold m_law_caught_c
  simp only [N.ok_bind, caught_b_30, N.err_bind, N.err_seq, N.try_err]
  rw [hd_skip (by decide) rfl, hd_skip (by decide) rfl]
  rw [hd_take (by decide) rfl]
  simp only [le1_2, N.ok_bind, N.ne_ok, N.rt_seq, N.rt_fin]
theorem raise_31 (t : D) : m_law_raise (.int 31) t = .err 31 t := by
  unfold m_law_raise m_law_raise_c
  simp [eqS_int, lt_int, N.bind_seq]
theorem base_31 (t : D) : m_law_is_base (.int 31) t = .ok (.bl true) := by
  unfold m_law_is_base
  simp only [N.ok_bind, raise_31, N.err_bind, N.err_seq, N.try_err]
  rw [hd_take (by decide) rfl]
  rfl
theorem caught_a_31 (t : D) : m_law_caught_a (.int 31) t = .err 31 t := by
  unfold m_law_caught_a
  simp only [N.ok_bind, raise_31, N.err_bind, N.err_seq, N.try_err]
  rw [hd_skip (by decide) rfl, hd_skip (by decide) rfl, hd_skip (by decide) rfl, hd_skip (by decide) rfl, hd_skip (by decide) rfl, hd_skip (by decide) rfl, hd_skip (by decide) rfl, hd_skip (by decide) rfl, hd_skip (by decide) rfl, hd_skip (by decide) rfl, hd_skip (by decide) rfl, hd_skip (by decide) rfl, hd_skip (by decide) rfl, hd_skip (by decide) rfl, hd_skip (by decide) rfl]
  rw [hd_none (by decide)]
  rfl
theorem caught_b_31 (t : D) : m_law_caught_b (.int 31) t = .err 31 t := by
  unfold m_law_caught_b
  simp only [N.ok_bind, caught_a_31, N.err_bind, N.err_seq, N.try_err]
  rw [hd_skip (by decide) rfl, hd_skip (by decide) rfl, hd_skip (by decide) rfl, hd_skip (by decide) rfl, hd_skip (by decide) rfl, hd_skip (by decide) rfl, hd_skip (by decide) rfl, hd_skip (by decide) rfl, hd_skip (by decide) rfl, hd_skip (by decide) rfl, hd_skip (by decide) rfl, hd_skip (by decide) rfl, hd_skip (by decide) rfl]
  rw [hd_none (by decide)]
  rfl
theorem caught_c_31 (t : D) : m_law_caught_c (.int 31) t = .ok (.tup [.int 31, t]) := by
  unfold m_law_caught_c
  simp only [N.ok_bind, caught_b_31, N.err_bind, N.err_seq, N.try_err]
  rw [hd_skip (by decide) rfl, hd_skip (by decide) rfl, hd_skip (by decide) rfl]
  rw [hd_take (by decide) rfl]
  simp only [le1_2, N.ok_bind, N.ne_ok, N.rt_seq, N.rt_fin]
theorem raise_32 (t : D) : m_law_raise (.int 32) t = .err 32 t := by
  unfold m_law_raise m_law_raise_c
  simp [eqS_int, lt_int, N.bind_seq]
theorem base_32 (t : D) : m_law_is_base (.int 32) t = .ok (.bl true) := by
  unfold m_law_is_base
  simp only [N.ok_bind, raise_32, N.err_bind, N.err_seq, N.try_err]
  rw [hd_take (by decide) rfl]
  rfl
theorem caught_a_32 (t : D) : m_law_caught_a (.int 32) t = .err 32 t := by
  unfold m_law_caught_a
  simp only [N.ok_bind, raise_32, N.err_bind, N.err_seq, N.try_err]
  rw [hd_skip (by decide) rfl, hd_skip (by decide) rfl, hd_skip (by decide) rfl, hd_skip (by decide) rfl, hd_skip (by decide) rfl, hd_skip (by decide) rfl, hd_skip (by decide) rfl, hd_skip (by decide) rfl, hd_skip (by decide) rfl, hd_skip (by decide) rfl, hd_skip (by decide) rfl, hd_skip (by decide) rfl, hd_skip (by decide) rfl, hd_skip (by decide) rfl, hd_skip (by decide) rfl]
  rw [hd_none (by decide)]
  rfl
theorem caught_b_32 (t : D) : m_law_caught_b (.int 32) t = .err 32 t := by
  unfold m_law_caught_b
  simp only [N.ok_bind, caught_a_32, N.err_bind, N.err_seq, N.try_err]
  rw [hd_skip (by decide) rfl, hd_skip (by decide) rfl, hd_skip (by decide) rfl, hd_skip (by decide) rfl, hd_skip (by decide) rfl, hd_skip (by decide) rfl, hd_skip (by decide) rfl, hd_skip (by decide) rfl, hd_skip (by decide) rfl, hd_skip (by decide) rfl, hd_skip (by decide) rfl, hd_skip (by decide) rfl, hd_skip (by decide) rfl]
  rw [hd_none (by decide)]
  rfl
theorem caught_c_32 (t : D) : m_law_caught_c (.int 32) t = .ok (.tup [.int 32, t]) := by
  unfold m_law_caught_c
  simp only [N.ok_bind, caught_b_32, N.err_bind, N.err_seq, N.try_err]
  rw [hd_skip (by decide) rfl, hd_skip (by decide) rfl, hd_skip (by decide) rfl, hd_skip (by decide) rfl]
  rw [hd_take (by decide) rfl]
  simp only [le1_2, N.ok_bind, N.ne_ok, N.rt_seq, N.rt_fin]
theorem raise_33 (t : D) : m_law_raise (.int 33) t = .err 33 t := by
  unfold m_law_raise m_law_raise_c
  simp [eqS_int, lt_int, N.bind_seq]
theorem base_33 (t : D) : m_law_is_base (.int 33) t = .ok (.bl true) := by
  unfold m_law_is_base
  simp only [N.ok_bind, raise_33, N.err_bind, N.err_seq, N.try_err]
  rw [hd_take (by decide) rfl]
  rfl
theorem caught_a_33 (t : D) : m_law_caught_a (.int 33) t = .err 33 t := by
  unfold m_law_caught_a
  simp only [N.ok_bind, raise_33, N.err_bind, N.err_seq, N.try_err]
  rw [hd_skip (by decide) rfl, hd_skip (by decide) rfl, hd_skip (by decide) rfl, hd_skip (by decide) rfl, hd_skip (by decide) rfl, hd_skip (by decide) rfl, hd_skip (by decide) rfl, hd_skip (by decide) rfl, hd_skip (by decide) rfl, hd_skip (by decide) rfl, hd_skip (by decide) rfl, hd_skip (by decide) rfl, hd_skip (by decide) rfl, hd_skip (by decide) rfl, hd_skip (by decide) rfl]
  rw [hd_none (by decide)]
  rfl
theorem caught_b_33 (t : D) : m_law_caught_b (.int 33) t = .err 33 t := by
  unfold m_law_caught_b
  simp only [N.ok_bind, caught_a_33, N.err_bind, N.err_seq, N.try_err]
  rw [hd_skip (by decide) rfl, hd_skip (by decide) rfl, hd_skip (by decide) rfl, hd_skip (by decide) rfl, hd_skip (by decide) rfl, hd_skip (by decide) rfl, hd_skip (by decide) rfl, hd_skip (by decide) rfl, hd_skip (by decide) rfl, hd_skip (by decide) rfl, hd_skip (by decide) rfl, hd_skip (by decide) rfl, hd_skip (by decide) rfl]
  rw [hd_none (by decide)]
  rfl
theorem caught_c_33 (t : D) : m_law_caught_c (.int 33) t = .ok (.tup [.int 33, t]) := by
  unfold m_law_caught_c
  simp only [N.ok_bind, caught_b_33, N.err_bind, N.err_seq, N.try_err]
  rw [hd_skip (by decide) rfl, hd_skip (by decide) rfl, hd_skip (by decide) rfl, hd_skip (by decide) rfl, hd_skip (by decide) rfl]
  rw [hd_take (by decide) rfl]
  simp only [le1_2, N.ok_bind, N.ne_ok, N.rt_seq, N.rt_fin]
theorem raise_34 (t : D) : m_law_raise (.int 34) t = .err 34 t := by
  unfold m_law_raise m_law_raise_c
  simp [eqS_int, lt_int, N.bind_seq]
theorem base_34 (t : D) : m_law_is_base (.int 34) t = .ok (.bl true) := by
  unfold m_law_is_base
  simp only [N.ok_bind, raise_34, N.err_bind, N.err_seq, N.try_err]
  rw [hd_take (by decide) rfl]
  rfl
theorem caught_a_34 (t : D) : m_law_caught_a (.int 34) t = .err 34 t := by
  unfold m_law_caught_a
  simp only [N.ok_bind, raise_34, N.err_bind, N.err_seq, N.try_err]
  rw [hd_skip (by decide) rfl, hd_skip (by decide) rfl, hd_skip (by decide) rfl, hd_skip (by decide) rfl, hd_skip (by decide) rfl, hd_skip (by decide) rfl, hd_skip (by decide) rfl, hd_skip (by decide) rfl, hd_skip (by decide) rfl, hd_skip (by decide) rfl, hd_skip (by decide) rfl, hd_skip (by decide) rfl, hd_skip (by decide) rfl, hd_skip (by decide) rfl, hd_skip (by decide) rfl]
  rw [hd_none (by decide)]
  rfl
theorem caught_b_34 (t : D) : m_law_caught_b (.int 34) t = .err 34 t := by
  unfold m_law_caught_b
  simp only [N.ok_bind, caught_a_34, N.err_bind, N.err_seq, N.try_err]
  rw [hd_skip (by decide) rfl, hd_skip (by decide) rfl, hd_skip (by decide) rfl, hd_skip (by decide) rfl, hd_skip (by decide) rfl, hd_skip (by decide) rfl, hd_skip (by decide) rfl, hd_skip (by decide) rfl, hd_skip (by decide) rfl, hd_skip (by decide) rfl, hd_skip (by decide) rfl, hd_skip (by decide) rfl, hd_skip (by decide) rfl]
  rw [hd_none (by decide)]
  rfl
theorem caught_c_34 (t : D) : m_law_caught_c (.int 34) t = .ok (.tup [.int 34, t]) := by
  unfold m_law_caught_c
  simp only [N.ok_bind, caught_b_34, N.err_bind, N.err_seq, N.try_err]
  rw [hd_skip (by decide) rfl, hd_skip (by decide) rfl, hd_skip (by decide) rfl, hd_skip (by decide) rfl, hd_skip (by decide) rfl, hd_skip (by decide) rfl]
  rw [hd_take (by decide) rfl]
  simp only [le1_2, N.ok_bind, N.ne_ok, N.rt_seq, N.rt_fin]
theorem raise_35 (t : D) : m_law_raise (.int 35) t = .err 35 .non := by
  unfold m_law_raise m_law_raise_c
  simp [eqS_int, lt_int, N.bind_seq]
theorem base_35 (t : D) : m_law_is_base (.int 35) t = .ok (.bl true) := by
  unfold m_law_is_base
  simp only [N.ok_bind, raise_35, N.err_bind, N.err_seq, N.try_err]
  rw [hd_take (by decide) rfl]
  rfl
theorem caught_a_35 (t : D) : m_law_caught_a (.int 35) t = .err 35 .non := by
  unfold m_law_caught_a
  simp only [N.ok_bind, raise_35, N.err_bind, N.err_seq, N.try_err]
  rw [hd_skip (by decide) rfl, hd_skip (by decide) rfl, hd_skip (by decide) rfl, hd_skip (by decide) rfl, hd_skip (by decide) rfl, hd_skip (by decide) rfl, hd_skip (by decide) rfl, hd_skip (by decide) rfl, hd_skip (by decide) rfl, hd_skip (by decide) rfl, hd_skip (by decide) rfl, hd_skip (by decide) rfl, hd_skip (by decide) rfl, hd_skip (by decide) rfl, hd_skip (by decide) rfl]
  rw [hd_none (by decide)]
  rfl
theorem caught_b_35 (t : D) : m_law_caught_b (.int 35) t = .err 35 .non := by
  unfold m_law_caught_b
  simp only [N.ok_bind, caught_a_35, N.err_bind, N.err_seq, N.try_err]
  rw [hd_skip (by decide) rfl, hd_skip (by decide) rfl, hd_skip (by decide) rfl, hd_skip (by decide) rfl, hd_skip (by decide) rfl, hd_skip (by decide) rfl, hd_skip (by decide) rfl, hd_skip (by decide) rfl, hd_skip (by decide) rfl, hd_skip (by decide) rfl, hd_skip (by decide) rfl, hd_skip (by decide) rfl, hd_skip (by decide) rfl]
  rw [hd_none (by decide)]
  rfl
theorem caught_c_35 (t : D) : m_law_caught_c (.int 35) t = .ok (.tup [.int 35, t]) := by
  unfold m_law_caught_c
  simp only [N.ok_bind, caught_b_35, N.err_bind, N.err_seq, N.try_err]
  rw [hd_skip (by decide) rfl, hd_skip (by decide) rfl, hd_skip (by decide) rfl, hd_skip (by decide) rfl, hd_skip (by decide) rfl, hd_skip (by decide) rfl, hd_skip (by decide) rfl]
  rw [hd_take (by decide) rfl]
  simp only [le1_2, N.ok_bind, N.ne_ok, N.rt_seq, N.rt_fin]
theorem caught_all (t : D) : ∀ n : Nat, n < 36 → m_law_caught_c (.int n) t = .ok (.tup [.int n, t])
  | 0, _ => caught_c_0 t
  | 1, _ => caught_c_1 t
  | 2, _ => caught_c_2 t
  | 3, _ => caught_c_3 t
  | 4, _ => caught_c_4 t
  | 5, _ => caught_c_5 t
  | 6, _ => caught_c_6 t
  | 7, _ => caught_c_7 t
  | 8, _ => caught_c_8 t
  | 9, _ => caught_c_9 t
  | 10, _ => caught_c_10 t
  | 11, _ => caught_c_11 t
  | 12, _ => caught_c_12 t
  | 13, _ => caught_c_13 t
  | 14, _ => caught_c_14 t
  | 15, _ => caught_c_15 t
  | 16, _ => caught_c_16 t
  | 17, _ => caught_c_17 t
  | 18, _ => caught_c_18 t
  | 19, _ => caught_c_19 t
  | 20, _ => caught_c_20 t
  | 21, _ => caught_c_21 t
  | 22, _ => caught_c_22 t
  | 23, _ => caught_c_23 t
  | 24, _ => caught_c_24 t
  | 25, _ => caught_c_25 t
  | 26, _ => caught_c_26 t
  | 27, _ => caught_c_27 t
  | 28, _ => caught_c_28 t
  | 29, _ => caught_c_29 t
  | 30, _ => caught_c_30 t
  | 31, _ => caught_c_31 t
  | 32, _ => caught_c_32 t
  | 33, _ => caught_c_33 t
  | 34, _ => caught_c_34 t
  | 35, _ => caught_c_35 t
  | n + 36, h => absurd h (by omega)
theorem base_all (t : D) : ∀ n : Nat, n < 36 → m_law_is_base (.int n) t = .ok (.bl true)
  | 0, _ => base_0 t
  | 1, _ => base_1 t
  | 2, _ => base_2 t
  | 3, _ => base_3 t
  | 4, _ => base_4 t
  | 5, _ => base_5 t
  | 6, _ => base_6 t
  | 7, _ => base_7 t
  | 8, _ => base_8 t
  | 9, _ => base_9 t
  | 10, _ => base_10 t
  | 11, _ => base_11 t
  | 12, _ => base_12 t
  | 13, _ => base_13 t
  | 14, _ => base_14 t
  | 15, _ => base_15 t
  | 16, _ => base_16 t
  | 17, _ => base_17 t
  | 18, _ => base_18 t
  | 19, _ => base_19 t
  | 20, _ => base_20 t
  | 21, _ => base_21 t
  | 22, _ => base_22 t
  | 23, _ => base_23 t
  | 24, _ => base_24 t
  | 25, _ => base_25 t
  | 26, _ => base_26 t
  | 27, _ => base_27 t
  | 28, _ => base_28 t
  | 29, _ => base_29 t
  | 30, _ => base_30 t
  | 31, _ => base_31 t
  | 32, _ => base_32 t
  | 33, _ => base_33 t
  | 34, _ => base_34 t
  | 35, _ => base_35 t
  | n + 36, h => absurd h (by omega)
theorem ix_ints {ns : List Int} {i : Int} (h0 : 0 ≤ i) (h1 : i < ns.length) : ∃ c : Int, dIx (.lst (ns.map D.int)) (.int i) = .ok (.int c) := by
  have hlt : i.toNat < ns.length := by omega
  refine ⟨ns[i.toNat], ?_⟩
  have : atI (ns.map D.int) i = some (.int ns[i.toNat]) := by
    have := atI_nat (xs := ns.map D.int) (j := i.toNat) (v := .int ns[i.toNat]) (by rw [List.getElem?_map, List.getElem?_eq_getElem hlt]; rfl)
    rwa [show ((i.toNat : Nat) : Int) = i by omega] at this
  unfold dIx
  simp only [items, this]
theorem len_ints (ns : List Int) : dLen (.lst (ns.map D.int)) = .ok (.int ns.length) := by unfold dLen; simp [items]
theorem pow18 : dPow (.int 10) (.int 18) = .ok (.int 1000000000000000000) := iOpC_ok (f := fun i j => .int (i ^ j.toNat)) ⟨by decide, by decide, by decide⟩
theorem dMod_ok {i j : Int} (h : 0 < j) : dMod (.int i) (.int j) = .ok (.int (i % j)) := iOpC_ok (C := fun _ j => 0 < j) h
theorem dMul_l {i j : Int} (h : -(2 ^ 64) < i ∧ i < 2 ^ 64) : dMul (.int i) (.int j) = .ok (.int (i * j)) := iOpC_ok (.inl h)
theorem dMul_r {i j : Int} (h : -(2 ^ 64) < j ∧ j < 2 ^ 64) : dMul (.int i) (.int j) = .ok (.int (i * j)) := iOpC_ok (.inr h)
theorem ix2 (c : Int) (b : Bool) : dIx (.lst [.int 0, .int c]) (.int (if b = true then 1 else 0)) = .ok (.int (if b = true then c else 0)) := by cases b <;> rfl
theorem box_ok {ns : List Int} {k : Int} (h0 : 0 ≤ k) : m_law_box (.lst (ns.map D.int)) (.int k) = .ok (.dl 2) := by
  unfold m_law_box
  simp only [N.ok_bind, dMul_l (i := 2311) ⟨by decide, by decide⟩, dAdd, iOp_ok, N.ok_seq, len_ints, dLt, dGt, N.tst_bl]
  have step : ∃ c : Int, (if decide (k < (ns.length : Int)) = true then N.seq ((((dIx (.lst (ns.map D.int)) (.int k)).bind dAbs).bind fun d => .ok (.nx d)) : N (Fl D Unit)) fun (cell_3 : D) => (.ok (.nx cell_3) : N (Fl D Unit)) else N.seq (if decide ((0 : Int) < (ns.length : Int)) = true then N.seq (((((((((dInt (.int k)).bind fun x => dMod x (.int ns.length)).bind fun y => dIx (.lst (ns.map D.int)) y).bind dAbs).bind dInt).bind fun x => dMod x (.int 2147483629)).bind fun x => dMul x (.int 60013)).bind fun y => iOp (fun i j => D.int (i + j)) (.int (2311 * k + 97)) y).bind fun d => .ok (.nx d) : N (Fl D Unit)) fun (cell_5 : D) => (.ok (.nx cell_5) : N (Fl D Unit)) else (.ok (.nx (.int (2311 * k + 97))) : N (Fl D Unit))) fun (j4 : D) => (.ok (.nx j4) : N (Fl D Unit))) = .ok (.nx (.int c)) := by
    by_cases h : k < (ns.length : Int)
    · obtain ⟨c, hc⟩ := ix_ints h0 h
      rw [if_pos (decide_eq_true h), hc]
      exact ⟨_, rfl⟩
    · rw [if_neg (by rw [decide_eq_false h]; exact Bool.false_ne_true)]
      by_cases hl : (0 : Int) < (ns.length : Int)
      · obtain ⟨c, hc⟩ := ix_ints (ns := ns) (i := k % ns.length) (Int.emod_nonneg _ (by omega)) (Int.emod_lt_of_pos _ hl)
        rw [if_pos (decide_eq_true hl)]
        simp only [dMod_ok hl, N.ok_bind, hc, dAbs, dInt, dMod_ok (j := 2147483629) (by decide), dMul_r (j := 60013) ⟨by decide, by decide⟩, iOp_ok, N.ok_seq]
        exact ⟨_, rfl⟩
      · rw [if_neg (by rw [decide_eq_false hl]; exact Bool.false_ne_true)]
        exact ⟨_, rfl⟩
  obtain ⟨c, hc⟩ := step
  rw [hc]
  simp only [N.ok_seq, le1_2, N.ok_bind, pow18, dGe, iOp_ok, dInt, ix2, dMod_ok (j := 2147483629) (by decide), dMul_r (j := 38377) ⟨by decide, by decide⟩, dMul_l (i := 71129) ⟨by decide, by decide⟩, mkBox, N.rt_fin]
theorem pick_wp {xs : List D} {k : D → Prop} {e : Nat → D → Prop} (h0 : xs ≠ []) (h1 : xs.length < 1073741824) (h : ∀ x ∈ xs, k x) : (m_law_pick (.dl 2) (.lst xs)).wp k e := by
  unfold m_law_pick
  have e1 : dLen (.lst xs) = .ok (.int xs.length) := rfl
  simp only [N.ok_bind, e1]
  show ((m_law_take (.dl 2) (.int xs.length)).bind fun y => (dIx (.lst xs) y)).wp k e
  refine ⟨⟨by have := List.length_pos_iff.mpr h0; omega, by omega⟩, fun r ⟨r0, r1⟩ => ?_⟩
  have hlt : r.toNat < xs.length := by omega
  have hg : xs[r.toNat]? = some xs[r.toNat] := List.getElem?_eq_getElem hlt
  have ha : atI xs r = some xs[r.toNat] := by
    have := atI_nat hg
    rwa [show ((r.toNat : Nat) : Int) = r by omega] at this
  show (dIx (.lst xs) (.int r)).wp k e
  unfold dIx
  simp only [items, ha]
  exact h _ (List.getElem_mem hlt)
theorem pick_bind {β : Type} {xs : List D} {f : D → N β} {k : β → Prop} {e : Nat → D → Prop} (h0 : xs ≠ []) (h1 : xs.length < 1073741824) (h : ∀ x ∈ xs, (f x).wp k e) : ((m_law_pick (.dl 2) (.lst xs)).bind f).wp k e := pick_wp h0 h1 h
theorem dNe_self {x : D} {p : PyData} (h : toPy x = some p) (s : SeqAt.shaped p = true) : dNeD x x = .ok (.bl false) := by
  unfold dNeD pEq
  simp only [h]
  rw [N.asrt_of ⟨s, s⟩]
  simp [SeqAt.eqv_refl p (SeqAt.canLay_of_shaped s)]
theorem dEq_self {x : D} {p : PyData} (h : toPy x = some p) (s : SeqAt.shaped p = true) : dEqD x x = .ok (.bl true) := by
  unfold dEqD pEq
  simp only [h]
  rw [N.asrt_of ⟨s, s⟩]
  simp [SeqAt.eqv_refl p (SeqAt.canLay_of_shaped s)]
theorem thing_ne (n : Int) (t : D) (h : t ∈ [D.int 0, D.int (-1), D.non, D.str "words", D.tup [D.int 1, D.int 2], D.lst [D.int 3], D.bl true, D.int 7]) : dNeD (.tup [.int n, t]) (.tup [.int n, t]) = .ok (.bl false) := by
  simp only [List.mem_cons, List.not_mem_nil, or_false] at h
  rcases h with rfl | rfl | rfl | rfl | rfl | rfl | rfl | rfl
  · exact dNe_self (p := .tuple [.int n, .int 0]) rfl rfl
  · exact dNe_self (p := .tuple [.int n, .int (-1)]) rfl rfl
  · exact dNe_self (p := .tuple [.int n, .none]) rfl rfl
  · exact dNe_self (p := .tuple [.int n, .str "words"]) rfl (by
      show ((true && (PyData.canLay0 (.str "words") && true)) && decide (_ ≤ 64)) = true
      rw [show PyData.canLay0 (.str "words") = true by decide +kernel]
      rfl)
  · exact dNe_self (p := .tuple [.int n, .tuple [.int 1, .int 2]]) rfl rfl
  · exact dNe_self (p := .tuple [.int n, .list [.int 3]]) rfl rfl
  · exact dNe_self (p := .tuple [.int n, .bool true]) rfl rfl
  · exact dNe_self (p := .tuple [.int n, .int 7]) rfl rfl
theorem law_math : ∀ ns : List Int, ns.length ≤ 63 → (m_law (.lst (ns.map D.int))).wp (fun d => d = .bl true) (fun _ _ => False) := by
  intro ns hn
  unfold m_law
  have l1 : ∀ x : D, N.le1 [x] = .ok () := fun x => N.le1_of (by have := size64; simp; omega)
  have l4 : ∀ x y z w : D, N.le1 [x, y, z, w] = .ok () := fun x y z w => N.le1_of (by have := size64; simp; omega)
  have l8 : ∀ a b c d e f g h : D, N.le1 [a, b, c, d, e, f, g, h] = .ok () := fun a b c d e f g h => N.le1_of (by have := size64; simp; omega)
  have ng : dNeg (.int 1) = .ok (.int (-1)) := rfl
  simp only [N.ok_bind, N.ok_seq, box_ok (k := 0) (by decide), upTo_ok (n := 36) (by decide) (by decide), l1, le1_2, l4, l8, ng]
  refine N.loop_thenM (fun y : Int => ∃ n : Nat, n < 36 ∧ y = n) (fun _ _ => True) (fun y t n hy _ => ?_) (fun t _ => ?_) _ _ (fun y hy => ?_) trivial
  · obtain ⟨n, hn, rfl⟩ := hy
    simp only [N.bind_seq, N.ok_seq, N.ok_bind, N.bind_assoc]
    refine pick_bind (by simp) (by decide) (fun t ht => ?_)
    simp only [caught_all t n hn, base_all t n hn, thing_ne n t ht, N.ok_bind, N.tst_bl, N.ite_f, Bool.not_true, N.ok_seq]
    exact trivial
  · have e : dEqD (.tup [.int (-1), .int 3, .str "x", .int 2]) (.tup [.int (-1), .int 3, .str "x", .int 2]) = .ok (.bl true) := dEq_self (p := .tuple [.int (-1), .int 3, .str "x", .int 2]) rfl (by decide +kernel)
    simp only [N.ok_bind, l4, e, N.rt_fin]
    rfl
  · rw [List.mem_map] at hy
    obtain ⟨i, hi, rfl⟩ := hy
    exact ⟨i, List.mem_range.mp hi, rfl⟩
end M

set_option Elab.async false
set_option linter.all false
set_option maxRecDepth 100000
set_option maxHeartbeats 4000000
namespace M
open PySem PySem.Spec PyProof.Rows L2
theorem facts {P : Program} {w : World} {K : PySem.W.Frag} {h : Heap} {mg : Str → Option Value} {fa : Addr} (X : K.In h) (G : h.Ns mainGlobals mg) (hfa : mg ("law" : Str) = some (.ref fa)) (c : He.SaysD faL fnL K) (e : exL K = true) :
    ∃ fd : FuncData, (∀ (s : Shared) (v : Value), BindsTo s fd ⟨[v], []⟩ [("_law_script", v)]) ∧ ∀ base : Heap, K.In base → base.Ns mainGlobals mg → FnOk P w K mg base (L2.CX P w) 6 fa fd ["_law_script"] (spLaw K) := by
  obtain ⟨x0, e⟩ := He.ba e
  obtain ⟨x1, e⟩ := He.ba e
  obtain ⟨x2, e⟩ := He.ba e
  obtain ⟨x3, e⟩ := He.ba e
  obtain ⟨x4, e⟩ := He.ba e
  obtain ⟨x5, e⟩ := He.ba e
  obtain ⟨x6, e⟩ := He.ba e
  obtain ⟨x7, e⟩ := He.ba e
  obtain ⟨x8, e⟩ := He.ba e
  obtain ⟨x9, e⟩ := He.ba e
  obtain ⟨x10, e⟩ := He.ba e
  obtain ⟨x11, e⟩ := He.ba e
  obtain ⟨x12, e⟩ := He.ba e
  obtain ⟨x13, e⟩ := He.ba e
  obtain ⟨x14, e⟩ := He.ba e
  obtain ⟨x15, e⟩ := He.ba e
  obtain ⟨x16, e⟩ := He.ba e
  obtain ⟨x17, e⟩ := He.ba e
  obtain ⟨x18, e⟩ := He.ba e
  obtain ⟨x19, e⟩ := He.ba e
  obtain ⟨x20, e⟩ := He.ba e
  obtain ⟨x21, e⟩ := He.ba e
  obtain ⟨x22, e⟩ := He.ba e
  obtain ⟨x23, e⟩ := He.ba e
  obtain ⟨x24, e⟩ := He.ba e
  obtain ⟨x25, e⟩ := He.ba e
  obtain ⟨x26, e⟩ := He.ba e
  obtain ⟨x27, e⟩ := He.ba e
  obtain ⟨x28, e⟩ := He.ba e
  obtain ⟨x29, e⟩ := He.ba e
  obtain ⟨x30, e⟩ := He.ba e
  obtain ⟨x31, e⟩ := He.ba e
  obtain ⟨x32, e⟩ := He.ba e
  obtain ⟨x33, e⟩ := He.ba e
  obtain ⟨x34, e⟩ := He.ba e
  obtain ⟨x35, e⟩ := He.ba e
  obtain ⟨xe, e⟩ := He.ba e
  have el := hfa.symm.trans (He.glo_ok X G (c.fact 11 (f := .glo "law") rfl))
  cases el
  obtain ⟨fd0, F0⟩ : ∃ fd, FunD K "_law_box" "_law_box" (defArgs s_law_box) (defBody s_law_box) (defScope s_law_box) [] [] (He.ga K "_law_box") fd := c.def_ 0 (d := d0) rfl
  obtain ⟨fd1, F1⟩ : ∃ fd, FunD K "_law_take" "_law_take" (defArgs s_law_take) (defBody s_law_take) (defScope s_law_take) [] [] (He.ga K "_law_take") fd := c.def_ 1 (d := d1) rfl
  obtain ⟨fd2, F2⟩ : ∃ fd, FunD K "_law_pick" "_law_pick" (defArgs s_law_pick) (defBody s_law_pick) (defScope s_law_pick) [] [] (He.ga K "_law_pick") fd := c.def_ 2 (d := d2) rfl
  obtain ⟨fd3, F3⟩ : ∃ fd, FunD K "_law_raise_a" "_law_raise_a" (defArgs s_law_raise_a) (defBody s_law_raise_a) (defScope s_law_raise_a) [] [] (He.ga K "_law_raise_a") fd := c.def_ 3 (d := d3) rfl
  obtain ⟨fd4, F4⟩ : ∃ fd, FunD K "_law_raise_b" "_law_raise_b" (defArgs s_law_raise_b) (defBody s_law_raise_b) (defScope s_law_raise_b) [] [] (He.ga K "_law_raise_b") fd := c.def_ 4 (d := d4) rfl
  obtain ⟨fd5, F5⟩ : ∃ fd, FunD K "_law_raise_c" "_law_raise_c" (defArgs s_law_raise_c) (defBody s_law_raise_c) (defScope s_law_raise_c) [] [] (He.ga K "_law_raise_c") fd := c.def_ 5 (d := d5) rfl
  obtain ⟨fd6, F6⟩ : ∃ fd, FunD K "_law_raise" "_law_raise" (defArgs s_law_raise) (defBody s_law_raise) (defScope s_law_raise) [] [] (He.ga K "_law_raise") fd := c.def_ 6 (d := d6) rfl
  obtain ⟨fd7, F7⟩ : ∃ fd, FunD K "_law_caught_a" "_law_caught_a" (defArgs s_law_caught_a) (defBody s_law_caught_a) (defScope s_law_caught_a) [] [] (He.ga K "_law_caught_a") fd := c.def_ 7 (d := d7) rfl
  obtain ⟨fd8, F8⟩ : ∃ fd, FunD K "_law_caught_b" "_law_caught_b" (defArgs s_law_caught_b) (defBody s_law_caught_b) (defScope s_law_caught_b) [] [] (He.ga K "_law_caught_b") fd := c.def_ 8 (d := d8) rfl
  obtain ⟨fd9, F9⟩ : ∃ fd, FunD K "_law_caught_c" "_law_caught_c" (defArgs s_law_caught_c) (defBody s_law_caught_c) (defScope s_law_caught_c) [] [] (He.ga K "_law_caught_c") fd := c.def_ 9 (d := d9) rfl
  obtain ⟨fd10, F10⟩ : ∃ fd, FunD K "_law_is_base" "_law_is_base" (defArgs s_law_is_base) (defBody s_law_is_base) (defScope s_law_is_base) [] [] (He.ga K "_law_is_base") fd := c.def_ 10 (d := d10) rfl
  obtain ⟨fd11, F11⟩ : ∃ fd, FunD K "law" "law" (defArgs s_law) (defBody s_law) (defScope s_law) [] [] (He.ga K "law") fd := c.def_ 11 (d := d11) rfl
  obtain ⟨_, Fe0⟩ := c.def_ 12 (d := e0) rfl
  have E0 := etxt_of (nm := "InvalidText") (f := "at") X G (by unfold PySem.TErr.Fld; simp) (c.fact 12 (f := .glo "InvalidText") rfl) x0 Fe0
  obtain ⟨_, Fe1⟩ := c.def_ 13 (d := e1) rfl
  have E1 := etxt_of (nm := "InvalidHall") (f := "at") X G (by unfold PySem.TErr.Fld; simp) (c.fact 13 (f := .glo "InvalidHall") rfl) x1 Fe1
  obtain ⟨_, Fe2⟩ := c.def_ 14 (d := e2) rfl
  have E2 := etxt_of (nm := "InvalidCell") (f := "at") X G (by unfold PySem.TErr.Fld; simp) (c.fact 14 (f := .glo "InvalidCell") rfl) x2 Fe2
  obtain ⟨_, Fe3⟩ := c.def_ 15 (d := e3) rfl
  have E3 := etxt_of (nm := "InvalidLot") (f := "at") X G (by unfold PySem.TErr.Fld; simp) (c.fact 15 (f := .glo "InvalidLot") rfl) x3 Fe3
  obtain ⟨_, Fe4⟩ := c.def_ 16 (d := e4) rfl
  have E4 := etxt_of (nm := "InvalidWays") (f := "at") X G (by unfold PySem.TErr.Fld; simp) (c.fact 16 (f := .glo "InvalidWays") rfl) x4 Fe4
  obtain ⟨_, Fe5⟩ := c.def_ 17 (d := e5) rfl
  have E5 := etxt_of (nm := "InvalidWay") (f := "at") X G (by unfold PySem.TErr.Fld; simp) (c.fact 17 (f := .glo "InvalidWay") rfl) x5 Fe5
  obtain ⟨_, Fe6⟩ := c.def_ 18 (d := e6) rfl
  have E6 := etxt_of (nm := "InvalidTies") (f := "at") X G (by unfold PySem.TErr.Fld; simp) (c.fact 18 (f := .glo "InvalidTies") rfl) x6 Fe6
  obtain ⟨_, Fe7⟩ := c.def_ 19 (d := e7) rfl
  have E7 := etxt_of (nm := "InvalidBlocks") (f := "at") X G (by unfold PySem.TErr.Fld; simp) (c.fact 19 (f := .glo "InvalidBlocks") rfl) x7 Fe7
  obtain ⟨_, Fe8⟩ := c.def_ 20 (d := e8) rfl
  have E8 := etxt_of (nm := "InvalidRobots") (f := "at") X G (by unfold PySem.TErr.Fld; simp) (c.fact 20 (f := .glo "InvalidRobots") rfl) x8 Fe8
  obtain ⟨_, Fe9⟩ := c.def_ 21 (d := e9) rfl
  have E9 := etxt_of (nm := "InvalidPlan") (f := "at") X G (by unfold PySem.TErr.Fld; simp) (c.fact 21 (f := .glo "InvalidPlan") rfl) x9 Fe9
  obtain ⟨_, Fe10⟩ := c.def_ 22 (d := e10) rfl
  have E10 := etxt_of (nm := "InvalidTask") (f := "at") X G (by unfold PySem.TErr.Fld; simp) (c.fact 22 (f := .glo "InvalidTask") rfl) x10 Fe10
  obtain ⟨_, Fe11⟩ := c.def_ 23 (d := e11) rfl
  have E11 := etxt_of (nm := "InvalidOrders") (f := "at") X G (by unfold PySem.TErr.Fld; simp) (c.fact 23 (f := .glo "InvalidOrders") rfl) x11 Fe11
  obtain ⟨_, Fe12⟩ := c.def_ 24 (d := e12) rfl
  have E12 := etxt_of (nm := "InvalidStanding") (f := "at") X G (by unfold PySem.TErr.Fld; simp) (c.fact 24 (f := .glo "InvalidStanding") rfl) x12 Fe12
  obtain ⟨_, Fe13⟩ := c.def_ 25 (d := e13) rfl
  have E13 := etxt_of (nm := "InvalidHolds") (f := "at") X G (by unfold PySem.TErr.Fld; simp) (c.fact 25 (f := .glo "InvalidHolds") rfl) x13 Fe13
  obtain ⟨_, Fe14⟩ := c.def_ 26 (d := e14) rfl
  have E14 := etxt_of (nm := "InvalidLetter") (f := "at") X G (by unfold PySem.TErr.Fld; simp) (c.fact 26 (f := .glo "InvalidLetter") rfl) x14 Fe14
  obtain ⟨_, Fe15⟩ := c.def_ 27 (d := e15) rfl
  have E15 := etxt_of (nm := "InvalidBook") (f := "at") X G (by unfold PySem.TErr.Fld; simp) (c.fact 27 (f := .glo "InvalidBook") rfl) x15 Fe15
  obtain ⟨_, Fe16⟩ := c.def_ 28 (d := e16) rfl
  have E16 := etxt_of (nm := "InvalidScript") (f := "at") X G (by unfold PySem.TErr.Fld; simp) (c.fact 28 (f := .glo "InvalidScript") rfl) x16 Fe16
  obtain ⟨_, Fe17⟩ := c.def_ 29 (d := e17) rfl
  have E17 := etxt_of (nm := "InvalidStretches") (f := "at") X G (by unfold PySem.TErr.Fld; simp) (c.fact 29 (f := .glo "InvalidStretches") rfl) x17 Fe17
  obtain ⟨_, Fe18⟩ := c.def_ 30 (d := e18) rfl
  have E18 := etxt_of (nm := "InvalidTable") (f := "at") X G (by unfold PySem.TErr.Fld; simp) (c.fact 30 (f := .glo "InvalidTable") rfl) x18 Fe18
  obtain ⟨_, Fe19⟩ := c.def_ 31 (d := e19) rfl
  have E19 := etxt_of (nm := "InvalidGoods") (f := "at") X G (by unfold PySem.TErr.Fld; simp) (c.fact 31 (f := .glo "InvalidGoods") rfl) x19 Fe19
  obtain ⟨_, Fe20⟩ := c.def_ 32 (d := e20) rfl
  have E20 := etxt_of (nm := "InvalidStock") (f := "at") X G (by unfold PySem.TErr.Fld; simp) (c.fact 32 (f := .glo "InvalidStock") rfl) x20 Fe20
  obtain ⟨_, Fe21⟩ := c.def_ 33 (d := e21) rfl
  have E21 := etxt_of (nm := "InvalidDeeds") (f := "at") X G (by unfold PySem.TErr.Fld; simp) (c.fact 33 (f := .glo "InvalidDeeds") rfl) x21 Fe21
  obtain ⟨_, Fe22⟩ := c.def_ 34 (d := e22) rfl
  have E22 := etxt_of (nm := "InvalidWants") (f := "at") X G (by unfold PySem.TErr.Fld; simp) (c.fact 34 (f := .glo "InvalidWants") rfl) x22 Fe22
  obtain ⟨_, Fe23⟩ := c.def_ 35 (d := e23) rfl
  have E23 := etxt_of (nm := "InvalidComings") (f := "at") X G (by unfold PySem.TErr.Fld; simp) (c.fact 35 (f := .glo "InvalidComings") rfl) x23 Fe23
  obtain ⟨_, Fe24⟩ := c.def_ 36 (d := e24) rfl
  have E24 := etxt_of (nm := "InvalidLots") (f := "at") X G (by unfold PySem.TErr.Fld; simp) (c.fact 36 (f := .glo "InvalidLots") rfl) x24 Fe24
  obtain ⟨_, Fe25⟩ := c.def_ 37 (d := e25) rfl
  have E25 := etxt_of (nm := "InvalidLines") (f := "at") X G (by unfold PySem.TErr.Fld; simp) (c.fact 37 (f := .glo "InvalidLines") rfl) x25 Fe25
  obtain ⟨_, Fe26⟩ := c.def_ 38 (d := e26) rfl
  have E26 := etxt_of (nm := "InvalidHomes") (f := "at") X G (by unfold PySem.TErr.Fld; simp) (c.fact 38 (f := .glo "InvalidHomes") rfl) x26 Fe26
  obtain ⟨_, Fe27⟩ := c.def_ 39 (d := e27) rfl
  have E27 := etxt_of (nm := "InvalidLanes") (f := "at") X G (by unfold PySem.TErr.Fld; simp) (c.fact 39 (f := .glo "InvalidLanes") rfl) x27 Fe27
  obtain ⟨_, Fe28⟩ := c.def_ 40 (d := e28) rfl
  have E28 := etxt_of (nm := "InvalidPrices") (f := "at") X G (by unfold PySem.TErr.Fld; simp) (c.fact 40 (f := .glo "InvalidPrices") rfl) x28 Fe28
  obtain ⟨_, Fe29⟩ := c.def_ 41 (d := e29) rfl
  have E29 := etxt_of (nm := "InvalidRoutes") (f := "at") X G (by unfold PySem.TErr.Fld; simp) (c.fact 41 (f := .glo "InvalidRoutes") rfl) x29 Fe29
  obtain ⟨_, Fe30⟩ := c.def_ 42 (d := e30) rfl
  have E30 := etxt_of (nm := "InvalidPicture") (f := "at") X G (by unfold PySem.TErr.Fld; simp) (c.fact 42 (f := .glo "InvalidPicture") rfl) x30 Fe30
  obtain ⟨_, Fe31⟩ := c.def_ 43 (d := e31) rfl
  have E31 := etxt_of (nm := "InvalidIndex") (f := "at") X G (by unfold PySem.TErr.Fld; simp) (c.fact 43 (f := .glo "InvalidIndex") rfl) x31 Fe31
  obtain ⟨_, Fe32⟩ := c.def_ 44 (d := e32) rfl
  have E32 := etxt_of (nm := "Refused") (f := "at") X G (by unfold PySem.TErr.Fld; simp) (c.fact 44 (f := .glo "Refused") rfl) x32 Fe32
  obtain ⟨_, Fe33⟩ := c.def_ 45 (d := e33) rfl
  have E33 := etxt_of (nm := "InvalidSize") (f := "word") X G (by unfold PySem.TErr.Fld; simp) (c.fact 45 (f := .glo "InvalidSize") rfl) x33 Fe33
  obtain ⟨_, Fe34⟩ := c.def_ 46 (d := e34) rfl
  have E34 := etxt_of (nm := "NoRobot") (f := "robot") X G (by unfold PySem.TErr.Fld; simp) (c.fact 46 (f := .glo "NoRobot") rfl) x34 Fe34
  have x35 := bareB_ok x35
  let Z : Zt := { K := K, cs := fun c => He.ga K (nmT c), fs := fsT, at_ := fun _ => [], dl := DL, dlm := DLm }
  have T : Txt Z mg (fun c => He.ga K (cnT c)) (fun c => He.ma K (He.ga K (nmT c)) "__init__") := { b_int := He.free_ok X G (c.fact 49 (f := .free "int") rfl), b_abs := He.free_ok X G (c.fact 50 (f := .free "abs") rfl), b_len := He.free_ok X G (c.fact 51 (f := .free "len") rfl), b_range := He.free_ok X G (c.fact 52 (f := .free "range") rfl), e_InvalidText := E0, n_InvalidText := rfl, hx_InvalidText_at := (fun c h => by obtain rfl : c = 0 := (by simpa [exT] using h); exact rfl), eT_InvalidText := (fun c h => by obtain rfl : c = 0 := (by simpa [exT] using h); exact ⟨_, _, E0⟩), e_InvalidHall := E1, n_InvalidHall := rfl, hx_InvalidHall_at := (fun c h => by obtain rfl : c = 1 := (by simpa [exT] using h); exact rfl), eT_InvalidHall := (fun c h => by obtain rfl : c = 1 := (by simpa [exT] using h); exact ⟨_, _, E1⟩), e_InvalidCell := E2, n_InvalidCell := rfl, hx_InvalidCell_at := (fun c h => by obtain rfl : c = 2 := (by simpa [exT] using h); exact rfl), eT_InvalidCell := (fun c h => by obtain rfl : c = 2 := (by simpa [exT] using h); exact ⟨_, _, E2⟩), e_InvalidLot := E3, n_InvalidLot := rfl, hx_InvalidLot_at := (fun c h => by obtain rfl : c = 3 := (by simpa [exT] using h); exact rfl), eT_InvalidLot := (fun c h => by obtain rfl : c = 3 := (by simpa [exT] using h); exact ⟨_, _, E3⟩), e_InvalidWays := E4, n_InvalidWays := rfl, hx_InvalidWays_at := (fun c h => by obtain rfl : c = 4 := (by simpa [exT] using h); exact rfl), eT_InvalidWays := (fun c h => by obtain rfl : c = 4 := (by simpa [exT] using h); exact ⟨_, _, E4⟩), e_InvalidWay := E5, n_InvalidWay := rfl, hx_InvalidWay_at := (fun c h => by obtain rfl : c = 5 := (by simpa [exT] using h); exact rfl), eT_InvalidWay := (fun c h => by obtain rfl : c = 5 := (by simpa [exT] using h); exact ⟨_, _, E5⟩), e_InvalidTies := E6, n_InvalidTies := rfl, hx_InvalidTies_at := (fun c h => by obtain rfl : c = 6 := (by simpa [exT] using h); exact rfl), eT_InvalidTies := (fun c h => by obtain rfl : c = 6 := (by simpa [exT] using h); exact ⟨_, _, E6⟩), e_InvalidBlocks := E7, n_InvalidBlocks := rfl, hx_InvalidBlocks_at := (fun c h => by obtain rfl : c = 7 := (by simpa [exT] using h); exact rfl), eT_InvalidBlocks := (fun c h => by obtain rfl : c = 7 := (by simpa [exT] using h); exact ⟨_, _, E7⟩), e_InvalidRobots := E8, n_InvalidRobots := rfl, hx_InvalidRobots_at := (fun c h => by obtain rfl : c = 8 := (by simpa [exT] using h); exact rfl), eT_InvalidRobots := (fun c h => by obtain rfl : c = 8 := (by simpa [exT] using h); exact ⟨_, _, E8⟩), e_InvalidPlan := E9, n_InvalidPlan := rfl, hx_InvalidPlan_at := (fun c h => by obtain rfl : c = 9 := (by simpa [exT] using h); exact rfl), eT_InvalidPlan := (fun c h => by obtain rfl : c = 9 := (by simpa [exT] using h); exact ⟨_, _, E9⟩), e_InvalidTask := E10, n_InvalidTask := rfl, hx_InvalidTask_at := (fun c h => by obtain rfl : c = 10 := (by simpa [exT] using h); exact rfl), eT_InvalidTask := (fun c h => by obtain rfl : c = 10 := (by simpa [exT] using h); exact ⟨_, _, E10⟩), e_InvalidOrders := E11, n_InvalidOrders := rfl, hx_InvalidOrders_at := (fun c h => by obtain rfl : c = 11 := (by simpa [exT] using h); exact rfl), eT_InvalidOrders := (fun c h => by obtain rfl : c = 11 := (by simpa [exT] using h); exact ⟨_, _, E11⟩), e_InvalidStanding := E12, n_InvalidStanding := rfl, hx_InvalidStanding_at := (fun c h => by obtain rfl : c = 12 := (by simpa [exT] using h); exact rfl), eT_InvalidStanding := (fun c h => by obtain rfl : c = 12 := (by simpa [exT] using h); exact ⟨_, _, E12⟩), e_InvalidHolds := E13, n_InvalidHolds := rfl, hx_InvalidHolds_at := (fun c h => by obtain rfl : c = 13 := (by simpa [exT] using h); exact rfl), eT_InvalidHolds := (fun c h => by obtain rfl : c = 13 := (by simpa [exT] using h); exact ⟨_, _, E13⟩), e_InvalidLetter := E14, n_InvalidLetter := rfl, hx_InvalidLetter_at := (fun c h => by obtain rfl : c = 14 := (by simpa [exT] using h); exact rfl), eT_InvalidLetter := (fun c h => by obtain rfl : c = 14 := (by simpa [exT] using h); exact ⟨_, _, E14⟩), e_InvalidBook := E15, n_InvalidBook := rfl, hx_InvalidBook_at := (fun c h => by obtain rfl : c = 15 := (by simpa [exT] using h); exact rfl), eT_InvalidBook := (fun c h => by obtain rfl : c = 15 := (by simpa [exT] using h); exact ⟨_, _, E15⟩), e_InvalidScript := E16, n_InvalidScript := rfl, hx_InvalidScript_at := (fun c h => by obtain rfl : c = 16 := (by simpa [exT] using h); exact rfl), eT_InvalidScript := (fun c h => by obtain rfl : c = 16 := (by simpa [exT] using h); exact ⟨_, _, E16⟩), e_InvalidStretches := E17, n_InvalidStretches := rfl, hx_InvalidStretches_at := (fun c h => by obtain rfl : c = 17 := (by simpa [exT] using h); exact rfl), eT_InvalidStretches := (fun c h => by obtain rfl : c = 17 := (by simpa [exT] using h); exact ⟨_, _, E17⟩), e_InvalidTable := E18, n_InvalidTable := rfl, hx_InvalidTable_at := (fun c h => by obtain rfl : c = 18 := (by simpa [exT] using h); exact rfl), eT_InvalidTable := (fun c h => by obtain rfl : c = 18 := (by simpa [exT] using h); exact ⟨_, _, E18⟩), e_InvalidGoods := E19, n_InvalidGoods := rfl, hx_InvalidGoods_at := (fun c h => by obtain rfl : c = 19 := (by simpa [exT] using h); exact rfl), eT_InvalidGoods := (fun c h => by obtain rfl : c = 19 := (by simpa [exT] using h); exact ⟨_, _, E19⟩), e_InvalidStock := E20, n_InvalidStock := rfl, hx_InvalidStock_at := (fun c h => by obtain rfl : c = 20 := (by simpa [exT] using h); exact rfl), eT_InvalidStock := (fun c h => by obtain rfl : c = 20 := (by simpa [exT] using h); exact ⟨_, _, E20⟩), e_InvalidDeeds := E21, n_InvalidDeeds := rfl, hx_InvalidDeeds_at := (fun c h => by obtain rfl : c = 21 := (by simpa [exT] using h); exact rfl), eT_InvalidDeeds := (fun c h => by obtain rfl : c = 21 := (by simpa [exT] using h); exact ⟨_, _, E21⟩), e_InvalidWants := E22, n_InvalidWants := rfl, hx_InvalidWants_at := (fun c h => by obtain rfl : c = 22 := (by simpa [exT] using h); exact rfl), eT_InvalidWants := (fun c h => by obtain rfl : c = 22 := (by simpa [exT] using h); exact ⟨_, _, E22⟩), e_InvalidComings := E23, n_InvalidComings := rfl, hx_InvalidComings_at := (fun c h => by obtain rfl : c = 23 := (by simpa [exT] using h); exact rfl), eT_InvalidComings := (fun c h => by obtain rfl : c = 23 := (by simpa [exT] using h); exact ⟨_, _, E23⟩), e_InvalidLots := E24, n_InvalidLots := rfl, hx_InvalidLots_at := (fun c h => by obtain rfl : c = 24 := (by simpa [exT] using h); exact rfl), eT_InvalidLots := (fun c h => by obtain rfl : c = 24 := (by simpa [exT] using h); exact ⟨_, _, E24⟩), e_InvalidLines := E25, n_InvalidLines := rfl, hx_InvalidLines_at := (fun c h => by obtain rfl : c = 25 := (by simpa [exT] using h); exact rfl), eT_InvalidLines := (fun c h => by obtain rfl : c = 25 := (by simpa [exT] using h); exact ⟨_, _, E25⟩), e_InvalidHomes := E26, n_InvalidHomes := rfl, hx_InvalidHomes_at := (fun c h => by obtain rfl : c = 26 := (by simpa [exT] using h); exact rfl), eT_InvalidHomes := (fun c h => by obtain rfl : c = 26 := (by simpa [exT] using h); exact ⟨_, _, E26⟩), e_InvalidLanes := E27, n_InvalidLanes := rfl, hx_InvalidLanes_at := (fun c h => by obtain rfl : c = 27 := (by simpa [exT] using h); exact rfl), eT_InvalidLanes := (fun c h => by obtain rfl : c = 27 := (by simpa [exT] using h); exact ⟨_, _, E27⟩), e_InvalidPrices := E28, n_InvalidPrices := rfl, hx_InvalidPrices_at := (fun c h => by obtain rfl : c = 28 := (by simpa [exT] using h); exact rfl), eT_InvalidPrices := (fun c h => by obtain rfl : c = 28 := (by simpa [exT] using h); exact ⟨_, _, E28⟩), e_InvalidRoutes := E29, n_InvalidRoutes := rfl, hx_InvalidRoutes_at := (fun c h => by obtain rfl : c = 29 := (by simpa [exT] using h); exact rfl), eT_InvalidRoutes := (fun c h => by obtain rfl : c = 29 := (by simpa [exT] using h); exact ⟨_, _, E29⟩), e_InvalidPicture := E30, n_InvalidPicture := rfl, hx_InvalidPicture_at := (fun c h => by obtain rfl : c = 30 := (by simpa [exT] using h); exact rfl), eT_InvalidPicture := (fun c h => by obtain rfl : c = 30 := (by simpa [exT] using h); exact ⟨_, _, E30⟩), e_InvalidIndex := E31, n_InvalidIndex := rfl, hx_InvalidIndex_at := (fun c h => by obtain rfl : c = 31 := (by simpa [exT] using h); exact rfl), eT_InvalidIndex := (fun c h => by obtain rfl : c = 31 := (by simpa [exT] using h); exact ⟨_, _, E31⟩), e_Refused := E32, n_Refused := rfl, hx_Refused_at := (fun c h => by obtain rfl : c = 32 := (by simpa [exT] using h); exact rfl), eT_Refused := (fun c h => by obtain rfl : c = 32 := (by simpa [exT] using h); exact ⟨_, _, E32⟩), e_InvalidSize := E33, n_InvalidSize := rfl, hx_InvalidSize_word := (fun c h => by obtain rfl : c = 33 := (by simpa [exT] using h); exact rfl), eT_InvalidSize := (fun c h => by obtain rfl : c = 33 := (by simpa [exT] using h); exact ⟨_, _, E33⟩), e_NoRobot := E34, n_NoRobot := rfl, hx_NoRobot_robot := (fun c h => by obtain rfl : c = 34 := (by simpa [exT] using h); exact rfl), eT_NoRobot := (fun c h => by obtain rfl : c = 34 := (by simpa [exT] using h); exact ⟨_, _, E34⟩), g_InvalidCommand := (He.glo_ok X G (c.fact 47 (f := .glo "InvalidCommand") rfl)), f_InvalidCommand := rfl, q_InvalidCommand := x35.1, k_InvalidCommand := x35.2.1, x_InvalidCommand := x35.2.2.1, t_InvalidCommand := x35.2.2.2, g_HallError := (He.glo_ok X G (c.fact 48 (f := .glo "HallError") rfl)), ex := exB_ok xe, dl := rfl }
  have K0 := fun (base : Heap) => ok_law_box (Z := Z) (P := P) (w := w) (base := base) F0 T 
  have D_law_box : ∀ base : Heap, Df P w Z mg base "_law_box" 1 2 (app2 m_law_box) := fun base => ⟨⟨_, _, _, K0 base, (He.glo_ok X G (c.fact 0 (f := .glo "_law_box") rfl)), F0.kp, bind_all F0 fun _ _ _ _ _ _ us hl => match us, hl with | [_, _], _ => rfl⟩, ar2 _⟩
  have K1 := fun (base : Heap) => ok_law_take (Z := Z) (P := P) (w := w) (base := base) F1 T.dl T.b_int 
  have D_law_take : ∀ base : Heap, Df P w Z mg base "_law_take" 1 2 (app2 m_law_take) := fun base => ⟨⟨_, _, _, K1 base, (He.glo_ok X G (c.fact 1 (f := .glo "_law_take") rfl)), F1.kp, bind_all F1 fun _ _ _ _ _ _ us hl => match us, hl with | [_, _], _ => rfl⟩, ar2 _⟩
  have K2 := fun (base : Heap) => ok_law_pick (Z := Z) (P := P) (w := w) (base := base) F2 T (D_law_take base)
  have D_law_pick : ∀ base : Heap, Df P w Z mg base "_law_pick" 2 2 (app2 m_law_pick) := fun base => ⟨⟨_, _, _, K2 base, (He.glo_ok X G (c.fact 2 (f := .glo "_law_pick") rfl)), F2.kp, bind_all F2 fun _ _ _ _ _ _ us hl => match us, hl with | [_, _], _ => rfl⟩, ar2 _⟩
  have K3 := fun (base : Heap) => ok_law_raise_a (Z := Z) (P := P) (w := w) (base := base) F3 T 
  have D_law_raise_a : ∀ base : Heap, Df P w Z mg base "_law_raise_a" 1 2 (app2 m_law_raise_a) := fun base => ⟨⟨_, _, _, K3 base, (He.glo_ok X G (c.fact 3 (f := .glo "_law_raise_a") rfl)), F3.kp, bind_all F3 fun _ _ _ _ _ _ us hl => match us, hl with | [_, _], _ => rfl⟩, ar2 _⟩
  have K4 := fun (base : Heap) => ok_law_raise_b (Z := Z) (P := P) (w := w) (base := base) F4 T 
  have D_law_raise_b : ∀ base : Heap, Df P w Z mg base "_law_raise_b" 1 2 (app2 m_law_raise_b) := fun base => ⟨⟨_, _, _, K4 base, (He.glo_ok X G (c.fact 4 (f := .glo "_law_raise_b") rfl)), F4.kp, bind_all F4 fun _ _ _ _ _ _ us hl => match us, hl with | [_, _], _ => rfl⟩, ar2 _⟩
  have K5 := fun (base : Heap) => ok_law_raise_c (Z := Z) (P := P) (w := w) (base := base) F5 T 
  have D_law_raise_c : ∀ base : Heap, Df P w Z mg base "_law_raise_c" 1 2 (app2 m_law_raise_c) := fun base => ⟨⟨_, _, _, K5 base, (He.glo_ok X G (c.fact 5 (f := .glo "_law_raise_c") rfl)), F5.kp, bind_all F5 fun _ _ _ _ _ _ us hl => match us, hl with | [_, _], _ => rfl⟩, ar2 _⟩
  have K6 := fun (base : Heap) => ok_law_raise (Z := Z) (P := P) (w := w) (base := base) F6 T (D_law_raise_a base) (D_law_raise_b base) (D_law_raise_c base)
  have D_law_raise : ∀ base : Heap, Df P w Z mg base "_law_raise" 2 2 (app2 m_law_raise) := fun base => ⟨⟨_, _, _, K6 base, (He.glo_ok X G (c.fact 6 (f := .glo "_law_raise") rfl)), F6.kp, bind_all F6 fun _ _ _ _ _ _ us hl => match us, hl with | [_, _], _ => rfl⟩, ar2 _⟩
  have K7 := fun (base : Heap) => ok_law_caught_a (Z := Z) (P := P) (w := w) (base := base) F7 T (D_law_raise base)
  have D_law_caught_a : ∀ base : Heap, Df P w Z mg base "_law_caught_a" 3 2 (app2 m_law_caught_a) := fun base => ⟨⟨_, _, _, K7 base, (He.glo_ok X G (c.fact 7 (f := .glo "_law_caught_a") rfl)), F7.kp, bind_all F7 fun _ _ _ _ _ _ us hl => match us, hl with | [_, _], _ => rfl⟩, ar2 _⟩
  have K8 := fun (base : Heap) => ok_law_caught_b (Z := Z) (P := P) (w := w) (base := base) F8 T (D_law_caught_a base)
  have D_law_caught_b : ∀ base : Heap, Df P w Z mg base "_law_caught_b" 4 2 (app2 m_law_caught_b) := fun base => ⟨⟨_, _, _, K8 base, (He.glo_ok X G (c.fact 8 (f := .glo "_law_caught_b") rfl)), F8.kp, bind_all F8 fun _ _ _ _ _ _ us hl => match us, hl with | [_, _], _ => rfl⟩, ar2 _⟩
  have K9 := fun (base : Heap) => ok_law_caught_c (Z := Z) (P := P) (w := w) (base := base) F9 T (D_law_caught_b base)
  have D_law_caught_c : ∀ base : Heap, Df P w Z mg base "_law_caught_c" 5 2 (app2 m_law_caught_c) := fun base => ⟨⟨_, _, _, K9 base, (He.glo_ok X G (c.fact 9 (f := .glo "_law_caught_c") rfl)), F9.kp, bind_all F9 fun _ _ _ _ _ _ us hl => match us, hl with | [_, _], _ => rfl⟩, ar2 _⟩
  have K10 := fun (base : Heap) => ok_law_is_base (Z := Z) (P := P) (w := w) (base := base) F10 T (D_law_raise base)
  have D_law_is_base : ∀ base : Heap, Df P w Z mg base "_law_is_base" 3 2 (app2 m_law_is_base) := fun base => ⟨⟨_, _, _, K10 base, (He.glo_ok X G (c.fact 10 (f := .glo "_law_is_base") rfl)), F10.kp, bind_all F10 fun _ _ _ _ _ _ us hl => match us, hl with | [_, _], _ => rfl⟩, ar2 _⟩
  have K11 := fun (base : Heap) => ok_law (Z := Z) (P := P) (w := w) (base := base) F11 T (D_law_box base) (D_law_pick base) (D_law_caught_c base) (D_law_is_base base)
  have bl := FunD.bindsA (ps := ["_law_script"]) F11 fun _ _ _ _ _ _ us hl => match us, hl with | [_], _ => rfl
  exact ⟨fd11, fun s v => bl s [v] rfl, fun base _ _ => FnOk.imp (K11 base) (law_start (Z := Z) law_math)⟩
end M
open PySem PySem.W PySem.Calls PyProof.Rows
set_option maxHeartbeats 0 in
theorem PySem.Challenge.cw_nobodymeets_k00_whole_errors_and_what_th_holds : PySem.Challenge.rw_nobodymeets_k00_whole_errors_and_what_th.Holds := by
  w_on; o_law
  refine HandSHeadRun.head_any (r := OpenLaw.row PySem.Challenge.rw_nobodymeets_k00_whole_errors_and_what_th) (q := view (OpenLaw.row PySem.Challenge.rw_nobodymeets_k00_whole_errors_and_what_th).prog [50]) (H := M.hk) (ob := M.ob) (M := 12000) (loose := M.looseL) (d := HandSHeadRun.topDef (OpenLaw.row PySem.Challenge.rw_nobodymeets_k00_whole_errors_and_what_th).prog 50) (kwd := []) M.ob_eq
    (by kernel_rfl) (fun s => by kernel_rfl) M.run (by kernel_rfl) (by kernel_rfl) (by kernel_rfl) (by rfl) (by first | assumption | decide +kernel) (by decide +kernel) ⟨rfl, rfl, rfl, rfl, rfl, by decide +kernel⟩ ?hw ?hc
  case hw => w_witness2
  case hc =>
    refine M.walk (l := PySem.Challenge.rw_nobodymeets_k00_whole_errors_and_what_th) (k := 6) (x := "_law_script") rfl (by kernel_rfl) ⟨rfl, by decide, by decide⟩ ?F
    intro w mg fa h Y G hmg0
    obtain ⟨K, KX, c, ex⟩ := Y
    have hmg : mg ("law" : PySem.Str) = some (.ref fa) := by
      have e : (HandSHeadRun.topDef (OpenLaw.row PySem.Challenge.rw_nobodymeets_k00_whole_errors_and_what_th).prog 50).name = ("law" : PySem.Str) := by kernel_rfl
      rw [← e]
      exact hmg0
    obtain ⟨fd, hb, hF⟩ := M.facts (P := (PySem.Challenge.rw_nobodymeets_k00_whole_errors_and_what_th).prog) (w := w) KX G hmg c ex
    exact ⟨K, fd, KX, hb, hF⟩

